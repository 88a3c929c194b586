/- The document's reader: word. -/
import Derived.Test.YtcljaffdochdiaaYc
namespace Go.Proofs.Ytcljaffdochdiaa
open Go.RowKit
set_option linter.unusedVariables false
set_option linter.unusedSimpArgs false

theorem wpg {P : Program} {c : Code} {Q : Exit → Act → World → Prop} {a : Act} {W : World} (S : World → Prop) (h : S W) (k : ∀ W', S W' → Code.wp P c Q a W') : Code.wp P c Q a W := k W h
theorem callsg {P : Program} {f : Nat} {args : Array Value} {W : World} {K : Ending → World → Prop} (S : World → Prop) (h : S W) (k : ∀ W', S W' → Calls P f args W' K) : Calls P f args W K := k W h
theorem BL.sub {W : World} {a : Option Addr} {n : Nat} {l : List Int} (h : BL W a n l) {q m : Nat} (hq : q + m ≤ n) : BL W (a.map (fun x => x.add q)) m ((l.drop q).take m) := by
  have hl := h.hn
  refine ⟨by rw [List.length_take, List.length_drop]; omega, fun x hx => h.u x (List.mem_of_mem_drop (List.mem_of_mem_take hx)), fun h0 => ?_⟩
  obtain ⟨b, off, rfl, hb, hc⟩ := h.c (by omega)
  refine ⟨b, off + q, by rw [Option.map_some, Addr.add_lit], hb, fun i x hx => ?_⟩
  rw [show off + q + i = off + (q + i) by omega]
  apply hc
  rw [List.getElem?_take] at hx
  split at hx
  · rw [List.getElem?_drop] at hx; exact hx
  · cases hx
theorem BL.nought {W : World} {a : Option Addr} {l : List Int} (q : Nat) : BL W a 0 ((l.drop q).take 0) := ⟨by simp, fun x hx => by simp at hx, fun h => absurd h (by omega)⟩
/-- the word ahead -/
def wordL (l : List Int) (m : Nat) (s : IS) : List Int := (l.drop s.pos).take m
def wordS (N m : Nat) (s : IS) : IS := if s.err = 0 then (if s.pos + m ≤ N then { s with pos := s.pos + m, last := s.pos } else failS 20 N s) else s
def wordOk (N m : Nat) (s : IS) : Prop := s.err = 0 ∧ s.pos + m ≤ N
theorem bel_drewN (w : World) (k : Nat) : Below w.heap.size w (w.drewN k) := by
  first
    | exact ⟨rfl, rfl, rfl, Nat.le_refl _, fun _ _ => rfl⟩
    | (refine ⟨?_, ?_, ?_, ?_, ?_⟩ <;> simp)
theorem IN.drewN {W : World} {nb : Nat} {a : Option Addr} {n c : Nat} {l : List Int} {s : IS} (h : IN W nb a n c l s) (k : Nat) : IN (W.drewN k) nb a n c l s :=
  h.grown (row := none) (grown_below (bel_drewN W k) none) (fun j e => by cases e)
end Go.Proofs.Ytcljaffdochdiaa
