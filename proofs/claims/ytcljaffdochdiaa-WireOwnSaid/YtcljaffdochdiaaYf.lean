/- The document's reader: Refuse, End, Raw. -/
import Derived.Test.YtcljaffdochdiaaYe
namespace Go.Proofs.Ytcljaffdochdiaa
open Go.RowKit
set_option linter.unusedVariables false
set_option linter.unusedSimpArgs false

def refE (e : Int) : Int := if e = 0 then 1 else e
def endS (n : Nat) (s : IS) : IS := if s.err = 0 ∧ s.pos < n then failS 23 s.pos s else s
/-- bytes that lie in memory are yielded -/
theorem src_bl {P : Program} {tx e' : TypeId} (hk : P.underlying tx = some (.slice e')) {W : World} {a : Option Addr} {n : Nat} {l : List Int} (h : BL W a n l) (hn : n = 0 → a = none ∨ ∃ x, a = some x) (c : Nat) : Src P 1 tx (.slice a n c) n (byC l) W := by
  have hl := h.hn
  by_cases n0 : n = 0
  · subst n0
    have : l = [] := List.eq_nil_of_length_eq_zero hl
    subst this
    cases a with
    | none => exact Src.ofNil _ hk c
    | some x => exact Src.ofSlice _ hk x 0 c [] rfl (fun j u hj => by simp at hj) (fun u hu => by cases hu)
  · obtain ⟨b, off, rfl, hb, hc⟩ := h.c (by omega)
    exact Src.ofSlice _ hk ⟨b, off, none⟩ n c (byC l) (by rw [byC_length]; omega) (fun j u hj => by
      rw [Addr.add_lit]
      unfold byC at hj
      rw [List.getElem?_map] at hj
      cases hx : l[j]? with
      | none => rw [hx] at hj; cases hj
      | some x => rw [hx] at hj; cases hj; exact hc j x hx) (one_ints .u8 l)
def rawOk (m : Int) (l : List Int) (s : IS) : Prop := (0 ≤ m ∧ m ≤ 16777216) ∧ wordOk l.length m.toNat s
instance (m : Int) (l : List Int) (s : IS) : Decidable (rawOk m l s) := by unfold rawOk; exact inferInstance
def rawV (m : Int) (l : List Int) (s : IS) : List Int := if rawOk m l s then wordL l m.toNat s else []
def rawS (m : Int) (l : List Int) (s : IS) : IS := if 0 ≤ m ∧ m ≤ 16777216 then wordS l.length m.toNat s else failS 22 s.last s
end Go.Proofs.Ytcljaffdochdiaa
