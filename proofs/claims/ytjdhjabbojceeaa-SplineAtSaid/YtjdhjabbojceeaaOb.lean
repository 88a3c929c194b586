/- A slice of pairs of integers that came in, as a walk wants it. -/
import Derived.Test.YtjdhjabbojceeaaBk
import Derived.Deep.Slices
import Derived.ChangeSame
namespace Go.Proofs.Ytjdhjabbojceeaa
open Go.RowKit Go.ChangeShapes Go.WideShapes Go.Deep
set_option linter.unusedVariables false

/-- the slice reads as the points (X 0, Y 0), (X 1, Y 1), .. -/
structure Dots (w : World) (a : Option Addr) (len cap : Nat) (X Y : Nat → Int) : Prop where
  hm : cap ≤ maxLen
  hl : len ≤ cap
  wf : ∀ i, i < len → (Lit.int .i64 (X i)).wf = true ∧ (Lit.int .i64 (Y i)).wf = true
  at' : 0 < len → ∃ b off, a = some ⟨b, off, none⟩ ∧ b < w.heap.size ∧ ∀ i, i < len → w.cell? ⟨b, off + i * 2, none⟩ = some (.int .i64 (X i)) ∧ w.cell? ⟨b, off + i * 2 + 1, none⟩ = some (.int .i64 (Y i))
theorem dots_of {H : Type} {enc : TypeId × Value → H} {P : Program} {w : World} {a : Option Addr} {len cap : Nat} {d : DataW H} {ps : List MemPlace} {t e : TypeId} {f0 f1 : Field}
    (ht : P.underlying t = some (.slice e)) (he : P.underlying e = some (.struct #[f0, f1])) (hk0 : P.underlying f0.type = some (.int .i64)) (hk1 : P.underlying f1.type = some (.int .i64))
    (ho : (f0.offset, f1.offset, P.cellsOf f0.type, P.cellsOf f1.type, P.cellsOf e) = (0, 1, 1, 1, 2))
    (h : DataW.Trod enc P w 0 (fun _ => true) true t (.slice a len cap) d ps) : ∃ X Y, Dots w a len cap X Y := by
  simp only [Prod.mk.injEq] at ho
  obtain ⟨o0, o1, c0, c1, h2⟩ := ho
  obtain ⟨fuel, hf⟩ := h
  rcases open_slice ht hf with ⟨hcs, _⟩ | ⟨a', len', cap', m, n, D, Pl, hcs, _, hl, hm, hmm, _, hi⟩
  · simp [Value.cells] at hcs
    obtain ⟨rfl, rfl, rfl⟩ := hcs
    exact ⟨fun _ => 0, fun _ => 0, by unfold maxLen; omega, by omega, fun i h => absurd h (by omega), fun h => absurd h (by omega)⟩
  · simp [Value.cells] at hcs
    obtain ⟨rfl, rfl, rfl⟩ := hcs
    simp only [if_true] at hmm
    subst hmm
    have key : ∀ i, i < m → ∃ q : Int × Int, (Lit.int .i64 q.1).wf = true ∧ (Lit.int .i64 q.2).wf = true ∧ w.cell? (a'.add (i * 2)) = some (.int .i64 q.1) ∧ w.cell? (a'.add (i * 2 + 1)) = some (.int .i64 q.2) := by
      intro i hin
      obtain ⟨cs, hc, hd⟩ := hi i hin
      rw [h2] at hc
      obtain ⟨y0, y1, q, _, hlen, g0, g1⟩ := trod_struct2 he hd
      rw [o0, c0] at g0
      rw [o1, c1] at g1
      obtain ⟨x, ex, _, wx⟩ := DataW.trod_int hk0 g0
      obtain ⟨y, ey, _, wy⟩ := DataW.trod_int hk1 g1
      have hcell := (World.cells?_some hc).2.2
      refine ⟨(x, y), wx, wy, ?_, ?_⟩
      · have e0 := congrArg (fun l => l[0]?) ex
        have k0 := hcell 0 (by omega)
        simp at e0
        rw [e0] at k0
        have r : (a'.add (i * 2)).add 0 = a'.add (i * 2) := by rw [add_add]; rfl
        rw [r] at k0; exact k0
      · have e0 := congrArg (fun l => l[0]?) ey
        have k0 := hcell 1 (by omega)
        simp at e0
        rw [e0] at k0
        have r : (a'.add (i * 2)).add 1 = a'.add (i * 2 + 1) := add_add _ _ _
        rw [r] at k0; exact k0
    obtain ⟨f, hf2⟩ := choose_lt key
    refine ⟨fun i => (f i).1, fun i => (f i).2, hm, hl, fun i h => ⟨(hf2 i (by omega)).1, (hf2 i (by omega)).2.1⟩, fun h0 => ?_⟩
    have k0 := (hf2 0 (by omega)).2.2.1
    obtain ⟨b, off, spot⟩ := a'
    have hspot : spot = none := by simpa [Addr.add] using World.cell?_spot k0
    subst hspot
    refine ⟨b, off, rfl, ?_, fun i hin => ?_⟩
    · have := block_lt_of_cell k0
      simpa [Addr.add] using this
    · have k := (hf2 i (by omega)).2.2
      have e1 : (⟨b, off, none⟩ : Addr).add (i * 2) = ⟨b, off + i * 2, none⟩ := by simp [Addr.add]
      have e2 : (⟨b, off, none⟩ : Addr).add (i * 2 + 1) = ⟨b, off + i * 2 + 1, none⟩ := by simp [Addr.add]; omega
      rw [e1, e2] at k
      exact k
theorem Dots.below {w w' : World} {a : Option Addr} {len cap : Nat} {X Y : Nat → Int} {B : Nat} (D : Dots w a len cap X Y) (h : Below B w w') (hB : w.heap.size ≤ B) : Dots w' a len cap X Y :=
  ⟨D.hm, D.hl, D.wf, fun h0 => by
    obtain ⟨b, off, rfl, hb, hc⟩ := D.at' h0
    exact ⟨b, off, rfl, by have := h.size; omega, fun i hi => ⟨(h.cell (p := ⟨b, _, none⟩) (by show b < B; omega)).trans (hc i hi).1, (h.cell (p := ⟨b, _, none⟩) (by show b < B; omega)).trans (hc i hi).2⟩⟩⟩
end Go.Proofs.Ytjdhjabbojceeaa
