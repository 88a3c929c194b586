/- A slice of integers that came in, as a walk wants it. -/
import Derived.Test.YtmdcfnifbkpedaaProg
import Derived.WalkKit
import Derived.OpenShut
import Derived.ChangeSlices
import Derived.Carry
import Derived.LoopTactic
namespace Go.Proofs.Ytmdcfnifbkpedaa
open Go.RowKit Go.ChangeShapes

/-- the slice reads as the list -/
structure Ints (w : World) (k : IntKind) (a : Option Addr) (len cap : Nat) (zs : List Int) : Prop where
  hm : cap ≤ maxLen
  hl : len ≤ cap
  hz : zs.length = len
  wf : ∀ n ∈ zs, (Lit.int k n).wf = true
  at' : 0 < len → ∃ b off, a = some ⟨b, off, none⟩ ∧ b < w.heap.size ∧ ∀ i, i < len → w.cell? ⟨b, off + i, none⟩ = some (.int k (zs.getD i 0))
theorem Ints.get {w : World} {k : IntKind} {a : Option Addr} {len cap : Nat} {zs : List Int} (I : Ints w k a len cap zs) {i : Nat} (h : i < len) : (Lit.int k (zs.getD i 0)).wf = true := by
  have hi : i < zs.length := by rw [I.hz]; exact h
  have : zs.getD i 0 = zs[i] := by rw [List.getD_eq_getElem?_getD, List.getElem?_eq_getElem hi]; rfl
  rw [this]
  exact I.wf _ (List.getElem_mem hi)
theorem ints_of {H : Type} {enc : TypeId × Value → H} {w : World} {a : Option Addr} {len cap : Nat} {d : DataW H} {ps : List MemPlace} {t e : TypeId} {k : IntKind}
    (ht : Try.prog.underlying t = some (.slice e)) (he : Try.prog.underlying e = some (.int k)) (hc : Try.prog.cellsOf e = 1)
    (h : DataW.Trod enc Try.prog w 0 (fun _ => true) true t (.slice a len cap) d ps) : ∃ zs, Ints w k a len cap zs := by
  obtain ⟨fuel, hf⟩ := h
  rcases open_ints ht he hc hf with ⟨hcs, _⟩ | ⟨a', len', cap', zs, hcs, _, hl, hm, hz, _, hcell, hwz⟩
  · simp [Value.cells] at hcs
    obtain ⟨rfl, rfl, rfl⟩ := hcs
    exact ⟨[], by unfold maxLen; omega, by omega, rfl, (fun _ h => by cases h), fun h => absurd h (by omega)⟩
  · simp [Value.cells] at hcs
    obtain ⟨rfl, rfl, rfl⟩ := hcs
    simp only [if_true] at hz
    refine ⟨zs.take len, hm, hl, by simp; omega, fun n hn => hwz n (List.mem_of_mem_take hn), fun h0 => ?_⟩
    have c0 := hcell 0 (by omega)
    obtain ⟨b, off, spot⟩ := a'
    have hspot : spot = none := by simpa [Addr.add] using World.cell?_spot c0
    subst hspot
    refine ⟨b, off, rfl, ?_, fun i hi => ?_⟩
    · have := block_lt_of_cell c0
      simpa [Addr.add] using this
    · have ci := hcell i (by omega)
      have e1 : (zs.take len).getD i 0 = zs.getD i 0 := by
        rw [List.getD_eq_getElem?_getD, List.getD_eq_getElem?_getD, List.getElem?_take, if_pos hi]
      rw [e1]
      have e2 : (⟨b, off, none⟩ : Addr).add i = ⟨b, off + i, none⟩ := by simp [Addr.add]
      rw [← e2]; exact ci
end Go.Proofs.Ytmdcfnifbkpedaa
