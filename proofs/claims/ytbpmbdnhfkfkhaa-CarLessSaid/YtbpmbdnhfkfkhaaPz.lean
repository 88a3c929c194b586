/- A slice of numbers that came in, as a walk wants it. -/
import Derived.Test.YtbpmbdnhfkfkhaaBp
import Derived.Deep.Slices
import Derived.ChangeSame
import Derived.Lib.SmallJoins
namespace Go.Proofs.Ytbpmbdnhfkfkhaa
open Go.RowKit Go.ChangeShapes Go.WideShapes Go.Deep Go.Joins
set_option linter.unusedVariables false

theorem nums_of {H : Type} {enc : TypeId × Value → H} {w : World} {v : Value} {y : DataW H × List MemPlace} {fuel : Nat} {t e : TypeId}
    (ht : Try.prog.underlying t = some (.slice e)) (he : Try.prog.underlying e = some (.int .i64)) (hc : Try.prog.cellsOf e = 1)
    (hf : DataW.trod enc Try.prog w 0 (fun _ => true) true fuel t [v] = some y) : ∃ s : Sl, v = .slice s.a s.n s.c ∧ Nums w.heap.size w s := by
  rcases open_ints ht he hc hf with ⟨hcs, _⟩ | ⟨a', len', cap', zs, hcs, _, hl, hm, hz, _, hcell, hwz⟩
  · simp at hcs
    exact ⟨⟨none, 0, 0, fun _ => 0⟩, hcs, ⟨by show 0 ≤ maxLen; unfold maxLen; omega, Nat.le_refl _, fun i h => absurd h (by show ¬ i < 0; omega), fun h => absurd h (by show ¬ 0 < 0; omega)⟩⟩
  · simp at hcs
    simp only [if_true] at hz
    refine ⟨⟨some a', len', cap', fun i => zs.getD i 0⟩, hcs, ⟨hm, hl, fun i hi => ?_, fun h0 => ?_⟩⟩
    · have hi' : i < len' := hi
      have hil : i < zs.length := by omega
      have : zs.getD i 0 = zs[i] := by rw [List.getD_eq_getElem?_getD, List.getElem?_eq_getElem hil]; rfl
      show (Lit.int .i64 (zs.getD i 0)).wf = true
      rw [this]; exact hwz _ (List.getElem_mem hil)
    · have h0' : 0 < len' := h0
      have c0 := hcell 0 (by omega)
      obtain ⟨b, off, spot⟩ := a'
      have hspot : spot = none := by simpa [Addr.add] using World.cell?_spot c0
      subst hspot
      refine ⟨b, off, rfl, ?_, fun i hi => ?_⟩
      · have := block_lt_of_cell c0
        simpa [Addr.add] using this
      · have hi' : i < len' := hi
        have ci := hcell i (by omega)
        have e2 : (⟨b, off, none⟩ : Addr).add i = ⟨b, off + i, none⟩ := by simp [Addr.add]
        rw [← e2]; exact ci
end Go.Proofs.Ytbpmbdnhfkfkhaa
