/- Contracts of the document's plane: between, on, opposite. -/
import Derived.Test.YtinahmhiopgcnaaNb
import Derived.Test.YtinahmhiopgcnaaBg
namespace Go.Proofs.Ytinahmhiopgcnaa
open Go.RowKit
set_option linter.unusedVariables false
set_option linter.unusedSimpArgs false

theorem BW.put {W : World} {n i : Nat} {l : List Value} (k : BW W n l) (v : Value) (u : Value) (hu : l[i]? = some u) : BW (W.setCell ⟨n, i, none⟩ v) n (l.set i v) := by
  refine ⟨fun j x h => ?_, fun j => (World.frozen?_setCell _ _ _ _).trans (k.f j), by rw [set_size]; exact k.lt⟩
  by_cases e : i = j
  · subst e
    have : x = v := by
      have hl : i < l.length := by
        apply Classical.byContradiction; intro c
        rw [List.getElem?_eq_none (by omega)] at hu; cases hu
      rw [List.getElem?_set_self hl] at h; cases h; rfl
    subst this
    exact World.cell?_setCell_same _ _ _ (k.c i u hu)
  · rw [List.getElem?_set_ne e] at h
    exact (World.cell?_setCell_other _ _ _ _ (fun h' => e (by cases h'; rfl))).trans (k.c j x h)
/-- a number of the document's own, turned round -/
theorem nv_neg (n : Int) : (!decide (n < 0) && !decide ((n.natAbs : Int) = 0)) = decide (-n < 0) ∧ ((-n).natAbs : Int) = n.natAbs := by
  refine ⟨?_, by omega⟩
  by_cases h : n < 0
  · rw [decide_eq_true h, decide_eq_false (by omega : ¬ -n < 0)]; rfl
  · by_cases z : n = 0
    · subst z; rfl
    · rw [decide_eq_false h, decide_eq_false (by omega : ¬ (n.natAbs : Int) = 0), decide_eq_true (by omega : -n < 0)]; rfl
end Go.Proofs.Ytinahmhiopgcnaa
