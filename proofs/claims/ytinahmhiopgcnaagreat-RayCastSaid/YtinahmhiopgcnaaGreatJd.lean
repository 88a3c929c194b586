/- The contract of the document's Clamp of vectors. -/
import Derived.Test.YtinahmhiopgcnaaGreatJc
namespace Go.Proofs.YtinahmhiopgcnaaGreat
open Go.RowKit
set_option linter.unusedVariables false
set_option linter.unusedSimpArgs false

theorem put3_below {w W : World} {r : Nat} (h : Below w.heap.size w W) (e : w.heap.size ≤ r) (u v z : Value) : Below w.heap.size w (((W.setCell ⟨r, 0, none⟩ u).setCell ⟨r, 1, none⟩ v).setCell ⟨r, 2, none⟩ z) :=
  ((h.setCell (p := ⟨r, 0, none⟩) e u).setCell (p := ⟨r, 1, none⟩) e v).setCell (p := ⟨r, 2, none⟩) e z
end Go.Proofs.YtinahmhiopgcnaaGreat
