/- awake of the ground's laws. -/
import Derived.Test.YtinahmhiopgcnaaGreatEk
namespace Go.Proofs.YtinahmhiopgcnaaGreat
open Go.RowKit
set_option linter.unusedVariables false
set_option linter.unusedSimpArgs false

theorem fsmp_lo {n lo : Nat} (h : lo ≤ n) : TrkLo lo (fsmp n) := by
  intro p hp
  rcases hp with e | e | e | e | e | e
  · cases e; exact h
  · cases e; show lo ≤ n + 1; omega
  · cases e; show lo ≤ n + 1 + 1; omega
  · cases e
  · cases e
  · cases e
end Go.Proofs.YtinahmhiopgcnaaGreat
