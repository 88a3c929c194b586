/- -/
import Derived.Test.YtmdjnamkbekjkaaGreatDoorD8
import Derived.Test.YtmdjnamkbekjkaaGreatDoorXr
import Derived.Test.YtmdjnamkbekjkaaGreatDoorCq
namespace Go.Proofs.YtmdjnamkbekjkaaGreatDoor
open Go.RowKit
set_option linter.unusedVariables false
theorem tioenc_law (k : Tk) (w : World) (hE : ErT w) (K : TkM w.heap.size w k) (hh : 0 ≤ k.t.head ∧ k.t.head ≤ 4294967295) :
  Calls Tryz.prog 3 #[trkV k.t] w fun e w' => e = .returned (.bool true) ∧ Below w.heap.size w w' := by
 rw [← tk_val k]
 exact tioenc_walk tioC (tio_awake tioC) (adOf k) (tdOf k) w.heap.size w (Nat.le_refl _) hE hh (tk_can K)
end Go.Proofs.YtmdjnamkbekjkaaGreatDoor
