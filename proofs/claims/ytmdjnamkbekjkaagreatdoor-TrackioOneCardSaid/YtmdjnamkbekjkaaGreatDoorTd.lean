/- -/
import Derived.Test.YtmdjnamkbekjkaaGreatDoorD8
import Derived.Test.YtmdjnamkbekjkaaGreatDoorXu
namespace Go.Proofs.YtmdjnamkbekjkaaGreatDoor
open Go.RowKit
set_option linter.unusedVariables false
theorem tioone_law (a : Option Addr) (n c : Nat) (zs : List Int) (w : World) (hE : ErT w) (J : Ints w .u8 a n c zs) :
  Calls Tryz.prog 6 #[.slice a n c] w fun e w' => e = .returned (.bool true) ∧ Below w.heap.size w w' :=
 tioone_walk tioC (tio_awake tioC) a n c zs w hE (bl_intsX J) J.hl J.hm
end Go.Proofs.YtmdjnamkbekjkaaGreatDoor
