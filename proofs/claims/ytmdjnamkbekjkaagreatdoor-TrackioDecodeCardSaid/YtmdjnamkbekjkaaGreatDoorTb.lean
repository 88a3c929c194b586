/- -/
import Derived.Test.YtmdjnamkbekjkaaGreatDoorD8
import Derived.Test.YtmdjnamkbekjkaaGreatDoorXs
import Derived.Test.YtmdjnamkbekjkaaGreatDoorXw
namespace Go.Proofs.YtmdjnamkbekjkaaGreatDoor
open Go.RowKit
set_option linter.unusedVariables false
theorem refDec : RefDec := fun a n c l w h hc hm hn => r15Decode_any a n c l w h hc hm hn
theorem tiodec_law (a : Option Addr) (n c : Nat) (zs : List Int) (w : World) (hE : ErT w) (J : Ints w .u8 a n c zs) :
  Calls Tryz.prog 4 #[.slice a n c] w fun e w' => e = .returned (.bool true) ∧ Below w.heap.size w w' :=
 tiodec_walk tioC (tio_awake tioC) refDec a n c zs w hE (bl_intsX J) J.hl J.hm
end Go.Proofs.YtmdjnamkbekjkaaGreatDoor
