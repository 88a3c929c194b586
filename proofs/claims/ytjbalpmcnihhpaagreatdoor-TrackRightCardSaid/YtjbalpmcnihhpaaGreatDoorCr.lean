/- The law of TrackRight, of the program's track. -/
import Derived.Test.YtjbalpmcnihhpaaGreatDoorC7
import Derived.Test.YtjbalpmcnihhpaaGreatDoorB4
import Derived.Test.YtjbalpmcnihhpaaGreatDoorCq
namespace Go.Proofs.YtjbalpmcnihhpaaGreatDoor
open Go.RowKit
set_option linter.unusedVariables false

theorem tkright_law (k : Tk) (w : World) (hE : ErT w) (K : TkM w.heap.size w k) :
    Calls Tryz.prog 3 #[trkV k.t] w fun e w' => e = .returned (.bool true) ∧ Below w.heap.size w w' := kright_walk trackC (tawake trackC) k w.heap.size w (Nat.le_refl _) hE K
end Go.Proofs.YtjbalpmcnihhpaaGreatDoor
