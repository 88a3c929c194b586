/- The law of TrackLess, of the program's track. -/
import Derived.Test.YtjbalpmcnihhpaaDoorC7
import Derived.Test.YtjbalpmcnihhpaaDoorB4
import Derived.Test.YtjbalpmcnihhpaaDoorCm
import Derived.Test.YtjbalpmcnihhpaaDoorCq
namespace Go.Proofs.YtjbalpmcnihhpaaDoor
open Go.RowKit
set_option linter.unusedVariables false


theorem tkless_law (k : Tk) (w : World) (hE : ErT w) (K : TkM w.heap.size w k) :
    Calls Tryd.prog 5 #[trkV k.t] w fun e w' => e = .returned (.bool true) ∧ Below w.heap.size w w' := kless_walk trackC (tawake trackC) k w.heap.size w (Nat.le_refl _) hE K
end Go.Proofs.YtjbalpmcnihhpaaDoor
