/- The law of TrackStarts, of the program's track. -/
import Derived.Test.YtjbalpmcnihhpaaDoorC7
import Derived.Test.YtjbalpmcnihhpaaDoorB4
import Derived.Test.YtjbalpmcnihhpaaDoorCk
import Derived.Test.YtjbalpmcnihhpaaDoorCq
import Derived.Test.YtjbalpmcnihhpaaDoorBl
namespace Go.Proofs.YtjbalpmcnihhpaaDoor
open Go.RowKit
set_option linter.unusedVariables false

theorem plBey : PlBey := fun ax ay bx by' px py w => plBeyond_any ax ay bx by' px py w
theorem tkstarts_law (k : Tk) (w : World) (hE : ErT w) (K : TkM w.heap.size w k) :
    Calls Tryd.prog 4 #[trkV k.t] w fun e w' => e = .returned (.bool true) ∧ Below w.heap.size w w' := kstarts_walk trackC (tawake trackC) plBey k w.heap.size w (Nat.le_refl _) hE K
end Go.Proofs.YtjbalpmcnihhpaaDoor
