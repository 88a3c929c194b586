/- The law of TrackBars, of the program's track. -/
import Derived.Test.YtjbalpmcnihhpaaDoorC7
import Derived.Test.YtjbalpmcnihhpaaDoorB4
import Derived.Test.YtjbalpmcnihhpaaDoorCj
import Derived.Test.YtjbalpmcnihhpaaDoorCq
namespace Go.Proofs.YtjbalpmcnihhpaaDoor
open Go.RowKit
set_option linter.unusedVariables false


theorem tkbars_law (k : Tk) (w : World) (hE : ErT w) (K : TkM w.heap.size w k) :
    Calls Tryd.prog 3 #[trkV k.t] w fun e w' => e = .returned (.bool true) ∧ Below w.heap.size w w' := kbars_walk trackC (tawake trackC) k w.heap.size w (Nat.le_refl _) hE K
end Go.Proofs.YtjbalpmcnihhpaaDoor
