/- The law of PanePoints, of the program's pane. -/
import Derived.Test.YtbggakbjppnchaaPn
import Derived.Test.YtbggakbjppnchaaPj
namespace Go.Proofs.Ytbggakbjppnchaa
open Go.RowKit
set_option linter.unusedVariables false

theorem ppoints_law (p : Pn) (w : World) (K : Pan w.heap.size w p) :
    Calls Try.prog 6 #[.agg #[.slice p.x.a p.x.n p.x.c, .slice p.y.a p.y.n p.y.c, .slice p.a p.n p.c]] w fun e w' => e = .returned (.bool true) ∧ Below w.heap.size w w' := ppoints_walk paneC p w K
end Go.Proofs.Ytbggakbjppnchaa
