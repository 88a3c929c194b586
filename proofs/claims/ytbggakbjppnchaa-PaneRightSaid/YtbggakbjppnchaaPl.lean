/- The laws of stage 9, of the program's pane: right, told, between. -/
import Derived.Test.YtbggakbjppnchaaPn
import Derived.Test.YtbggakbjppnchaaPi
namespace Go.Proofs.Ytbggakbjppnchaa
open Go.RowKit
set_option linter.unusedVariables false

theorem pright_law (p : Pn) (i : Int) (w : World) (K : Pan w.heap.size w p) (wi : (Lit.int .i64 i).wf = true) :
    Calls Try.prog 3 #[.agg #[.slice p.x.a p.x.n p.x.c, .slice p.y.a p.y.n p.y.c, .slice p.a p.n p.c], .int .i64 i] w fun e w' => e = .returned (.bool true) ∧ Below w.heap.size w w' := pright_walk paneC p i w (bounds_i64 wi) K
theorem peval_law (p : Pn) (x y : Int) (w : World) (K : Pan w.heap.size w p) (wx : (Lit.int .i64 x).wf = true) (wy : (Lit.int .i64 y).wf = true) :
    Calls Try.prog 4 #[.agg #[.slice p.x.a p.x.n p.x.c, .slice p.y.a p.y.n p.y.c, .slice p.a p.n p.c], .int .i64 x, .int .i64 y] w fun e w' => e = .returned (.bool true) ∧ Below w.heap.size w w' := peval_walk paneC p x y w (bounds_i64 wx) (bounds_i64 wy) K
theorem pbetween_law (p : Pn) (x y : Int) (w : World) (K : Pan w.heap.size w p) (wx : (Lit.int .i64 x).wf = true) (wy : (Lit.int .i64 y).wf = true) :
    Calls Try.prog 5 #[.agg #[.slice p.x.a p.x.n p.x.c, .slice p.y.a p.y.n p.y.c, .slice p.a p.n p.c], .int .i64 x, .int .i64 y] w fun e w' => e = .returned (.bool true) ∧ Below w.heap.size w w' := pbetween_walk paneC p x y w (bounds_i64 wx) (bounds_i64 wy) K
end Go.Proofs.Ytbggakbjppnchaa
