/- The law of SplineClose, of the program's spline. -/
import Derived.Test.YtjdhjabbojceeaaSp
import Derived.Test.YtjdhjabbojceeaaSl
namespace Go.Proofs.Ytjdhjabbojceeaa
open Go.RowKit
set_option linter.unusedVariables false

theorem sclose_law (a : Option Addr) (n c : Nat) (X Y : Nat → Int) (px py : Int) (w : World) (D : Dots w a n c X Y) (wx : (Lit.int .i64 px).wf = true) (wy : (Lit.int .i64 py).wf = true) :
    Calls Try.prog 8 #[.slice a n c, .agg #[.int .i64 px, .int .i64 py]] w fun e w' => e = .returned (.bool true) ∧ Below w.heap.size w w' := sclose_walk splineC a n c X Y px py w (bounds_i64 wx) (bounds_i64 wy) D
end Go.Proofs.Ytjdhjabbojceeaa
