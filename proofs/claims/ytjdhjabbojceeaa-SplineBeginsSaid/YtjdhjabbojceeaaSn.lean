/- The law of SplineBegins, of the program's spline. -/
import Derived.Test.YtjdhjabbojceeaaSp
import Derived.Test.YtjdhjabbojceeaaSk
namespace Go.Proofs.Ytjdhjabbojceeaa
open Go.RowKit
set_option linter.unusedVariables false

theorem sbegins_law (a : Option Addr) (n c : Nat) (X Y : Nat → Int) (i : Int) (w : World) (D : Dots w a n c X Y) (wi : (Lit.int .i64 i).wf = true) :
    Calls Try.prog 7 #[.slice a n c, .int .i64 i] w fun e w' => e = .returned (.bool true) ∧ Below w.heap.size w w' := sbegins_walk splineC a n c X Y i w (bounds_i64 wi) D
end Go.Proofs.Ytjdhjabbojceeaa
