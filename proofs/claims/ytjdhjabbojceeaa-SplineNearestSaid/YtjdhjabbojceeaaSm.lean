/- The laws of stage 11, of the program's spline: places, samples, lengths, the nearest. -/
import Derived.Test.YtjdhjabbojceeaaSp
import Derived.Test.YtjdhjabbojceeaaSj
namespace Go.Proofs.Ytjdhjabbojceeaa
open Go.RowKit
set_option linter.unusedVariables false

theorem sat_law (a : Option Addr) (n c : Nat) (X Y : Nat → Int) (i t : Int) (w : World) (D : Dots w a n c X Y) (wi : (Lit.int .i64 i).wf = true) (wt : (Lit.int .i64 t).wf = true) :
    Calls Try.prog 3 #[.slice a n c, .int .i64 i, .int .i64 t] w fun e w' => e = .returned (.bool true) ∧ Below w.heap.size w w' := sat_walk splineC a n c X Y i t w (bounds_i64 wi) (bounds_i64 wt) D
theorem ssamples_law (a : Option Addr) (n c : Nat) (X Y : Nat → Int) (w : World) (D : Dots w a n c X Y) :
    Calls Try.prog 4 #[.slice a n c] w fun e w' => e = .returned (.bool true) ∧ Below w.heap.size w w' := ssamples_walk splineC a n c X Y w D
theorem slengths_law (a : Option Addr) (n c : Nat) (X Y : Nat → Int) (w : World) (D : Dots w a n c X Y) :
    Calls Try.prog 5 #[.slice a n c] w fun e w' => e = .returned (.bool true) ∧ Below w.heap.size w w' := slengths_walk splineC a n c X Y w D
theorem snearest_law (a : Option Addr) (n c : Nat) (X Y : Nat → Int) (px py : Int) (w : World) (D : Dots w a n c X Y) (wx : (Lit.int .i64 px).wf = true) (wy : (Lit.int .i64 py).wf = true) :
    Calls Try.prog 6 #[.slice a n c, .agg #[.int .i64 px, .int .i64 py]] w fun e w' => e = .returned (.bool true) ∧ Below w.heap.size w w' := snearest_walk splineC a n c X Y px py w (bounds_i64 wx) (bounds_i64 wy) D
end Go.Proofs.Ytjdhjabbojceeaa
