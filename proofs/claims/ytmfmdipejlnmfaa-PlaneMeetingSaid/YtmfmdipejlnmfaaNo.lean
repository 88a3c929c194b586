/- The laws of stage 7, of the program's plane. -/
import Derived.Test.YtmfmdipejlnmfaaNn
import Derived.Test.YtmfmdipejlnmfaaNm
namespace Go.Proofs.Ytmfmdipejlnmfaa
open Go.RowKit
set_option linter.unusedVariables false

theorem pside_law (ax ay bx by' px py : Int) (w0 : (Lit.int .i64 ax).wf = true) (w1 : (Lit.int .i64 ay).wf = true) (w2 : (Lit.int .i64 bx).wf = true) (w3 : (Lit.int .i64 by').wf = true) (w4 : (Lit.int .i64 px).wf = true) (w5 : (Lit.int .i64 py).wf = true) (w : World) :
    Calls Try.prog 3 #[.agg #[.int .i64 ax, .int .i64 ay, .int .i64 bx, .int .i64 by', .int .i64 px, .int .i64 py]] w fun e w' => e = .returned (.bool true) ∧ Below w.heap.size w w' := pside_walk planeC ax ay bx by' px py w
theorem pcross_law (ax ay bx by' px py qx qy : Int) (w0 : (Lit.int .i64 ax).wf = true) (w1 : (Lit.int .i64 ay).wf = true) (w2 : (Lit.int .i64 bx).wf = true) (w3 : (Lit.int .i64 by').wf = true) (w4 : (Lit.int .i64 px).wf = true) (w5 : (Lit.int .i64 py).wf = true) (w6 : (Lit.int .i64 qx).wf = true) (w7 : (Lit.int .i64 qy).wf = true) (w : World) :
    Calls Try.prog 4 #[.agg #[.int .i64 ax, .int .i64 ay, .int .i64 bx, .int .i64 by', .int .i64 px, .int .i64 py, .int .i64 qx, .int .i64 qy]] w fun e w' => e = .returned (.bool true) ∧ Below w.heap.size w w' := pcross_walk planeC ax ay bx by' px py qx qy w
theorem pmeets_law (ax ay bx by' px py qx qy : Int) (w0 : (Lit.int .i64 ax).wf = true) (w1 : (Lit.int .i64 ay).wf = true) (w2 : (Lit.int .i64 bx).wf = true) (w3 : (Lit.int .i64 by').wf = true) (w4 : (Lit.int .i64 px).wf = true) (w5 : (Lit.int .i64 py).wf = true) (w6 : (Lit.int .i64 qx).wf = true) (w7 : (Lit.int .i64 qy).wf = true) (w : World) :
    Calls Try.prog 5 #[.agg #[.int .i64 ax, .int .i64 ay, .int .i64 bx, .int .i64 by', .int .i64 px, .int .i64 py, .int .i64 qx, .int .i64 qy]] w fun e w' => e = .returned (.bool true) ∧ Below w.heap.size w w' := pmeets_walk planeC ax ay bx by' px py qx qy w
theorem pbeyond_law (ax ay bx by' px py : Int) (w0 : (Lit.int .i64 ax).wf = true) (w1 : (Lit.int .i64 ay).wf = true) (w2 : (Lit.int .i64 bx).wf = true) (w3 : (Lit.int .i64 by').wf = true) (w4 : (Lit.int .i64 px).wf = true) (w5 : (Lit.int .i64 py).wf = true) (w : World) :
    Calls Try.prog 6 #[.agg #[.int .i64 ax, .int .i64 ay, .int .i64 bx, .int .i64 by', .int .i64 px, .int .i64 py]] w fun e w' => e = .returned (.bool true) ∧ Below w.heap.size w w' := pbeyond_walk planeC ax ay bx by' px py w
theorem pturns_law (ax ay bx by' px py : Int) (w0 : (Lit.int .i64 ax).wf = true) (w1 : (Lit.int .i64 ay).wf = true) (w2 : (Lit.int .i64 bx).wf = true) (w3 : (Lit.int .i64 by').wf = true) (w4 : (Lit.int .i64 px).wf = true) (w5 : (Lit.int .i64 py).wf = true) (w : World) :
    Calls Try.prog 7 #[.agg #[.int .i64 ax, .int .i64 ay, .int .i64 bx, .int .i64 by', .int .i64 px, .int .i64 py]] w fun e w' => e = .returned (.bool true) ∧ Below w.heap.size w w' := pturns_walk planeC ax ay bx by' px py w
theorem pmeeting_law (ax ay bx by' px py qx qy : Int) (w0 : (Lit.int .i64 ax).wf = true) (w1 : (Lit.int .i64 ay).wf = true) (w2 : (Lit.int .i64 bx).wf = true) (w3 : (Lit.int .i64 by').wf = true) (w4 : (Lit.int .i64 px).wf = true) (w5 : (Lit.int .i64 py).wf = true) (w6 : (Lit.int .i64 qx).wf = true) (w7 : (Lit.int .i64 qy).wf = true) (w : World) :
    Calls Try.prog 8 #[.agg #[.int .i64 ax, .int .i64 ay, .int .i64 bx, .int .i64 by', .int .i64 px, .int .i64 py, .int .i64 qx, .int .i64 qy]] w fun e w' => e = .returned (.bool true) ∧ Below w.heap.size w w' := pmeeting_walk planeC ax ay bx by' px py qx qy w
theorem ponce_law (ax ay bx by' px py wx wy : Int) (w0 : (Lit.int .i64 ax).wf = true) (w1 : (Lit.int .i64 ay).wf = true) (w2 : (Lit.int .i64 bx).wf = true) (w3 : (Lit.int .i64 by').wf = true) (w4 : (Lit.int .i64 px).wf = true) (w5 : (Lit.int .i64 py).wf = true) (w6 : (Lit.int .i64 wx).wf = true) (w7 : (Lit.int .i64 wy).wf = true) (w : World) :
    Calls Try.prog 9 #[.agg #[.int .i64 ax, .int .i64 ay, .int .i64 bx, .int .i64 by', .int .i64 px, .int .i64 py], .agg #[.int .i64 wx, .int .i64 wy]] w fun e w' => e = .returned (.bool true) ∧ Below w.heap.size w w' := ponce_walk planeC ax ay bx by' px py wx wy w
end Go.Proofs.Ytmfmdipejlnmfaa
