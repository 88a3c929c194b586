/- The law of FenceTurns, of the program's fence. -/
import Derived.Test.YtllkhgcokbpggaaU6
import Derived.Test.YtllkhgcokbpggaaVo
namespace Go.Proofs.Ytllkhgcokbpggaa
open Go.RowKit
set_option linter.unusedVariables false

theorem fplMts : PlMts := fun ax ay bx by' px py qx qy w => plMeets_any ax ay bx by' px py qx qy w
theorem fturns_law (k : Tk) (px py qx qy : Int) (w : World) (K : TkM w.heap.size w k) (w1 : (Lit.int .i64 px).wf = true) (w2 : (Lit.int .i64 py).wf = true) (w3 : (Lit.int .i64 qx).wf = true) (w4 : (Lit.int .i64 qy).wf = true) :
    Calls Try.prog 6 #[trkV k.t, .agg #[.int .i64 px, .int .i64 py], .agg #[.int .i64 qx, .int .i64 qy]] w fun e w' => e = .returned (.bool true) ∧ Below w.heap.size w w' := fturns_walk fenT fenceC fnAw fplMts k w.heap.size px py qx qy w (Nat.le_refl _) ⟨⟨bounds_i64 w1, bounds_i64 w2⟩, bounds_i64 w3, bounds_i64 w4⟩ K
end Go.Proofs.Ytllkhgcokbpggaa
