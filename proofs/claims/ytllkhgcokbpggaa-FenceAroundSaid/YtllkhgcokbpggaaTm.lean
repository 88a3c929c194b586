/- The law of FenceAround, of the program's fence. -/
import Derived.Test.YtllkhgcokbpggaaU6
import Derived.Test.YtllkhgcokbpggaaVk
namespace Go.Proofs.Ytllkhgcokbpggaa
open Go.RowKit
set_option linter.unusedVariables false

theorem faround_law (k : Tk) (x y far : Int) (w : World) (K : TkM w.heap.size w k) (wx : (Lit.int .i64 x).wf = true) (wy : (Lit.int .i64 y).wf = true) (wf : (Lit.int .i64 far).wf = true) :
    Calls Try.prog 3 #[trkV k.t, .agg #[.int .i64 x, .int .i64 y], .int .i64 far] w fun e w' => e = .returned (.bool true) ∧ Below w.heap.size w w' := faround_walk fenT fenceC fnAw k w.heap.size x y far w (Nat.le_refl _) ⟨bounds_i64 wx, bounds_i64 wy, bounds_i64 wf⟩ K
end Go.Proofs.Ytllkhgcokbpggaa
