/- The law of FenceBehind, of the program's fence. -/
import Derived.Test.YtllkhgcokbpggaaU6
import Derived.Test.YtllkhgcokbpggaaVl
namespace Go.Proofs.Ytllkhgcokbpggaa
open Go.RowKit
set_option linter.unusedVariables false

theorem fbehind_law (k : Tk) (x y deep : Int) (w : World) (K : TkM w.heap.size w k) (wx : (Lit.int .i64 x).wf = true) (wy : (Lit.int .i64 y).wf = true) (wd : (Lit.int .i64 deep).wf = true) :
    Calls Try.prog 5 #[trkV k.t, .agg #[.int .i64 x, .int .i64 y], .int .i64 deep] w fun e w' => e = .returned (.bool true) ∧ Below w.heap.size w w' := fbehind_walk fenT fenceC fnAw k w.heap.size x y deep w (Nat.le_refl _) ⟨bounds_i64 wx, bounds_i64 wy, bounds_i64 wd⟩ K
end Go.Proofs.Ytllkhgcokbpggaa
