/- The law of RayPoint, of the program's ray. -/
import Derived.Test.YtinahmhiopgcnaaAk
import Derived.Test.YtinahmhiopgcnaaAz
namespace Go.Proofs.Ytinahmhiopgcnaa
open Go.RowKit
set_option linter.unusedVariables false

theorem rrpoint_law (x y z p q r s : Int) (w0 : (Lit.int .i64 x).wf = true) (w1 : (Lit.int .i64 y).wf = true) (w2 : (Lit.int .i64 z).wf = true) (w3 : (Lit.int .i64 p).wf = true) (w4 : (Lit.int .i64 q).wf = true) (w5 : (Lit.int .i64 r).wf = true) (w6 : (Lit.int .i64 s).wf = true) (w : World) :
    Calls Try.prog 3 #[.agg #[.int .i64 x, .int .i64 y, .int .i64 z], .agg #[.int .i64 p, .int .i64 q, .int .i64 r], .int .i64 s] w fun e w' => e = .returned (.bool true) ∧ Below w.heap.size w w' := rpoint_walk fieldT fieldY rayC ⟨x, y, z, p, q, r, 0⟩ s w (ray_of w0 w1 w2 w3 w4 w5) (wf_64 w6)
end Go.Proofs.Ytinahmhiopgcnaa
