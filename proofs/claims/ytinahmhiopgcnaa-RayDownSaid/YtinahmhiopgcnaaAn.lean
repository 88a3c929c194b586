/- The law of RayDown, of the program's ray. -/
import Derived.Test.YtinahmhiopgcnaaAh
import Derived.Test.YtinahmhiopgcnaaAk
import Derived.Test.YtinahmhiopgcnaaAz
namespace Go.Proofs.Ytinahmhiopgcnaa
open Go.RowKit
set_option linter.unusedVariables false

theorem rrdown_law (t : Trk) (x y z : Int) (w : World) (K : TrkM w.heap.size w t) (w0 : (Lit.int .i64 x).wf = true) (w1 : (Lit.int .i64 y).wf = true) (w2 : (Lit.int .i64 z).wf = true) :
    Calls Try.prog 4 #[trkV t, .agg #[.int .i64 x, .int .i64 y, .int .i64 z]] w fun e w' => e = .returned (.bool true) ∧ Below w.heap.size w w' := rdown_walk fieldT fieldR rayC t x y z w.heap.size w (Nat.le_refl _) K
end Go.Proofs.Ytinahmhiopgcnaa
