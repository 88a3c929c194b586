/- The law of FieldHeight, of the program's field. -/
import Derived.Test.YtmocmphgbppphaaE9
import Derived.Test.YtmocmphgbppphaaEp
namespace Go.Proofs.Ytmocmphgbppphaa
open Go.RowKit
set_option linter.unusedVariables false

theorem ffheight_law (t : Trk) (x y : Int) (w : World) (K : TrkM w.heap.size w t) (wx : (Lit.int .i64 x).wf = true) (wy : (Lit.int .i64 y).wf = true) :
    Calls Try.prog 5 #[trkV t, .agg #[.int .i64 x, .int .i64 y]] w fun e w' => e = .returned (.bool true) ∧ Below w.heap.size w w' := fheight_walk fieldT fieldC t x y w.heap.size w (Nat.le_refl _) K (bounds_i64 wx) (bounds_i64 wy)
end Go.Proofs.Ytmocmphgbppphaa
