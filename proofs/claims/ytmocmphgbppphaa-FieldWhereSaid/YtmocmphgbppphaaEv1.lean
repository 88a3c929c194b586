/- The law of FieldWhere, of the program's field. -/
import Derived.Test.YtmocmphgbppphaaE9
import Derived.Test.YtmocmphgbppphaaEq
namespace Go.Proofs.Ytmocmphgbppphaa
open Go.RowKit
set_option linter.unusedVariables false

theorem ffwhere_law (t : Trk) (x y a0 a1 : Int) (w : World) (K : TrkM w.heap.size w t) (wx : (Lit.int .i64 x).wf = true) (wy : (Lit.int .i64 y).wf = true) (w0 : (Lit.int .i64 a0).wf = true) (w1 : (Lit.int .i64 a1).wf = true) :
    Calls Try.prog 4 #[trkV t, .agg #[.int .i64 x, .int .i64 y], .agg #[.int .i64 a0, .int .i64 a1]] w fun e w' => e = .returned (.bool true) ∧ Below w.heap.size w w' := fwhere_walk fieldT fieldC t x y a0 a1 w.heap.size w (Nat.le_refl _) K (bounds_i64 wx) (bounds_i64 wy) (bounds_i64 w0) (bounds_i64 w1)
end Go.Proofs.Ytmocmphgbppphaa
