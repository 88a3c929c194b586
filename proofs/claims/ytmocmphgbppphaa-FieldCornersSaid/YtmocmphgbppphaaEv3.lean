/- The law of FieldCorners, of the program's field. -/
import Derived.Test.YtmocmphgbppphaaE9
import Derived.Test.YtmocmphgbppphaaE1
namespace Go.Proofs.Ytmocmphgbppphaa
open Go.RowKit
set_option linter.unusedVariables false

theorem ffcorners_law (t : Trk) (a : Int) (w : World) (K : TrkM w.heap.size w t) (wa : (Lit.int .i64 a).wf = true) :
    Calls Try.prog 6 #[trkV t, .int .i64 a] w fun e w' => e = .returned (.bool true) ∧ Below w.heap.size w w' := fcorners_walk fieldT fieldC t a w.heap.size w (Nat.le_refl _) K
end Go.Proofs.Ytmocmphgbppphaa
