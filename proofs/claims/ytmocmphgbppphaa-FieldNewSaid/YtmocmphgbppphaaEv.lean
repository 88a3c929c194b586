/- The law of FieldNew, of the program's field. -/
import Derived.Test.YtmocmphgbppphaaE9
import Derived.Test.YtmocmphgbppphaaEm
namespace Go.Proofs.Ytmocmphgbppphaa
open Go.RowKit
set_option linter.unusedVariables false

theorem ffnew_law (t : Trk) (w : World) (K : TrkM w.heap.size w t) :
    Calls Try.prog 3 #[trkV t] w fun e w' => e = .returned (.bool true) ∧ Below w.heap.size w w' := fnew_walk fieldT fieldC t w.heap.size w (Nat.le_refl _) K
end Go.Proofs.Ytmocmphgbppphaa
