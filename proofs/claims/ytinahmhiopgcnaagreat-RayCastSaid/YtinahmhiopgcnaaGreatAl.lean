/- The law of RayCast, of the program's ray. -/
import Derived.Test.YtinahmhiopgcnaaGreatAk
import Derived.Test.YtinahmhiopgcnaaGreatAz
namespace Go.Proofs.YtinahmhiopgcnaaGreat
open Go.RowKit
set_option linter.unusedVariables false

theorem rrcast_law (t : Trk) (a : Ry) (w : World) (K : TrkM w.heap.size w t) (ha : a.ins) :
    Calls Tryz.prog 3 #[trkV t, .agg #[.int .i64 a.ox, .int .i64 a.oy, .int .i64 a.oz, .int .i64 a.dx, .int .i64 a.dy, .int .i64 a.dz, .int .i64 a.long]] w fun e w' => e = .returned (.bool true) ∧ Below w.heap.size w w' := rcast_walk fieldT fieldY rayC t a w.heap.size w (Nat.le_refl _) K ha
end Go.Proofs.YtinahmhiopgcnaaGreat
