/- The walk of FieldNew. -/
import Derived.Test.YtinahmhiopgcnaaGreatEl
namespace Go.Proofs.YtinahmhiopgcnaaGreat
open Go.RowKit
set_option linter.unusedVariables false
set_option linter.unusedSimpArgs false

theorem FieldT.step (F : FieldT) {lo top f : Nat} {W W' : World} {t : Trk} (p : F.P lo top W f t) (h : Below W.heap.size W W') : F.P lo top W' f t := F.keep p h.size (fun k h1 h2 => h.block k (by have := F.top p; omega))
theorem PT.c3 {w W : World} {B m : Nat} {t : Trk} (Q : PT w W B m t) : W.cell? ⟨m, 1, none⟩ = some (.int .i64 t.cell) ∧ W.cell? ⟨m, 2, none⟩ = some (.int .i64 t.cols) ∧ W.cell? ⟨m, 3, none⟩ = some (.int .i64 t.rows) := ⟨Q.c.c 1 _ rfl, Q.c.c 2 _ rfl, Q.c.c 3 _ rfl⟩
end Go.Proofs.YtinahmhiopgcnaaGreat
