/- The walks of stage 7's statements, whatever the program's own plane does as long as it tells what is told here: awake, PlaneSide, PlaneCrosses, PlaneMeets, PlaneBeyond, PlaneTurns, PlaneMeeting. -/
import Derived.Test.YtllkhgcokbpggaaBi
namespace Go.Proofs.Ytllkhgcokbpggaa
open Go.RowKit
set_option linter.unusedVariables false
set_option linter.unusedSimpArgs false

theorem pl_ev1 : crossP ⟨-4294967296, 0⟩ ⟨4294967296, 0⟩ ⟨0, -4294967296⟩ ⟨0, 12884901888⟩ = true ∧ crossP ⟨-4294967296, 0⟩ ⟨4294967296, 0⟩ ⟨0, 12884901888⟩ ⟨0, -4294967296⟩ = false ∧ sideP ⟨0, 0⟩ ⟨4294967296, 0⟩ ⟨0, 4294967296⟩ = 1 := by decide +kernel
theorem pl_ev2 : crossN ⟨-4294967296, 0⟩ ⟨4294967296, 0⟩ ⟨0, -4294967296⟩ ⟨0, 12884901888⟩ = 1073741824 := by
  rw [cross_yes pl_ev1.1]; decide +kernel
theorem pl_ev3 : beyondN ⟨-4294967296, 0⟩ ⟨4294967296, 0⟩ ⟨0, -8589934592⟩ = 8589934592 := by
  have e : rootI (sqP ⟨-4294967296, 0⟩ ⟨4294967296, 0⟩) = 8589934592 := rootI_eq ⟨by decide +kernel, by decide +kernel, by decide +kernel⟩
  unfold beyondN
  rw [e, if_pos (by decide +kernel)]
  decide +kernel
theorem BW.h6 {W : World} {n : Nat} {a b c d e f : Value} (k : BW W n [a, b, c, d, e, f]) : W.cell? ⟨n, 0, none⟩ = some a ∧ W.cell? ⟨n, 1, none⟩ = some b ∧ W.cell? ⟨n, 2, none⟩ = some c ∧ W.cell? ⟨n, 3, none⟩ = some d ∧ W.cell? ⟨n, 4, none⟩ = some e ∧ W.cell? ⟨n, 5, none⟩ = some f := ⟨k.c 0 _ rfl, k.c 1 _ rfl, k.c 2 _ rfl, k.c 3 _ rfl, k.c 4 _ rfl, k.c 5 _ rfl⟩
theorem BW.h8 {W : World} {n : Nat} {a b c d e f g i : Value} (k : BW W n [a, b, c, d, e, f, g, i]) : W.cell? ⟨n, 0, none⟩ = some a ∧ W.cell? ⟨n, 1, none⟩ = some b ∧ W.cell? ⟨n, 2, none⟩ = some c ∧ W.cell? ⟨n, 3, none⟩ = some d ∧ W.cell? ⟨n, 4, none⟩ = some e ∧ W.cell? ⟨n, 5, none⟩ = some f ∧ W.cell? ⟨n, 6, none⟩ = some g ∧ W.cell? ⟨n, 7, none⟩ = some i := ⟨k.c 0 _ rfl, k.c 1 _ rfl, k.c 2 _ rfl, k.c 3 _ rfl, k.c 4 _ rfl, k.c 5 _ rfl, k.c 6 _ rfl, k.c 7 _ rfl⟩
theorem cross_or {a b p q : Pt} : (!crossP a b p q || meetsP a b p q) = true := by
  cases h : crossP a b p q with
  | false => rfl
  | true => rw [cross_meets h]; rfl
end Go.Proofs.Ytllkhgcokbpggaa
