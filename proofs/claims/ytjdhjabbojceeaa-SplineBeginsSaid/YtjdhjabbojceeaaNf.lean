/- The contract of the document's Area of places. -/
import Derived.Test.YtjdhjabbojceeaaNe
namespace Go.Proofs.Ytjdhjabbojceeaa
open Go.RowKit
set_option linter.unusedVariables false
set_option linter.unusedSimpArgs false

/-- the blocks of Area -/
def ArL (w : World) (n1 : Nat) (ax ay bx by' px py : Int) (b : Bool) (x0 x1 x2 x3 : Int) : List (Nat × List Value) := ((n1, [.bool b, .int .u64 x0, .int .u64 x1, .int .u64 x2, .int .u64 x3]) :: [(w.heap.size, [.int .i64 ax, .int .i64 ay]), (w.heap.size + 1, [.int .i64 bx, .int .i64 by']), (w.heap.size + 1 + 1, [.int .i64 px, .int .i64 py]), (w.heap.size + 1 + 1 + 1, [.bool false, .int .u64 0, .int .u64 0, .int .u64 0, .int .u64 0])])
theorem ar_n {w W : World} {n1 : Nat} {ax ay bx by' px py : Int} {b : Bool} {x0 x1 x2 x3 : Int} (k : St w W (ArL w n1 ax ay bx by' px py b x0 x1 x2 x3)) : BW W n1 [.bool b, .int .u64 x0, .int .u64 x1, .int .u64 x2, .int .u64 x3] := k.b _ _ (List.mem_cons_self ..)
theorem ar_r {w W : World} {n1 : Nat} {ax ay bx by' px py : Int} {b : Bool} {x0 x1 x2 x3 : Int} (k : St w W (ArL w n1 ax ay bx by' px py b x0 x1 x2 x3)) : BW W (w.heap.size + 1 + 1 + 1) [.bool false, .int .u64 0, .int .u64 0, .int .u64 0, .int .u64 0] := k.b _ _ (by unfold ArL; simp)
theorem ar_sv {w W : World} {n1 : Nat} {ax ay bx by' px py : Int} {b : Bool} {x0 x1 x2 x3 : Int} (k : St w W (ArL w n1 ax ay bx by' px py b x0 x1 x2 x3)) : (W.cell? ⟨w.heap.size, 0, none⟩ = some (.int .i64 ax) ∧ W.cell? ⟨w.heap.size, 1, none⟩ = some (.int .i64 ay)) ∧ (W.cell? ⟨w.heap.size + 1, 0, none⟩ = some (.int .i64 bx) ∧ W.cell? ⟨w.heap.size + 1, 1, none⟩ = some (.int .i64 by')) ∧ (W.cell? ⟨w.heap.size + 1 + 1, 0, none⟩ = some (.int .i64 px) ∧ W.cell? ⟨w.heap.size + 1 + 1, 1, none⟩ = some (.int .i64 py)) ∧ (W.cell? ⟨n1, 0, none⟩ = some (.bool b) ∧ W.cell? ⟨n1, 1, none⟩ = some (.int .u64 x0) ∧ W.cell? ⟨n1, 2, none⟩ = some (.int .u64 x1) ∧ W.cell? ⟨n1, 3, none⟩ = some (.int .u64 x2) ∧ W.cell? ⟨n1, 4, none⟩ = some (.int .u64 x3)) :=
  ⟨(k.b _ _ (by unfold ArL; simp)).h2', (k.b _ _ (by unfold ArL; simp)).h2', (k.b _ _ (by unfold ArL; simp)).h2', (ar_n k).h5⟩
/-- the area in a block of its own, and the result's block -/
def ArCut (w : World) (A : Int) (t : Value) (W : World) : Prop := ∃ n4 : Nat, t = .pointer (some ⟨n4, 0, none⟩) ∧ BW W n4 [.bool (decide (A < 0)), .int .u64 (d0 A.natAbs), .int .u64 (d1 A.natAbs), .int .u64 (d2 A.natAbs), .int .u64 (d3 A.natAbs)] ∧ BW W (w.heap.size + 1 + 1 + 1) [.bool false, .int .u64 0, .int .u64 0, .int .u64 0, .int .u64 0] ∧ Below w.heap.size w W
end Go.Proofs.Ytjdhjabbojceeaa
