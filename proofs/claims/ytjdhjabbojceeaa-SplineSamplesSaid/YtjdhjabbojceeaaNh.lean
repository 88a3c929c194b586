/- The contract of the document's dot of ways. -/
import Derived.Test.YtjdhjabbojceeaaNf
namespace Go.Proofs.Ytjdhjabbojceeaa
open Go.RowKit
set_option linter.unusedVariables false
set_option linter.unusedSimpArgs false

/-- the inner product of the ways from a to b and from a to p -/
def dotP (a b p : Pt) : Int := (b.x - a.x) * (p.x - a.x) + (b.y - a.y) * (p.y - a.y)
theorem mul_49 {x y : Int} (x0 : -562949953421312 ≤ x) (x1 : x ≤ 562949953421312) (y0 : -562949953421312 ≤ y) (y1 : y ≤ 562949953421312) : -316912650057057350374175801344 ≤ x * y ∧ x * y ≤ 316912650057057350374175801344 := by
  have h1 : 0 ≤ (562949953421312 - x) * (562949953421312 + y) := Int.mul_nonneg (by omega) (by omega)
  have h2 : 0 ≤ (562949953421312 + x) * (562949953421312 - y) := Int.mul_nonneg (by omega) (by omega)
  have h3 : 0 ≤ (562949953421312 - x) * (562949953421312 - y) := Int.mul_nonneg (by omega) (by omega)
  have h4 : 0 ≤ (562949953421312 + x) * (562949953421312 + y) := Int.mul_nonneg (by omega) (by omega)
  have e1 : (562949953421312 - x) * (562949953421312 + y) = 316912650057057350374175801344 + 562949953421312 * y - 562949953421312 * x - x * y := by grind
  have e2 : (562949953421312 + x) * (562949953421312 - y) = 316912650057057350374175801344 - 562949953421312 * y + 562949953421312 * x - x * y := by grind
  have e3 : (562949953421312 - x) * (562949953421312 - y) = 316912650057057350374175801344 - 562949953421312 * y - 562949953421312 * x + x * y := by grind
  have e4 : (562949953421312 + x) * (562949953421312 + y) = 316912650057057350374175801344 + 562949953421312 * y + 562949953421312 * x + x * y := by grind
  omega
theorem dotP_fit {ax ay bx by' px py : Int} (h1 : Rg ax) (h2 : Rg ay) (h3 : Rg bx) (h4 : Rg by') (h5 : Rg px) (h6 : Rg py) :
    In128 ((bx - ax) * (px - ax)) ∧ In128 ((by' - ay) * (py - ay)) ∧ clipW ((bx - ax) * (px - ax) + (by' - ay) * (py - ay)) = dotP ⟨ax, ay⟩ ⟨bx, by'⟩ ⟨px, py⟩ ∧ In128 (dotP ⟨ax, ay⟩ ⟨bx, by'⟩ ⟨px, py⟩) := by
  unfold Rg at *
  have q1 := mul_49 (x := bx - ax) (y := px - ax) (by omega) (by omega) (by omega) (by omega)
  have q2 := mul_49 (x := by' - ay) (y := py - ay) (by omega) (by omega) (by omega) (by omega)
  unfold dotP
  simp only []
  generalize (bx - ax) * (px - ax) = k at *
  generalize (by' - ay) * (py - ay) = m at *
  have i1 : In128 (k + m) := by unfold In128; omega
  refine ⟨by unfold In128; omega, by unfold In128; omega, ?_, by unfold In128; omega⟩
  unfold clipW
  rw [if_pos i1]
/-- the blocks of dot -/
def DtL (w : World) (ax ay bx by' px py : Int) : List (Nat × List Value) := [(w.heap.size, [.int .i64 ax, .int .i64 ay]), (w.heap.size + 1, [.int .i64 bx, .int .i64 by']), (w.heap.size + 1 + 1, [.int .i64 px, .int .i64 py]), (w.heap.size + 1 + 1 + 1, [.bool false, .int .u64 0, .int .u64 0, .int .u64 0, .int .u64 0])]
theorem dt_r {w W : World} {ax ay bx by' px py : Int} (k : St w W (DtL w ax ay bx by' px py)) : BW W (w.heap.size + 1 + 1 + 1) [.bool false, .int .u64 0, .int .u64 0, .int .u64 0, .int .u64 0] := k.b _ _ (by unfold DtL; simp)
theorem dt_sv {w W : World} {ax ay bx by' px py : Int} (k : St w W (DtL w ax ay bx by' px py)) : (W.cell? ⟨w.heap.size, 0, none⟩ = some (.int .i64 ax) ∧ W.cell? ⟨w.heap.size, 1, none⟩ = some (.int .i64 ay)) ∧ (W.cell? ⟨w.heap.size + 1, 0, none⟩ = some (.int .i64 bx) ∧ W.cell? ⟨w.heap.size + 1, 1, none⟩ = some (.int .i64 by')) ∧ (W.cell? ⟨w.heap.size + 1 + 1, 0, none⟩ = some (.int .i64 px) ∧ W.cell? ⟨w.heap.size + 1 + 1, 1, none⟩ = some (.int .i64 py)) :=
  ⟨(k.b _ _ (by unfold DtL; simp)).h2', (k.b _ _ (by unfold DtL; simp)).h2', (k.b _ _ (by unfold DtL; simp)).h2'⟩
end Go.Proofs.Ytjdhjabbojceeaa
