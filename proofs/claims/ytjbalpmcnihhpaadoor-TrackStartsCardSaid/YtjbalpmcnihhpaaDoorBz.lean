/- The contract of the document's Mul for fx. -/
import Derived.Test.YtjbalpmcnihhpaaDoorBn
import Derived.Test.YtjbalpmcnihhpaaDoorBy
import Derived.Test.YtjbalpmcnihhpaaDoorBf
import Derived.LoopN
namespace Go.Proofs.YtjbalpmcnihhpaaDoor
open Go.RowKit

end Go.Proofs.YtjbalpmcnihhpaaDoor
namespace Go.Proofs.YtjbalpmcnihhpaaDoor
open Go.RowKit

end Go.Proofs.YtjbalpmcnihhpaaDoor
namespace Go.Proofs.YtjbalpmcnihhpaaDoor
open Go.RowKit

theorem divF_eq {x y : Int} (hy : y ≠ 0) : divF x y = clip64 (sgnW (decide (x < 0) != decide (y < 0)) (rndN ((x.natAbs : Int) * 4294967296) y.natAbs)) ∧ divO x y = out64 (sgnW (decide (x < 0) != decide (y < 0)) (rndN ((x.natAbs : Int) * 4294967296) y.natAbs)) := by
  unfold divF divO quoF quoO
  rw [if_neg hy, if_neg hy, rq_div]
  exact ⟨rfl, rfl⟩
theorem divF_zero (x : Int) : divF x 0 = satS x ∧ divO x 0 = true := by
  unfold divF divO quoF quoO
  rw [if_pos rfl, if_pos rfl]
  refine ⟨?_, rfl⟩
  unfold satS
  by_cases p : 0 < x
  · rw [if_pos (by omega), if_pos p]
  · rw [if_neg (by omega), if_neg p]
    by_cases q : x < 0
    · rw [if_pos (by omega), if_pos q]
    · rw [if_neg (by omega), if_neg q]
end Go.Proofs.YtjbalpmcnihhpaaDoor
