/- Contracts of the document's root: Sqrt, Len4, Len3, Len2. -/
import Derived.Test.YtjbalpmcnihhpaaDoorBn
import Derived.Test.YtjbalpmcnihhpaaDoorBg
import Derived.Test.YtjbalpmcnihhpaaDoorBh
import Derived.Test.YtjbalpmcnihhpaaDoorBx
import Derived.Test.YtjbalpmcnihhpaaDoorBy
import Derived.Deep.RegionWith
import Derived.Deep.DeepCutAuto
import Derived.Test.YtjbalpmcnihhpaaDoorBz
namespace Go.Proofs.YtjbalpmcnihhpaaDoor
open Go.RowKit

/-- a sum lies in the block n, and whether it fits -/
def SumAt (w : World) (n : Nat) (T : Int) (f : Bool) (t : Value) (W : World) : Prop :=
  t = .bool f ∧ CellO W n (decide (T < 0)) (d0 T.natAbs) (d1 T.natAbs) (d2 T.natAbs) (d3 T.natAbs) ∧ n < W.heap.size ∧ Below w.heap.size w W
theorem cellO_put {w : World} {n : Nat} {b0 : Bool} {x0 x1 x2 x3 : Int} (k : CellO w n b0 x0 x1 x2 x3) (b : Bool) (y0 y1 y2 y3 : Int) :
    CellO (((((w.setCell ⟨n, 0, none⟩ (.bool b)).setCell ⟨n, 1, none⟩ (.int .u64 y0)).setCell ⟨n, 2, none⟩ (.int .u64 y1)).setCell ⟨n, 3, none⟩ (.int .u64 y2)).setCell ⟨n, 4, none⟩ (.int .u64 y3)) n b y0 y1 y2 y3 := by
  have k0 : CellO (w.setCell ⟨n, 0, none⟩ (.bool b)) n b x0 x1 x2 x3 :=
    ⟨World.cell?_setCell_same _ _ _ k.c0, (World.cell?_setCell_other _ _ _ _ (addr_o (by decide))).trans k.c1, (World.cell?_setCell_other _ _ _ _ (addr_o (by decide))).trans k.c2, (World.cell?_setCell_other _ _ _ _ (addr_o (by decide))).trans k.c3, (World.cell?_setCell_other _ _ _ _ (addr_o (by decide))).trans k.c4, fun j => (World.frozen?_setCell _ _ _ _).trans (k.f j)⟩
  exact (((k0.set0 y0).set1 y1).set2 y2).set3 y3
theorem CellO.newR {w : World} {n : Nat} (b : Bool) (x0 x1 x2 x3 : Int) (t : TypeId) (e : n = w.heap.size) : CellO (w.alloc (.cells #[.bool b, .int .u64 x0, .int .u64 x1, .int .u64 x2, .int .u64 x3] t)) n b x0 x1 x2 x3 := by
  subst e
  exact ⟨World.cell?_alloc_new w _ t 0, World.cell?_alloc_new w _ t 1, World.cell?_alloc_new w _ t 2, World.cell?_alloc_new w _ t 3, World.cell?_alloc_new w _ t 4, fun j => by go_simp⟩
theorem CellO.drewR {w : World} {n : Nat} {b : Bool} {x0 x1 x2 x3 : Int} (k : CellO w n b x0 x1 x2 x3) : CellO w.drew n b x0 x1 x2 x3 := ⟨k.c0, k.c1, k.c2, k.c3, k.c4, k.f⟩
theorem fit_yes {n T : Int} (h : clipW n = T ∧ fitW n = true) : T = n ∧ In128 n := by
  have h2 := h.2
  unfold fitW at h2; rw [decide_eq_true_iff] at h2
  exact ⟨by rw [← h.1]; unfold clipW; rw [if_pos h2], h2⟩
theorem fit_no {n T : Int} (h : clipW n = T ∧ fitW n = false) : ¬ In128 n := by
  have h2 := h.2
  unfold fitW at h2; rw [decide_eq_false_iff_not] at h2
  exact h2
theorem far_of {S : Int} (S0 : 0 ≤ S) (h : ¬ In128 S) : 85070591730234615865843651857942052864 ≤ S := by unfold In128 at h; omega

end Go.Proofs.YtjbalpmcnihhpaaDoor
namespace Go.Proofs.YtjbalpmcnihhpaaDoor
open Go.RowKit

theorem div_none {n : Int} (h : n ≠ 0) : divF 0 n = 0 ∧ divO 0 n = false := by
  have e : rq 0 n = 0 := by
    have : rndN 0 (n.natAbs : Int) = 0 := by
      have h1 : (0 : Int) / (n.natAbs : Int) = 0 := Int.zero_ediv _
      have h2 : (0 : Int) % (n.natAbs : Int) = 0 := Int.zero_emod _
      unfold rndN; rw [h1, h2]; split <;> omega
    unfold rq
    rw [show ((0 : Int).natAbs : Int) = 0 from rfl, this]; split <;> rfl
  unfold divF divO quoF quoO
  rw [Int.zero_mul, if_neg h, if_neg h, e]
  decide
end Go.Proofs.YtjbalpmcnihhpaaDoor
