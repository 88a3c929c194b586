/- Contracts of package root: Sqrt, squares. -/
import Derived.Test.YtllkhgcokbpggaaBn
import Derived.Test.YtllkhgcokbpggaaBv
import Derived.Test.YtllkhgcokbpggaaBk
import Derived.Test.YtllkhgcokbpggaaBx
import Derived.Deep.RegionWith
import Derived.Deep.DeepCutAuto
import Derived.Test.YtllkhgcokbpggaaBg
import Derived.Test.YtllkhgcokbpggaaBh
import Derived.Test.YtllkhgcokbpggaaBy
import Derived.Test.YtllkhgcokbpggaaBj
namespace Go.Proofs.Ytllkhgcokbpggaa
open Go.RowKit

theorem CellW.drew {w : World} {n : Nat} {h l : Int} (k : CellW w n h l) : CellW w.drew n h l := ⟨k.c0, k.c1, k.f0, k.f1⟩
theorem CellW.newR {w : World} {n : Nat} (h l : Int) (t : TypeId) (e : n = w.heap.size) : CellW (w.alloc (.cells #[.int .i64 h, .int .u64 l] t)) n h l := by
  subst e; exact CellW.new w h l t
/-- a statement has made a wide number in a block of its own -/
def MadeW (W0 : World) (T : Int) (f : Bool) (s t : Value) (W : World) : Prop := ∃ g : Nat, s = .pointer (some ⟨g, 0, none⟩) ∧ t = .bool f ∧ CellW W g (hiW T) (loW T) ∧ W0.heap.size ≤ g ∧ g < W.heap.size ∧ Below W0.heap.size W0 W

end Go.Proofs.Ytllkhgcokbpggaa
namespace Go.Proofs.Ytllkhgcokbpggaa
open Go.RowKit

theorem wf64 {x : Int} (x0 : -9223372036854775808 ≤ x) (x1 : x ≤ 9223372036854775807) : (Lit.int .i64 x).wf = true := by
  have h0 : IntKind.i64.min = -9223372036854775808 := by decide
  have h1 : IntKind.i64.max = 9223372036854775807 := by decide
  simp [Lit.wf, h0, h1]; omega
theorem ints_new2 {x y : Int} (w : World) (t : TypeId) (x0 : -9223372036854775808 ≤ x) (x1 : x ≤ 9223372036854775807) (y0 : -9223372036854775808 ≤ y) (y1 : y ≤ 9223372036854775807) :
    Ints (w.alloc (.cells #[.int .i64 x, .int .i64 y] t)) .i64 (some ⟨w.heap.size, 0, none⟩) 2 2 [x, y] :=
  ⟨by unfold maxLen; omega, by omega, rfl, fun n hn => by simp at hn; rcases hn with rfl | rfl <;> exact wf64 (by omega) (by omega), fun _ => ⟨_, 0, rfl, by simp, fun i hi => by
    rw [Nat.zero_add]
    match i, hi with
    | 0, _ => exact World.cell?_alloc_new w _ t 0
    | 1, _ => exact World.cell?_alloc_new w _ t 1⟩⟩
theorem ints_new3 {x y z : Int} (w : World) (t : TypeId) (x0 : -9223372036854775808 ≤ x) (x1 : x ≤ 9223372036854775807) (y0 : -9223372036854775808 ≤ y) (y1 : y ≤ 9223372036854775807) (z0 : -9223372036854775808 ≤ z) (z1 : z ≤ 9223372036854775807) :
    Ints (w.alloc (.cells #[.int .i64 x, .int .i64 y, .int .i64 z] t)) .i64 (some ⟨w.heap.size, 0, none⟩) 3 3 [x, y, z] :=
  ⟨by unfold maxLen; omega, by omega, rfl, fun n hn => by simp at hn; rcases hn with rfl | rfl | rfl <;> exact wf64 (by omega) (by omega), fun _ => ⟨_, 0, rfl, by simp, fun i hi => by
    rw [Nat.zero_add]
    match i, hi with
    | 0, _ => exact World.cell?_alloc_new w _ t 0
    | 1, _ => exact World.cell?_alloc_new w _ t 1
    | 2, _ => exact World.cell?_alloc_new w _ t 2⟩⟩
theorem ints_new4 {v x y z : Int} (w : World) (t : TypeId) (v0 : -9223372036854775808 ≤ v) (v1 : v ≤ 9223372036854775807) (x0 : -9223372036854775808 ≤ x) (x1 : x ≤ 9223372036854775807) (y0 : -9223372036854775808 ≤ y) (y1 : y ≤ 9223372036854775807) (z0 : -9223372036854775808 ≤ z) (z1 : z ≤ 9223372036854775807) :
    Ints (w.alloc (.cells #[.int .i64 v, .int .i64 x, .int .i64 y, .int .i64 z] t)) .i64 (some ⟨w.heap.size, 0, none⟩) 4 4 [v, x, y, z] :=
  ⟨by unfold maxLen; omega, by omega, rfl, fun n hn => by simp at hn; rcases hn with rfl | rfl | rfl | rfl <;> exact wf64 (by omega) (by omega), fun _ => ⟨_, 0, rfl, by simp, fun i hi => by
    rw [Nat.zero_add]
    match i, hi with
    | 0, _ => exact World.cell?_alloc_new w _ t 0
    | 1, _ => exact World.cell?_alloc_new w _ t 1
    | 2, _ => exact World.cell?_alloc_new w _ t 2
    | 3, _ => exact World.cell?_alloc_new w _ t 3⟩⟩
theorem of_max : ofF 9223372036854775807 = 9223372036854775807 ∧ ofO 9223372036854775807 = true := by decide +kernel
end Go.Proofs.Ytllkhgcokbpggaa
namespace Go.Proofs.Ytllkhgcokbpggaa
open Go.RowKit

/-- a sum lies in the block n, and whether it fits -/
def SumAt (w : World) (n : Nat) (T : Int) (f : Bool) (t : Value) (W : World) : Prop :=
  t = .bool f ∧ CellO W n (decide (T < 0)) (d0 T.natAbs) (d1 T.natAbs) (d2 T.natAbs) (d3 T.natAbs) ∧ n < W.heap.size ∧ Below w.heap.size w W
theorem cellO_put {w : World} {n : Nat} {b0 : Bool} {x0 x1 x2 x3 : Int} (k : CellO w n b0 x0 x1 x2 x3) (b : Bool) (y0 y1 y2 y3 : Int) :
    CellO (((((w.setCell ⟨n, 0, none⟩ (.bool b)).setCell ⟨n, 1, none⟩ (.int .u64 y0)).setCell ⟨n, 2, none⟩ (.int .u64 y1)).setCell ⟨n, 3, none⟩ (.int .u64 y2)).setCell ⟨n, 4, none⟩ (.int .u64 y3)) n b y0 y1 y2 y3 := by
  have k0 : CellO (w.setCell ⟨n, 0, none⟩ (.bool b)) n b x0 x1 x2 x3 :=
    ⟨World.cell?_setCell_same _ _ _ k.c0, (World.cell?_setCell_other _ _ _ _ (addr_o (by decide))).trans k.c1, (World.cell?_setCell_other _ _ _ _ (addr_o (by decide))).trans k.c2, (World.cell?_setCell_other _ _ _ _ (addr_o (by decide))).trans k.c3, (World.cell?_setCell_other _ _ _ _ (addr_o (by decide))).trans k.c4, fun j => (World.frozen?_setCell _ _ _ _).trans (k.f j)⟩
  exact (((k0.set0 y0).set1 y1).set2 y2).set3 y3
theorem CellO.newR {w : World} {n : Nat} (b : Bool) (x0 x1 x2 x3 : Int) (t : TypeId) (e : n = w.heap.size) : CellO (w.alloc (.cells #[.bool b, .int .u64 x0, .int .u64 x1, .int .u64 x2, .int .u64 x3] t)) n b x0 x1 x2 x3 := by
  subst e
  exact ⟨World.cell?_alloc_new w _ t 0, World.cell?_alloc_new w _ t 1, World.cell?_alloc_new w _ t 2, World.cell?_alloc_new w _ t 3, World.cell?_alloc_new w _ t 4, fun j => by go_simp⟩
theorem CellO.drewR {w : World} {n : Nat} {b : Bool} {x0 x1 x2 x3 : Int} (k : CellO w n b x0 x1 x2 x3) : CellO w.drew n b x0 x1 x2 x3 := ⟨k.c0, k.c1, k.c2, k.c3, k.c4, k.f⟩
theorem fit_yes {n T : Int} (h : clipW n = T ∧ fitW n = true) : T = n ∧ In128 n := by
  have h2 := h.2
  unfold fitW at h2; rw [decide_eq_true_iff] at h2
  exact ⟨by rw [← h.1]; unfold clipW; rw [if_pos h2], h2⟩
theorem fit_no {n T : Int} (h : clipW n = T ∧ fitW n = false) : ¬ In128 n := by
  have h2 := h.2
  unfold fitW at h2; rw [decide_eq_false_iff_not] at h2
  exact h2
theorem far_of {S : Int} (S0 : 0 ≤ S) (h : ¬ In128 S) : 85070591730234615865843651857942052864 ≤ S := by unfold In128 at h; omega

end Go.Proofs.Ytllkhgcokbpggaa
namespace Go.Proofs.Ytllkhgcokbpggaa
open Go.RowKit

theorem div_none {n : Int} (h : n ≠ 0) : divF 0 n = 0 ∧ divO 0 n = false := by
  have e : rq 0 n = 0 := by
    have : rndN 0 (n.natAbs : Int) = 0 := by
      have h1 : (0 : Int) / (n.natAbs : Int) = 0 := Int.zero_ediv _
      have h2 : (0 : Int) % (n.natAbs : Int) = 0 := Int.zero_emod _
      unfold rndN; rw [h1, h2]; split <;> omega
    unfold rq
    rw [show ((0 : Int).natAbs : Int) = 0 from rfl, this]; split <;> rfl
  unfold divF divO quoF quoO
  rw [Int.zero_mul, if_neg h, if_neg h, e]
  decide
end Go.Proofs.Ytllkhgcokbpggaa
namespace Go.Proofs.Ytllkhgcokbpggaa
open Go.RowKit
set_option linter.unusedVariables false
set_option linter.unusedSimpArgs false

theorem in3_zero : In3 0 0 0 := ⟨by omega, by omega, by omega, by omega, by omega, by omega⟩
theorem in3_sub (a1 a2 a3 b1 b2 b3 : Int) : In3 (subF a1 b1) (subF a2 b2) (subF a3 b3) :=
  ⟨(subF_in _ _).1, (subF_in _ _).2, (subF_in _ _).1, (subF_in _ _).2, (subF_in _ _).1, (subF_in _ _).2⟩
theorem in3_mul (a1 a2 a3 b1 b2 b3 : Int) : In3 (mulF a1 b1) (mulF a2 b2) (mulF a3 b3) :=
  ⟨(mulF_in _ _).1, (mulF_in _ _).2, (mulF_in _ _).1, (mulF_in _ _).2, (mulF_in _ _).1, (mulF_in _ _).2⟩
theorem dotF_in (a1 a2 a3 b1 b2 b3 : Int) : In64 (dotF a1 a2 a3 b1 b2 b3) := addF_in _ _
/-- a direction and whether there is one, by the length n -/
theorem un3_agg (x y z n : Int) : (if n = 0 then Value.tuple #[.int .i64 0, .int .i64 0, .int .i64 0, .bool false] else .tuple #[.int .i64 (divF x n), .int .i64 (divF y n), .int .i64 (divF z n), .bool true]) = .tuple #[.int .i64 (if n = 0 then 0 else divF x n), .int .i64 (if n = 0 then 0 else divF y n), .int .i64 (if n = 0 then 0 else divF z n), .bool (!decide (n = 0))] := by
  by_cases c : n = 0
  · simp [c]
  · simp [c]
end Go.Proofs.Ytllkhgcokbpggaa
