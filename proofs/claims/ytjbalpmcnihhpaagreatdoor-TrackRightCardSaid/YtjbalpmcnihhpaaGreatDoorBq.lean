/- Contracts of package root: Sqrt, squares. -/
import Derived.Test.YtjbalpmcnihhpaaGreatDoorBn
import Derived.Test.YtjbalpmcnihhpaaGreatDoorBv
import Derived.Test.YtjbalpmcnihhpaaGreatDoorBk
import Derived.Test.YtjbalpmcnihhpaaGreatDoorBx
import Derived.Deep.RegionWith
import Derived.Deep.DeepCutAuto
namespace Go.Proofs.YtjbalpmcnihhpaaGreatDoor
open Go.RowKit

theorem CellW.drew {w : World} {n : Nat} {h l : Int} (k : CellW w n h l) : CellW w.drew n h l := ⟨k.c0, k.c1, k.f0, k.f1⟩
theorem CellW.newR {w : World} {n : Nat} (h l : Int) (t : TypeId) (e : n = w.heap.size) : CellW (w.alloc (.cells #[.int .i64 h, .int .u64 l] t)) n h l := by
  subst e; exact CellW.new w h l t
/-- a statement has made a wide number in a block of its own -/
def MadeW (W0 : World) (T : Int) (f : Bool) (s t : Value) (W : World) : Prop := ∃ g : Nat, s = .pointer (some ⟨g, 0, none⟩) ∧ t = .bool f ∧ CellW W g (hiW T) (loW T) ∧ W0.heap.size ≤ g ∧ g < W.heap.size ∧ Below W0.heap.size W0 W

end Go.Proofs.YtjbalpmcnihhpaaGreatDoor
namespace Go.Proofs.YtjbalpmcnihhpaaGreatDoor
open Go.RowKit

theorem wf64 {x : Int} (x0 : -9223372036854775808 ≤ x) (x1 : x ≤ 9223372036854775807) : (Lit.int .i64 x).wf = true := by
  have h0 : IntKind.i64.min = -9223372036854775808 := by decide
  have h1 : IntKind.i64.max = 9223372036854775807 := by decide
  simp [Lit.wf, h0, h1]; omega
theorem ints_new2 {x y : Int} (w : World) (t : TypeId) (x0 : -9223372036854775808 ≤ x) (x1 : x ≤ 9223372036854775807) (y0 : -9223372036854775808 ≤ y) (y1 : y ≤ 9223372036854775807) :
    Ints (w.alloc (.cells #[.int .i64 x, .int .i64 y] t)) .i64 (some ⟨w.heap.size, 0, none⟩) 2 2 [x, y] :=
  ⟨by unfold maxLen; omega, by omega, rfl, fun n hn => by simp at hn; rcases hn with rfl | rfl <;> exact wf64 (by omega) (by omega), fun _ => ⟨_, 0, rfl, by simp, fun i hi => by
    rw [Nat.zero_add]
    match i, hi with
    | 0, _ => exact World.cell?_alloc_new w _ t 0
    | 1, _ => exact World.cell?_alloc_new w _ t 1⟩⟩
theorem ints_new3 {x y z : Int} (w : World) (t : TypeId) (x0 : -9223372036854775808 ≤ x) (x1 : x ≤ 9223372036854775807) (y0 : -9223372036854775808 ≤ y) (y1 : y ≤ 9223372036854775807) (z0 : -9223372036854775808 ≤ z) (z1 : z ≤ 9223372036854775807) :
    Ints (w.alloc (.cells #[.int .i64 x, .int .i64 y, .int .i64 z] t)) .i64 (some ⟨w.heap.size, 0, none⟩) 3 3 [x, y, z] :=
  ⟨by unfold maxLen; omega, by omega, rfl, fun n hn => by simp at hn; rcases hn with rfl | rfl | rfl <;> exact wf64 (by omega) (by omega), fun _ => ⟨_, 0, rfl, by simp, fun i hi => by
    rw [Nat.zero_add]
    match i, hi with
    | 0, _ => exact World.cell?_alloc_new w _ t 0
    | 1, _ => exact World.cell?_alloc_new w _ t 1
    | 2, _ => exact World.cell?_alloc_new w _ t 2⟩⟩
theorem ints_new4 {v x y z : Int} (w : World) (t : TypeId) (v0 : -9223372036854775808 ≤ v) (v1 : v ≤ 9223372036854775807) (x0 : -9223372036854775808 ≤ x) (x1 : x ≤ 9223372036854775807) (y0 : -9223372036854775808 ≤ y) (y1 : y ≤ 9223372036854775807) (z0 : -9223372036854775808 ≤ z) (z1 : z ≤ 9223372036854775807) :
    Ints (w.alloc (.cells #[.int .i64 v, .int .i64 x, .int .i64 y, .int .i64 z] t)) .i64 (some ⟨w.heap.size, 0, none⟩) 4 4 [v, x, y, z] :=
  ⟨by unfold maxLen; omega, by omega, rfl, fun n hn => by simp at hn; rcases hn with rfl | rfl | rfl | rfl <;> exact wf64 (by omega) (by omega), fun _ => ⟨_, 0, rfl, by simp, fun i hi => by
    rw [Nat.zero_add]
    match i, hi with
    | 0, _ => exact World.cell?_alloc_new w _ t 0
    | 1, _ => exact World.cell?_alloc_new w _ t 1
    | 2, _ => exact World.cell?_alloc_new w _ t 2
    | 3, _ => exact World.cell?_alloc_new w _ t 3⟩⟩
theorem of_max : ofF 9223372036854775807 = 9223372036854775807 ∧ ofO 9223372036854775807 = true := by decide +kernel
end Go.Proofs.YtjbalpmcnihhpaaGreatDoor
