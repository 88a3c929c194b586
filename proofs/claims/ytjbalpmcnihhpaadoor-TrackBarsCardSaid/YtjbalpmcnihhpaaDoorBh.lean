/- The contract of the document's Add. -/
import Derived.Test.YtjbalpmcnihhpaaDoorBf
import Derived.Test.YtjbalpmcnihhpaaDoorBv
import Derived.Deep.RegionWith
namespace Go.Proofs.YtjbalpmcnihhpaaDoor
open Go.RowKit

theorem add_same {a b : Int} (_ha : In128 a) (_hb : In128 b) (s : (decide (a < 0) == decide (b < 0)) = true) : sgnW (decide (a < 0)) ((a.natAbs : Int) + b.natAbs) = a + b := by
  unfold sgnW
  by_cases p : a < 0 <;> by_cases q : b < 0 <;> simp [p, q] at s ⊢ <;> omega
theorem add_form {a b m : Int} (h : sgnW (decide (a < 0)) m = a + b) (m0 : 0 ≤ m) (nz : a + b ≠ 0) : decide (a + b < 0) = decide (a < 0) ∧ ((a + b).natAbs : Int) = m := by
  unfold sgnW at h
  by_cases p : a < 0
  · simp [p] at h ⊢; omega
  · simp [p] at h ⊢; omega
theorem clip_none {n : Int} (h : fitW n = false) : clipW n = 0 := by
  unfold fitW at h; unfold clipW; rw [if_neg (of_decide_eq_false h)]
theorem clip_some {n : Int} (h : fitW n = true) : clipW n = n := by
  unfold fitW at h; unfold clipW; rw [if_pos (of_decide_eq_true h)]
/-- five cells of block n are there -/
structure Some5 (w : World) (n : Nat) : Prop where
  c0 : ∃ v, w.cell? ⟨n, 0, none⟩ = some v
  c1 : ∃ v, w.cell? ⟨n, 1, none⟩ = some v
  c2 : ∃ v, w.cell? ⟨n, 2, none⟩ = some v
  c3 : ∃ v, w.cell? ⟨n, 3, none⟩ = some v
  c4 : ∃ v, w.cell? ⟨n, 4, none⟩ = some v
theorem some_set {w : World} {p a : Addr} {u : Value} (k : ∃ v, w.cell? a = some v) : ∃ v, (w.setCell p u).cell? a = some v := by
  obtain ⟨v, hv⟩ := k
  by_cases h : p = a
  · subst h; exact ⟨u, World.cell?_setCell_same _ _ _ hv⟩
  · exact ⟨v, (World.cell?_setCell_other _ _ _ _ h).trans hv⟩
theorem Some5.set {w : World} {n : Nat} (k : Some5 w n) (p : Addr) (u : Value) : Some5 (w.setCell p u) n := ⟨some_set k.c0, some_set k.c1, some_set k.c2, some_set k.c3, some_set k.c4⟩
theorem Some5.below {B : Nat} {w w' : World} {n : Nat} (k : Some5 w n) (hb : Below B w w') (hn : n < B) : Some5 w' n := ⟨below_some hb hn k.c0, below_some hb hn k.c1, below_some hb hn k.c2, below_some hb hn k.c3, below_some hb hn k.c4⟩
theorem Some5.alloc {w : World} {n : Nat} (k : Some5 w n) (hn : n < w.heap.size) (o : Obj) : Some5 (w.alloc o) n := k.below (B := w.heap.size) ((Below.refl _ _).alloc (Nat.le_refl _) o) hn
theorem Some5.new (w : World) (a b c d e : Value) (t : TypeId) : Some5 (w.alloc (.cells #[a, b, c, d, e] t)) w.heap.size :=
  ⟨⟨a, World.cell?_alloc_new w _ t 0⟩, ⟨b, World.cell?_alloc_new w _ t 1⟩, ⟨c, World.cell?_alloc_new w _ t 2⟩, ⟨d, World.cell?_alloc_new w _ t 3⟩, ⟨e, World.cell?_alloc_new w _ t 4⟩⟩
end Go.Proofs.YtjbalpmcnihhpaaDoor
namespace Go.Proofs.YtjbalpmcnihhpaaDoor
open Go.RowKit

theorem add_form2 {a b m : Int} (h : sgnW (decide (b < 0)) m = a + b) (m0 : 0 ≤ m) (nz : m ≠ 0) : decide (a + b < 0) = decide (b < 0) ∧ ((a + b).natAbs : Int) = m := by
  unfold sgnW at h
  by_cases p : b < 0
  · simp [p] at h ⊢; omega
  · simp [p] at h ⊢; omega
end Go.Proofs.YtjbalpmcnihhpaaDoor
namespace Go.Proofs.YtjbalpmcnihhpaaDoor
open Go.RowKit

end Go.Proofs.YtjbalpmcnihhpaaDoor
namespace Go.Proofs.YtjbalpmcnihhpaaDoor
open Go.RowKit

end Go.Proofs.YtjbalpmcnihhpaaDoor
namespace Go.Proofs.YtjbalpmcnihhpaaDoor
open Go.RowKit

end Go.Proofs.YtjbalpmcnihhpaaDoor
namespace Go.Proofs.YtjbalpmcnihhpaaDoor
open Go.RowKit

end Go.Proofs.YtjbalpmcnihhpaaDoor
