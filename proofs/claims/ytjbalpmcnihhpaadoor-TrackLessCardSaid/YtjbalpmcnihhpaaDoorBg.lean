/- Contracts of the document's answers: of, Sign, Cmp. -/
import Derived.Test.YtjbalpmcnihhpaaDoorBf
import Derived.Test.YtjbalpmcnihhpaaDoorBv
import Derived.Test.YtjbalpmcnihhpaaDoorBn
namespace Go.Proofs.YtjbalpmcnihhpaaDoor
open Go.RowKit

end Go.Proofs.YtjbalpmcnihhpaaDoor
namespace Go.Proofs.YtjbalpmcnihhpaaDoor
open Go.RowKit

theorem digits_ne {m k : Int} (m0 : 0 ≤ m) (m1 : m < 340282366920938463463374607431768211456) (k0 : 0 ≤ k) (k1 : k < 340282366920938463463374607431768211456) (h : m ≠ k) : (d0 m == d0 k && d1 m == d1 k && d2 m == d2 k && d3 m == d3 k) = false := by
  rw [Bool.eq_false_iff]
  intro c
  simp at c
  unfold d0 d1 d2 d3 at c
  omega
theorem same_gt {a b : Int} (s : cmpI a 0 = cmpI b 0) (e : ¬ a.natAbs = b.natAbs) (n : (decide ((a.natAbs : Int) < b.natAbs) == decide (a < 0)) = true) : 1 = cmpI a b := by
  have hs : (a = 0 ↔ b = 0) ∧ (a < 0 ↔ b < 0) := by
    unfold cmpI at s; split at s <;> split at s <;> (try split at s) <;> (try split at s) <;> omega
  by_cases p : a < 0 <;> by_cases q : (a.natAbs : Int) < b.natAbs <;> simp [p, q] at n <;> unfold cmpI <;> rw [if_neg (by omega), if_neg (by omega)]
theorem same_lt {a b : Int} (s : cmpI a 0 = cmpI b 0) (e : ¬ a.natAbs = b.natAbs) (n : (decide ((a.natAbs : Int) < b.natAbs) == decide (a < 0)) = false) : -1 = cmpI a b := by
  have hs : (a = 0 ↔ b = 0) ∧ (a < 0 ↔ b < 0) := by
    unfold cmpI at s; split at s <;> split at s <;> (try split at s) <;> (try split at s) <;> omega
  by_cases p : a < 0 <;> by_cases q : (a.natAbs : Int) < b.natAbs <;> simp [p, q] at n <;> unfold cmpI <;> rw [if_neg (by omega), if_pos (by omega)]
end Go.Proofs.YtjbalpmcnihhpaaDoor
namespace Go.Proofs.YtjbalpmcnihhpaaDoor
open Go.RowKit

/-- two digits lie in block n -/
structure CellL (w : World) (n : Nat) (a b : Int) : Prop where
  c0 : w.cell? ⟨n, 0, none⟩ = some (.int .u64 a)
  c1 : w.cell? ⟨n, 1, none⟩ = some (.int .u64 b)
theorem CellL.below {B : Nat} {w w' : World} {n : Nat} {a b : Int} (k : CellL w n a b) (hb : Below B w w') (hn : n < B) : CellL w' n a b :=
  ⟨(hb.cell (p := ⟨n, 0, none⟩) hn).trans k.c0, (hb.cell (p := ⟨n, 1, none⟩) hn).trans k.c1⟩
theorem CellL.far {w : World} {n m : Nat} {a b : Int} (k : CellL w n a b) (hn : m ≠ n) (i : Nat) (v : Value) : CellL (w.setCell ⟨m, i, none⟩ v) n a b :=
  ⟨(World.cell?_setCell_other _ _ _ _ (addr_b hn)).trans k.c0, (World.cell?_setCell_other _ _ _ _ (addr_b hn)).trans k.c1⟩
theorem CellL.drewN {w : World} {n : Nat} {a b : Int} (k : CellL w n a b) (q : Nat) : CellL (w.drewN q) n a b := ⟨k.c0, k.c1⟩

/-- all that the loops know of memory -/
structure MulS (w wr : World) (s : Bool) (l0 l1 m0 m1 x0 x1 x2 x3 : Int) : Prop where
  o : CellO wr (w.heap.size + 1 + 1 + 1) s x0 x1 x2 x3
  l : CellL wr (w.heap.size + 1) l0 l1
  m : CellL wr (w.heap.size + 1 + 1) m0 m1
  z : w.heap.size + 1 + 1 + 1 < wr.heap.size
  r : (∀ j, wr.frozen? ⟨w.heap.size, j, none⟩ = false) ∧ (∃ v, wr.cell? ⟨w.heap.size, 0, none⟩ = some v) ∧ (∃ v, wr.cell? ⟨w.heap.size, 1, none⟩ = some v) ∧ (∃ v, wr.cell? ⟨w.heap.size, 2, none⟩ = some v) ∧ (∃ v, wr.cell? ⟨w.heap.size, 3, none⟩ = some v) ∧ (∃ v, wr.cell? ⟨w.heap.size, 4, none⟩ = some v)
  b : Below w.heap.size w wr

theorem mulS_start (w : World) (s : Bool) (l0 l1 m0 m1 : Int) (t u : TypeId) :
    MulS w ((((w.alloc (.cells #[.bool false, .int .u64 0, .int .u64 0, .int .u64 0, .int .u64 0] t)).alloc (.cells #[.int .u64 l0, .int .u64 l1] u)).alloc (.cells #[.int .u64 m0, .int .u64 m1] u)).alloc (.cells #[.bool s, .int .u64 0, .int .u64 0, .int .u64 0, .int .u64 0] t)) s l0 l1 m0 m1 0 0 0 0 :=
  ⟨⟨by go_simp, by go_simp, by go_simp, by go_simp, by go_simp, fun j => by go_simp⟩, ⟨by go_simp, by go_simp⟩, ⟨by go_simp, by go_simp⟩, by simp,
    ⟨fun j => by go_simp, ⟨.bool false, by go_simp⟩, ⟨.int .u64 0, by go_simp⟩, ⟨.int .u64 0, by go_simp⟩, ⟨.int .u64 0, by go_simp⟩, ⟨.int .u64 0, by go_simp⟩⟩, by repeat (first | exact Below.refl _ _ | assumption | refine Below.setCell ?_ (by first | omega | (simp; done) | (simp; omega)) _ | refine Below.alloc ?_ (by first | omega | (simp; done) | (simp; omega)) _ | refine below_drewN ?_ _ | refine Below.drew ?_ | refine Below.trans ?_ (Below.mono (by assumption) (by first | omega | (simp; done) | (simp; omega))))⟩
theorem MulS.drewN {w wr : World} {s : Bool} {l0 l1 m0 m1 x0 x1 x2 x3 : Int} (k : MulS w wr s l0 l1 m0 m1 x0 x1 x2 x3) (q : Nat) : MulS w (wr.drewN q) s l0 l1 m0 m1 x0 x1 x2 x3 :=
  ⟨k.o.drewN q, k.l.drewN q, k.m.drewN q, k.z, k.r, below_drewN k.b q⟩
theorem far_some {w : World} {n m i j : Nat} {u : Value} (h : n ≠ m) (k : ∃ v, w.cell? ⟨m, j, none⟩ = some v) : ∃ v, (w.setCell ⟨n, i, none⟩ u).cell? ⟨m, j, none⟩ = some v :=
  k.elim fun v hv => ⟨v, (World.cell?_setCell_other _ _ _ _ (addr_b h)).trans hv⟩
theorem MulS.put {w wr : World} {s : Bool} {l0 l1 m0 m1 x0 x1 x2 x3 y0 y1 y2 y3 : Int} (k : MulS w wr s l0 l1 m0 m1 x0 x1 x2 x3) (i : Nat) (v : Value) (o : CellO (wr.setCell ⟨w.heap.size + 1 + 1 + 1, i, none⟩ v) (w.heap.size + 1 + 1 + 1) s y0 y1 y2 y3) :
    MulS w (wr.setCell ⟨w.heap.size + 1 + 1 + 1, i, none⟩ v) s l0 l1 m0 m1 y0 y1 y2 y3 :=
  ⟨o, k.l.far (by omega) _ _, k.m.far (by omega) _ _, by have := k.z; simpa [World.setCell] using this,
    ⟨fun j => (World.frozen?_setCell _ _ _ _).trans (k.r.1 j), far_some (by omega) k.r.2.1, far_some (by omega) k.r.2.2.1, far_some (by omega) k.r.2.2.2.1, far_some (by omega) k.r.2.2.2.2.1, far_some (by omega) k.r.2.2.2.2.2⟩, k.b.setCell (by simp; omega) _⟩

theorem mul_abs (a b : Int) : ((a * b).natAbs : Int) = (a.natAbs : Int) * (b.natAbs : Int) := by rw [Int.natAbs_mul, Int.natCast_mul]
theorem mul_sgn (a b : Int) (h : a * b ≠ 0) : decide (a * b < 0) = (!decide (a < 0) == decide (b < 0)) := by
  rcases Int.lt_trichotomy a 0 with p | p | p <;> rcases Int.lt_trichotomy b 0 with q | q | q
  · have := Int.mul_pos_of_neg_of_neg p q
    rw [decide_eq_false (by omega), decide_eq_true p, decide_eq_true q]; rfl
  · subst q; simp at h
  · have := Int.mul_neg_of_neg_of_pos p q
    rw [decide_eq_true this, decide_eq_true p, decide_eq_false (by omega)]; rfl
  · subst p; simp at h
  · subst p; simp at h
  · subst p; simp at h
  · have := Int.mul_neg_of_pos_of_neg p q
    rw [decide_eq_true this, decide_eq_false (by omega), decide_eq_true q]; rfl
  · subst q; simp at h
  · have := Int.mul_pos p q
    rw [decide_eq_false (by omega), decide_eq_false (by omega), decide_eq_false (by omega)]; rfl
theorem MulS.below {w wr w1 : World} {s : Bool} {l0 l1 m0 m1 x0 x1 x2 x3 : Int} (k : MulS w wr s l0 l1 m0 m1 x0 x1 x2 x3) (hb : Below wr.heap.size wr w1) : MulS w w1 s l0 l1 m0 m1 x0 x1 x2 x3 := by
  have z := k.z
  have y := hb.size
  exact ⟨k.o.below hb z, k.l.below hb (by omega), k.m.below hb (by omega), by omega,
    ⟨fun j => (hb.frozen (p := ⟨w.heap.size, j, none⟩) (by simp; omega)).trans (k.r.1 j), below_some hb (by omega) k.r.2.1, below_some hb (by omega) k.r.2.2.1, below_some hb (by omega) k.r.2.2.2.1, below_some hb (by omega) k.r.2.2.2.2.1, below_some hb (by omega) k.r.2.2.2.2.2⟩, k.b.trans (hb.mono (by omega))⟩
end Go.Proofs.YtjbalpmcnihhpaaDoor
namespace Go.Proofs.YtjbalpmcnihhpaaDoor
open Go.RowKit

/-- all that the loops know of memory -/
structure SqS (w wr : World) (l0 l1 x0 x1 x2 x3 : Int) : Prop where
  o : CellQ wr (w.heap.size + 1 + 1) x0 x1 x2 x3
  l : CellL wr (w.heap.size + 1) l0 l1
  z : w.heap.size + 1 + 1 < wr.heap.size
  r : (∀ j, wr.frozen? ⟨w.heap.size, j, none⟩ = false) ∧ (∃ v, wr.cell? ⟨w.heap.size, 0, none⟩ = some v) ∧ (∃ v, wr.cell? ⟨w.heap.size, 1, none⟩ = some v) ∧ (∃ v, wr.cell? ⟨w.heap.size, 2, none⟩ = some v) ∧ (∃ v, wr.cell? ⟨w.heap.size, 3, none⟩ = some v)
  b : Below w.heap.size w wr
theorem sqS_start (w : World) (l0 l1 : Int) (t u : TypeId) :
    SqS w (((w.alloc (.cells #[.int .u64 0, .int .u64 0, .int .u64 0, .int .u64 0] t)).alloc (.cells #[.int .u64 l0, .int .u64 l1] u)).alloc (.cells #[.int .u64 0, .int .u64 0, .int .u64 0, .int .u64 0] t)) l0 l1 0 0 0 0 :=
  ⟨⟨by go_simp, by go_simp, by go_simp, by go_simp, fun j => by go_simp⟩, ⟨by go_simp, by go_simp⟩, by simp,
    ⟨fun j => by go_simp, ⟨.int .u64 0, by go_simp⟩, ⟨.int .u64 0, by go_simp⟩, ⟨.int .u64 0, by go_simp⟩, ⟨.int .u64 0, by go_simp⟩⟩, by repeat (first | exact Below.refl _ _ | assumption | refine Below.setCell ?_ (by first | omega | (simp; done) | (simp; omega)) _ | refine Below.alloc ?_ (by first | omega | (simp; done) | (simp; omega)) _ | refine below_drewN ?_ _ | refine Below.drew ?_ | refine Below.trans ?_ (Below.mono (by assumption) (by first | omega | (simp; done) | (simp; omega))))⟩
theorem SqS.drewN {w wr : World} {l0 l1 x0 x1 x2 x3 : Int} (k : SqS w wr l0 l1 x0 x1 x2 x3) (q : Nat) : SqS w (wr.drewN q) l0 l1 x0 x1 x2 x3 :=
  ⟨k.o.drewN q, k.l.drewN q, k.z, k.r, below_drewN k.b q⟩
theorem SqS.put {w wr : World} {l0 l1 x0 x1 x2 x3 y0 y1 y2 y3 : Int} (k : SqS w wr l0 l1 x0 x1 x2 x3) (i : Nat) (v : Value) (o : CellQ (wr.setCell ⟨w.heap.size + 1 + 1, i, none⟩ v) (w.heap.size + 1 + 1) y0 y1 y2 y3) :
    SqS w (wr.setCell ⟨w.heap.size + 1 + 1, i, none⟩ v) l0 l1 y0 y1 y2 y3 :=
  ⟨o, k.l.far (by omega) _ _, by have := k.z; simpa [World.setCell] using this,
    ⟨fun j => (World.frozen?_setCell _ _ _ _).trans (k.r.1 j), far_some (by omega) k.r.2.1, far_some (by omega) k.r.2.2.1, far_some (by omega) k.r.2.2.2.1, far_some (by omega) k.r.2.2.2.2⟩, k.b.setCell (by simp; omega) _⟩
end Go.Proofs.YtjbalpmcnihhpaaDoor
namespace Go.Proofs.YtjbalpmcnihhpaaDoor
open Go.RowKit

theorem startN1 {B : Nat} {w W : World} {n : Nat} {b : Bool} {x : Int} (A : CellN W n b x) (g : n < W.heap.size) (z : B ≤ W.heap.size) (k : Below B w W) :
    (W.cell? ⟨n, 0, none⟩ = some (.bool (b)) ∧ W.cell? ⟨n, 1, none⟩ = some (.int .u64 (d0 (x))) ∧ W.cell? ⟨n, 2, none⟩ = some (.int .u64 (d1 (x))) ∧ W.cell? ⟨n, 3, none⟩ = some (.int .u64 (d2 (x))) ∧ W.cell? ⟨n, 4, none⟩ = some (.int .u64 (d3 (x)))) ∧ n < W.heap.size ∧ B ≤ W.heap.size ∧ Below B w W := ⟨⟨A.c0, A.c1, A.c2, A.c3, A.c4⟩, g, z, k⟩
theorem keepN1 {B : Nat} {w W W' : World} {n : Nat} {b : Bool} {x : Int} (hb : Below W.heap.size W W') (h : (W.cell? ⟨n, 0, none⟩ = some (.bool (b)) ∧ W.cell? ⟨n, 1, none⟩ = some (.int .u64 (d0 (x))) ∧ W.cell? ⟨n, 2, none⟩ = some (.int .u64 (d1 (x))) ∧ W.cell? ⟨n, 3, none⟩ = some (.int .u64 (d2 (x))) ∧ W.cell? ⟨n, 4, none⟩ = some (.int .u64 (d3 (x)))) ∧ n < W.heap.size ∧ B ≤ W.heap.size ∧ Below B w W) :
    (W'.cell? ⟨n, 0, none⟩ = some (.bool (b)) ∧ W'.cell? ⟨n, 1, none⟩ = some (.int .u64 (d0 (x))) ∧ W'.cell? ⟨n, 2, none⟩ = some (.int .u64 (d1 (x))) ∧ W'.cell? ⟨n, 3, none⟩ = some (.int .u64 (d2 (x))) ∧ W'.cell? ⟨n, 4, none⟩ = some (.int .u64 (d3 (x)))) ∧ n < W'.heap.size ∧ B ≤ W'.heap.size ∧ Below B w W' := by
  obtain ⟨⟨a0, a1, a2, a3, a4⟩, g, z, k⟩ := h
  have A : CellN W n b x := ⟨a0, a1, a2, a3, a4⟩
  have := hb.size
  exact startN1 (A.below hb g) (by omega) (by omega) (k.trans (hb.mono z))
theorem cellN_of {B : Nat} {w W : World} {n : Nat} {b : Bool} {x : Int} (h : (W.cell? ⟨n, 0, none⟩ = some (.bool (b)) ∧ W.cell? ⟨n, 1, none⟩ = some (.int .u64 (d0 (x))) ∧ W.cell? ⟨n, 2, none⟩ = some (.int .u64 (d1 (x))) ∧ W.cell? ⟨n, 3, none⟩ = some (.int .u64 (d2 (x))) ∧ W.cell? ⟨n, 4, none⟩ = some (.int .u64 (d3 (x)))) ∧ n < W.heap.size ∧ B ≤ W.heap.size ∧ Below B w W) : CellN W n b x ∧ n < W.heap.size ∧ Below B w W :=
  ⟨⟨h.1.1, h.1.2.1, h.1.2.2.1, h.1.2.2.2.1, h.1.2.2.2.2⟩, h.2.1, h.2.2.2⟩

/-- t bits are open: the root lies from n on, below n + 2^t -/
structure Open (s n : Int) (t : Nat) : Prop where
  lo : n ≤ s
  hi : s < n + 2 ^ t
  n0 : 0 ≤ n
  top : n + 2 ^ t ≤ 18446744073709551616
theorem Open.up {s n : Int} {u : Nat} (k : Open s n (u + 1)) (h : n + 2 ^ u ≤ s) : Open s (n + 2 ^ u) u := by
  obtain ⟨lo, hi, n0, top⟩ := k
  rw [Int.pow_succ] at hi top
  have : (0 : Int) < 2 ^ u := Int.pow_pos (by omega)
  exact ⟨h, by omega, by omega, by omega⟩
theorem Open.down {s n : Int} {u : Nat} (k : Open s n (u + 1)) (h : s < n + 2 ^ u) : Open s n u := by
  obtain ⟨lo, hi, n0, top⟩ := k
  rw [Int.pow_succ] at hi top
  have : (0 : Int) < 2 ^ u := Int.pow_pos (by omega)
  exact ⟨lo, h, n0, by omega⟩
theorem Open.fits {s n : Int} {u : Nat} (k : Open s n (u + 1)) : ∃ p : Int, IntKind.u64.wrap (2 ^ u) = p ∧ 1 ≤ p ∧ n + p ≤ 18446744073709551615 ∧ Hid (p = 2 ^ u) := by
  obtain ⟨lo, hi, n0, top⟩ := k
  rw [Int.pow_succ] at hi top
  have : (0 : Int) < 2 ^ u := Int.pow_pos (by omega)
  exact ⟨2 ^ u, by rw [IntKind.wrap_u64]; omega, by omega, by omega, rfl⟩

end Go.Proofs.YtjbalpmcnihhpaaDoor
namespace Go.Proofs.YtjbalpmcnihhpaaDoor
open Go.RowKit

theorem CellN.far {w : World} {n m : Nat} {b : Bool} {x : Int} (k : CellN w n b x) (hn : m ≠ n) (i : Nat) (v : Value) : CellN (w.setCell ⟨m, i, none⟩ v) n b x :=
  ⟨(World.cell?_setCell_other _ _ _ _ (addr_b hn)).trans k.c0, (World.cell?_setCell_other _ _ _ _ (addr_b hn)).trans k.c1, (World.cell?_setCell_other _ _ _ _ (addr_b hn)).trans k.c2, (World.cell?_setCell_other _ _ _ _ (addr_b hn)).trans k.c3, (World.cell?_setCell_other _ _ _ _ (addr_b hn)).trans k.c4⟩
theorem CellN.far4 {w : World} {n m : Nat} {b : Bool} {x : Int} (k : CellN w n b x) (hn : m ≠ n) (u0 u1 u2 u3 : Value) : CellN ((((w.setCell ⟨m, 0, none⟩ u0).setCell ⟨m, 1, none⟩ u1).setCell ⟨m, 2, none⟩ u2).setCell ⟨m, 3, none⟩ u3) n b x :=
  (((k.far hn 0 u0).far hn 1 u1).far hn 2 u2).far hn 3 u3
theorem below_4 {B : Nat} {w w' : World} {m : Nat} (h : Below B w w') (hm : B ≤ m) (u0 u1 u2 u3 : Value) : Below B w ((((w'.setCell ⟨m, 0, none⟩ u0).setCell ⟨m, 1, none⟩ u1).setCell ⟨m, 2, none⟩ u2).setCell ⟨m, 3, none⟩ u3) :=
  (((h.setCell hm u0).setCell hm u1).setCell hm u2).setCell hm u3

end Go.Proofs.YtjbalpmcnihhpaaDoor
