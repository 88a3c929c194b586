/- Contracts of the document's plane: Near. -/
import Derived.Test.YtjbalpmcnihhpaaDoorBj
import Derived.Test.YtjbalpmcnihhpaaDoorBm
import Derived.Deep.LoopGhost
import Derived.Test.YtjbalpmcnihhpaaDoorBg
import Derived.Test.YtjbalpmcnihhpaaDoorBh
import Derived.Deep.DeepCutAuto
namespace Go.Proofs.YtjbalpmcnihhpaaDoor
open Go.RowKit
set_option linter.unusedVariables false
set_option linter.unusedSimpArgs false

end Go.Proofs.YtjbalpmcnihhpaaDoor
namespace Go.Proofs.YtjbalpmcnihhpaaDoor
open Go.RowKit
set_option linter.unusedVariables false
set_option linter.unusedSimpArgs false

theorem BW.put {W : World} {n i : Nat} {l : List Value} (k : BW W n l) (v : Value) (u : Value) (hu : l[i]? = some u) : BW (W.setCell ⟨n, i, none⟩ v) n (l.set i v) := by
  refine ⟨fun j x h => ?_, fun j => (World.frozen?_setCell _ _ _ _).trans (k.f j), by rw [set_size]; exact k.lt⟩
  by_cases e : i = j
  · subst e
    have : x = v := by
      have hl : i < l.length := by
        apply Classical.byContradiction; intro c
        rw [List.getElem?_eq_none (by omega)] at hu; cases hu
      rw [List.getElem?_set_self hl] at h; cases h; rfl
    subst this
    exact World.cell?_setCell_same _ _ _ (k.c i u hu)
  · rw [List.getElem?_set_ne e] at h
    exact (World.cell?_setCell_other _ _ _ _ (fun h' => e (by cases h'; rfl))).trans (k.c j x h)
/-- a number of the document's own, turned round -/
theorem nv_neg (n : Int) : (!decide (n < 0) && !decide ((n.natAbs : Int) = 0)) = decide (-n < 0) ∧ ((-n).natAbs : Int) = n.natAbs := by
  refine ⟨?_, by omega⟩
  by_cases h : n < 0
  · rw [decide_eq_true h, decide_eq_false (by omega : ¬ -n < 0)]; rfl
  · by_cases z : n = 0
    · subst z; rfl
    · rw [decide_eq_false h, decide_eq_false (by omega : ¬ (n.natAbs : Int) = 0), decide_eq_true (by omega : -n < 0)]; rfl
end Go.Proofs.YtjbalpmcnihhpaaDoor
namespace Go.Proofs.YtjbalpmcnihhpaaDoor
open Go.RowKit
set_option linter.unusedVariables false
set_option linter.unusedSimpArgs false

theorem BW.h5 {W : World} {n : Nat} {a b c d e : Value} (k : BW W n [a, b, c, d, e]) : W.cell? ⟨n, 0, none⟩ = some a ∧ W.cell? ⟨n, 1, none⟩ = some b ∧ W.cell? ⟨n, 2, none⟩ = some c ∧ W.cell? ⟨n, 3, none⟩ = some d ∧ W.cell? ⟨n, 4, none⟩ = some e := ⟨k.c 0 _ rfl, k.c 1 _ rfl, k.c 2 _ rfl, k.c 3 _ rfl, k.c 4 _ rfl⟩
end Go.Proofs.YtjbalpmcnihhpaaDoor
namespace Go.Proofs.YtjbalpmcnihhpaaDoor
open Go.RowKit
set_option linter.unusedVariables false
set_option linter.unusedSimpArgs false

/-- the blocks of a list hold their values, and nothing of w is turned -/
structure St (w W : World) (L : List (Nat × List Value)) : Prop where
  b : ∀ n l, (n, l) ∈ L → BW W n l
  l : Below w.heap.size w W
theorem St.step {w W W' : World} {L : List (Nat × List Value)} (k : St w W L) (h : Below W.heap.size W W') : St w W' L :=
  ⟨fun n l e => (k.b n l e).below h (k.b n l e).lt, k.l.trans (h.mono k.l.size)⟩
theorem St.drew {w W : World} {L : List (Nat × List Value)} (k : St w W L) : St w W.drew L := ⟨fun n l e => (k.b n l e).drew, k.l.drew⟩
theorem St.alloc {w W : World} {L : List (Nat × List Value)} (k : St w W L) (o : Obj) : St w (W.alloc o) L := k.step ((Below.refl _ _).alloc (Nat.le_refl _) o)
theorem St.far {w W : World} {L : List (Nat × List Value)} (k : St w W L) {r : Nat} (h : w.heap.size ≤ r) (hr : ∀ n l, (n, l) ∈ L → r ≠ n) (i : Nat) (v : Value) : St w (W.setCell ⟨r, i, none⟩ v) L :=
  ⟨fun n l e => (k.b n l e).far (hr n l e) i v, k.l.setCell (p := ⟨r, i, none⟩) h v⟩
theorem St.nil {w W : World} (h : Below w.heap.size w W) : St w W [] := ⟨(fun n l e => by simp at e), h⟩
theorem St.cons {w W : World} {L : List (Nat × List Value)} {n : Nat} {l : List Value} (a : BW W n l) (k : St w W L) : St w W ((n, l) :: L) :=
  ⟨fun m q e => by
    rcases List.mem_cons.1 e with h | h
    · cases h; exact a
    · exact k.b m q h, k.l⟩
theorem BW.h2' {W : World} {n : Nat} {a b : Value} (k : BW W n [a, b]) : W.cell? ⟨n, 0, none⟩ = some a ∧ W.cell? ⟨n, 1, none⟩ = some b := ⟨k.c 0 _ rfl, k.c 1 _ rfl⟩
theorem BW.far5 {W : World} {n r : Nat} {l : List Value} (k : BW W n l) (e : r ≠ n) (u0 u1 u2 u3 u4 : Value) : BW (((((W.setCell ⟨r, 0, none⟩ u0).setCell ⟨r, 1, none⟩ u1).setCell ⟨r, 2, none⟩ u2).setCell ⟨r, 3, none⟩ u3).setCell ⟨r, 4, none⟩ u4) n l :=
  ((((k.far e 0 u0).far e 1 u1).far e 2 u2).far e 3 u3).far e 4 u4
theorem BW.put5 {W : World} {n : Nat} {a b c d e : Value} (k : BW W n [a, b, c, d, e]) (u0 u1 u2 u3 u4 : Value) : BW (((((W.setCell ⟨n, 0, none⟩ u0).setCell ⟨n, 1, none⟩ u1).setCell ⟨n, 2, none⟩ u2).setCell ⟨n, 3, none⟩ u3).setCell ⟨n, 4, none⟩ u4) n [u0, u1, u2, u3, u4] :=
  (((((k.put (i := 0) u0 a rfl).put (i := 1) u1 b rfl).put (i := 2) u2 c rfl).put (i := 3) u3 d rfl).put (i := 4) u4 e rfl)
theorem below_put5 {w W : World} (k : Below w.heap.size w W) {r : Nat} (h : w.heap.size ≤ r) (u0 u1 u2 u3 u4 : Value) : Below w.heap.size w (((((W.setCell ⟨r, 0, none⟩ u0).setCell ⟨r, 1, none⟩ u1).setCell ⟨r, 2, none⟩ u2).setCell ⟨r, 3, none⟩ u3).setCell ⟨r, 4, none⟩ u4) :=
  ((((k.setCell (p := ⟨r, 0, none⟩) h u0).setCell (p := ⟨r, 1, none⟩) h u1).setCell (p := ⟨r, 2, none⟩) h u2).setCell (p := ⟨r, 3, none⟩) h u3).setCell (p := ⟨r, 4, none⟩) h u4
/-- the area's numbers fit -/
theorem area_fit {ax ay bx by' px py : Int} (h1 : Rg ax) (h2 : Rg ay) (h3 : Rg bx) (h4 : Rg by') (h5 : Rg px) (h6 : Rg py) :
    In128 ((bx - ax) * (py - ay)) ∧ In128 ((by' - ay) * (px - ax)) ∧ In128 (-((by' - ay) * (px - ax))) ∧ clipW ((bx - ax) * (py - ay) + -((by' - ay) * (px - ax))) = area ⟨ax, ay⟩ ⟨bx, by'⟩ ⟨px, py⟩ ∧ In128 (area ⟨ax, ay⟩ ⟨bx, by'⟩ ⟨px, py⟩) := by
  unfold Rg at *
  have m1 := mul_bound (a := bx - ax) (b := py - ay) (by omega) (by omega) (by omega) (by omega)
  have m2 := mul_bound (a := by' - ay) (b := px - ax) (by omega) (by omega) (by omega) (by omega)
  have p1 : ∀ {x y : Int}, -562949953421312 ≤ x → x ≤ 562949953421312 → -562949953421312 ≤ y → y ≤ 562949953421312 → -316912650057057350374175801344 ≤ x * y ∧ x * y ≤ 316912650057057350374175801344 := by
    intro x y x0 x1 y0 y1
    have h1 : 0 ≤ (562949953421312 - x) * (562949953421312 + y) := Int.mul_nonneg (by omega) (by omega)
    have h2 : 0 ≤ (562949953421312 + x) * (562949953421312 - y) := Int.mul_nonneg (by omega) (by omega)
    have h3 : 0 ≤ (562949953421312 - x) * (562949953421312 - y) := Int.mul_nonneg (by omega) (by omega)
    have h4 : 0 ≤ (562949953421312 + x) * (562949953421312 + y) := Int.mul_nonneg (by omega) (by omega)
    have e1 : (562949953421312 - x) * (562949953421312 + y) = 316912650057057350374175801344 + 562949953421312 * y - 562949953421312 * x - x * y := by grind
    have e2 : (562949953421312 + x) * (562949953421312 - y) = 316912650057057350374175801344 - 562949953421312 * y + 562949953421312 * x - x * y := by grind
    have e3 : (562949953421312 - x) * (562949953421312 - y) = 316912650057057350374175801344 - 562949953421312 * y - 562949953421312 * x + x * y := by grind
    have e4 : (562949953421312 + x) * (562949953421312 + y) = 316912650057057350374175801344 + 562949953421312 * y + 562949953421312 * x + x * y := by grind
    omega
  have q1 := p1 (x := bx - ax) (y := py - ay) (by omega) (by omega) (by omega) (by omega)
  have q2 := p1 (x := by' - ay) (y := px - ax) (by omega) (by omega) (by omega) (by omega)
  unfold area
  simp only []
  generalize (bx - ax) * (py - ay) = k at *
  generalize (by' - ay) * (px - ax) = m at *
  have i1 : In128 (k + -m) := by unfold In128; omega
  refine ⟨by unfold In128; omega, by unfold In128; omega, by unfold In128; omega, ?_, by unfold In128; omega⟩
  unfold clipW
  rw [if_pos i1]; omega
theorem St.tail {w W : World} {L : List (Nat × List Value)} {x : Nat × List Value} (k : St w W (x :: L)) : St w W L := ⟨fun n l e => k.b n l (List.mem_cons_of_mem _ e), k.l⟩
theorem St.far5 {w W : World} {L : List (Nat × List Value)} (k : St w W L) {r : Nat} (h : w.heap.size ≤ r) (hr : ∀ n l, (n, l) ∈ L → r ≠ n) (u0 u1 u2 u3 u4 : Value) : St w (((((W.setCell ⟨r, 0, none⟩ u0).setCell ⟨r, 1, none⟩ u1).setCell ⟨r, 2, none⟩ u2).setCell ⟨r, 3, none⟩ u3).setCell ⟨r, 4, none⟩ u4) L :=
  ((((k.far h hr 0 u0).far h hr 1 u1).far h hr 2 u2).far h hr 3 u3).far h hr 4 u4
theorem ar_ne {w W : World} {L : List (Nat × List Value)} (k : St w W L) : ∀ n l, (n, l) ∈ L → W.heap.size ≠ n := fun n l e => by have := (k.b n l e).lt; omega
end Go.Proofs.YtjbalpmcnihhpaaDoor
namespace Go.Proofs.YtjbalpmcnihhpaaDoor
open Go.RowKit
set_option linter.unusedVariables false
set_option linter.unusedSimpArgs false

/-- the blocks of Area -/
def ArL (w : World) (n1 : Nat) (ax ay bx by' px py : Int) (b : Bool) (x0 x1 x2 x3 : Int) : List (Nat × List Value) := ((n1, [.bool b, .int .u64 x0, .int .u64 x1, .int .u64 x2, .int .u64 x3]) :: [(w.heap.size, [.int .i64 ax, .int .i64 ay]), (w.heap.size + 1, [.int .i64 bx, .int .i64 by']), (w.heap.size + 1 + 1, [.int .i64 px, .int .i64 py]), (w.heap.size + 1 + 1 + 1, [.bool false, .int .u64 0, .int .u64 0, .int .u64 0, .int .u64 0])])
theorem ar_n {w W : World} {n1 : Nat} {ax ay bx by' px py : Int} {b : Bool} {x0 x1 x2 x3 : Int} (k : St w W (ArL w n1 ax ay bx by' px py b x0 x1 x2 x3)) : BW W n1 [.bool b, .int .u64 x0, .int .u64 x1, .int .u64 x2, .int .u64 x3] := k.b _ _ (List.mem_cons_self ..)
theorem ar_r {w W : World} {n1 : Nat} {ax ay bx by' px py : Int} {b : Bool} {x0 x1 x2 x3 : Int} (k : St w W (ArL w n1 ax ay bx by' px py b x0 x1 x2 x3)) : BW W (w.heap.size + 1 + 1 + 1) [.bool false, .int .u64 0, .int .u64 0, .int .u64 0, .int .u64 0] := k.b _ _ (by unfold ArL; simp)
theorem ar_sv {w W : World} {n1 : Nat} {ax ay bx by' px py : Int} {b : Bool} {x0 x1 x2 x3 : Int} (k : St w W (ArL w n1 ax ay bx by' px py b x0 x1 x2 x3)) : (W.cell? ⟨w.heap.size, 0, none⟩ = some (.int .i64 ax) ∧ W.cell? ⟨w.heap.size, 1, none⟩ = some (.int .i64 ay)) ∧ (W.cell? ⟨w.heap.size + 1, 0, none⟩ = some (.int .i64 bx) ∧ W.cell? ⟨w.heap.size + 1, 1, none⟩ = some (.int .i64 by')) ∧ (W.cell? ⟨w.heap.size + 1 + 1, 0, none⟩ = some (.int .i64 px) ∧ W.cell? ⟨w.heap.size + 1 + 1, 1, none⟩ = some (.int .i64 py)) ∧ (W.cell? ⟨n1, 0, none⟩ = some (.bool b) ∧ W.cell? ⟨n1, 1, none⟩ = some (.int .u64 x0) ∧ W.cell? ⟨n1, 2, none⟩ = some (.int .u64 x1) ∧ W.cell? ⟨n1, 3, none⟩ = some (.int .u64 x2) ∧ W.cell? ⟨n1, 4, none⟩ = some (.int .u64 x3)) :=
  ⟨(k.b _ _ (by unfold ArL; simp)).h2', (k.b _ _ (by unfold ArL; simp)).h2', (k.b _ _ (by unfold ArL; simp)).h2', (ar_n k).h5⟩
/-- the area in a block of its own, and the result's block -/
def ArCut (w : World) (A : Int) (t : Value) (W : World) : Prop := ∃ n4 : Nat, t = .pointer (some ⟨n4, 0, none⟩) ∧ BW W n4 [.bool (decide (A < 0)), .int .u64 (d0 A.natAbs), .int .u64 (d1 A.natAbs), .int .u64 (d2 A.natAbs), .int .u64 (d3 A.natAbs)] ∧ BW W (w.heap.size + 1 + 1 + 1) [.bool false, .int .u64 0, .int .u64 0, .int .u64 0, .int .u64 0] ∧ Below w.heap.size w W
end Go.Proofs.YtjbalpmcnihhpaaDoor
namespace Go.Proofs.YtjbalpmcnihhpaaDoor
open Go.RowKit
set_option linter.unusedVariables false
set_option linter.unusedSimpArgs false

/-- the inner product of the ways from a to b and from a to p -/
def dotP (a b p : Pt) : Int := (b.x - a.x) * (p.x - a.x) + (b.y - a.y) * (p.y - a.y)
theorem mul_49 {x y : Int} (x0 : -562949953421312 ≤ x) (x1 : x ≤ 562949953421312) (y0 : -562949953421312 ≤ y) (y1 : y ≤ 562949953421312) : -316912650057057350374175801344 ≤ x * y ∧ x * y ≤ 316912650057057350374175801344 := by
  have h1 : 0 ≤ (562949953421312 - x) * (562949953421312 + y) := Int.mul_nonneg (by omega) (by omega)
  have h2 : 0 ≤ (562949953421312 + x) * (562949953421312 - y) := Int.mul_nonneg (by omega) (by omega)
  have h3 : 0 ≤ (562949953421312 - x) * (562949953421312 - y) := Int.mul_nonneg (by omega) (by omega)
  have h4 : 0 ≤ (562949953421312 + x) * (562949953421312 + y) := Int.mul_nonneg (by omega) (by omega)
  have e1 : (562949953421312 - x) * (562949953421312 + y) = 316912650057057350374175801344 + 562949953421312 * y - 562949953421312 * x - x * y := by grind
  have e2 : (562949953421312 + x) * (562949953421312 - y) = 316912650057057350374175801344 - 562949953421312 * y + 562949953421312 * x - x * y := by grind
  have e3 : (562949953421312 - x) * (562949953421312 - y) = 316912650057057350374175801344 - 562949953421312 * y - 562949953421312 * x + x * y := by grind
  have e4 : (562949953421312 + x) * (562949953421312 + y) = 316912650057057350374175801344 + 562949953421312 * y + 562949953421312 * x + x * y := by grind
  omega
theorem dotP_fit {ax ay bx by' px py : Int} (h1 : Rg ax) (h2 : Rg ay) (h3 : Rg bx) (h4 : Rg by') (h5 : Rg px) (h6 : Rg py) :
    In128 ((bx - ax) * (px - ax)) ∧ In128 ((by' - ay) * (py - ay)) ∧ clipW ((bx - ax) * (px - ax) + (by' - ay) * (py - ay)) = dotP ⟨ax, ay⟩ ⟨bx, by'⟩ ⟨px, py⟩ ∧ In128 (dotP ⟨ax, ay⟩ ⟨bx, by'⟩ ⟨px, py⟩) := by
  unfold Rg at *
  have q1 := mul_49 (x := bx - ax) (y := px - ax) (by omega) (by omega) (by omega) (by omega)
  have q2 := mul_49 (x := by' - ay) (y := py - ay) (by omega) (by omega) (by omega) (by omega)
  unfold dotP
  simp only []
  generalize (bx - ax) * (px - ax) = k at *
  generalize (by' - ay) * (py - ay) = m at *
  have i1 : In128 (k + m) := by unfold In128; omega
  refine ⟨by unfold In128; omega, by unfold In128; omega, ?_, by unfold In128; omega⟩
  unfold clipW
  rw [if_pos i1]
/-- the blocks of dot -/
def DtL (w : World) (ax ay bx by' px py : Int) : List (Nat × List Value) := [(w.heap.size, [.int .i64 ax, .int .i64 ay]), (w.heap.size + 1, [.int .i64 bx, .int .i64 by']), (w.heap.size + 1 + 1, [.int .i64 px, .int .i64 py]), (w.heap.size + 1 + 1 + 1, [.bool false, .int .u64 0, .int .u64 0, .int .u64 0, .int .u64 0])]
theorem dt_r {w W : World} {ax ay bx by' px py : Int} (k : St w W (DtL w ax ay bx by' px py)) : BW W (w.heap.size + 1 + 1 + 1) [.bool false, .int .u64 0, .int .u64 0, .int .u64 0, .int .u64 0] := k.b _ _ (by unfold DtL; simp)
theorem dt_sv {w W : World} {ax ay bx by' px py : Int} (k : St w W (DtL w ax ay bx by' px py)) : (W.cell? ⟨w.heap.size, 0, none⟩ = some (.int .i64 ax) ∧ W.cell? ⟨w.heap.size, 1, none⟩ = some (.int .i64 ay)) ∧ (W.cell? ⟨w.heap.size + 1, 0, none⟩ = some (.int .i64 bx) ∧ W.cell? ⟨w.heap.size + 1, 1, none⟩ = some (.int .i64 by')) ∧ (W.cell? ⟨w.heap.size + 1 + 1, 0, none⟩ = some (.int .i64 px) ∧ W.cell? ⟨w.heap.size + 1 + 1, 1, none⟩ = some (.int .i64 py)) :=
  ⟨(k.b _ _ (by unfold DtL; simp)).h2', (k.b _ _ (by unfold DtL; simp)).h2', (k.b _ _ (by unfold DtL; simp)).h2'⟩
end Go.Proofs.YtjbalpmcnihhpaaDoor
namespace Go.Proofs.YtjbalpmcnihhpaaDoor
open Go.RowKit
set_option linter.unusedVariables false
set_option linter.unusedSimpArgs false

theorem cmp_sgn (n : Int) : cmpI n 0 = sgnA n := by
  unfold cmpI sgnA
  split <;> (try split) <;> (try split) <;> omega
end Go.Proofs.YtjbalpmcnihhpaaDoor
namespace Go.Proofs.YtjbalpmcnihhpaaDoor
open Go.RowKit
set_option linter.unusedVariables false
set_option linter.unusedSimpArgs false

/-- where on its way a move crosses -/
noncomputable def crossN (a b p q : Pt) : Int := if crossP a b p q = true then partI (-(area a b p)) (area a b q - area a b p) else 0
theorem sgnA_pos {n : Int} : 0 < sgnA n ↔ 0 < n := by unfold sgnA; split <;> (try split) <;> omega
theorem sgnA_lt {n : Int} : sgnA n < 0 ↔ n < 0 := by unfold sgnA; split <;> (try split) <;> omega
theorem sgnA_in (n : Int) : -1 ≤ sgnA n ∧ sgnA n ≤ 1 := by unfold sgnA; split <;> (try split) <;> omega
/-- a move near the middle crosses by four signs -/
theorem cross_near {a b p q : Pt} (h : a.near ∧ b.near ∧ p.near ∧ q.near) : crossP a b p q = decide (¬ 0 < sgnA (area a b p) ∧ 0 < sgnA (area a b q) ∧ ¬ sideP p q a < 0 ∧ sideP p q b < 0) := by
  unfold crossP sideP
  rw [decide_eq_decide, if_pos ⟨h.2.2.1, h.2.2.2, h.1⟩, if_pos ⟨h.2.2.1, h.2.2.2, h.2.1⟩, sgnA_pos, sgnA_pos, sgnA_lt, sgnA_lt]
  constructor
  · rintro ⟨_, c, d, e, f⟩; exact ⟨by omega, d, by omega, f⟩
  · rintro ⟨c, d, e, f⟩; exact ⟨h, by omega, d, by omega, f⟩
/-- the number of all the move's parts fits -/
theorem all_fit {s t : Int} (h1 : -633825300114114700748351602688 ≤ s) (h2 : s ≤ 633825300114114700748351602688) (h3 : -633825300114114700748351602688 ≤ t) (h4 : t ≤ 633825300114114700748351602688) :
    In128 s ∧ In128 (-s) ∧ In128 t ∧ clipW (t + -s) = t - s ∧ In128 (t - s) := by
  have i1 : In128 (t + -s) := by unfold In128; omega
  refine ⟨by unfold In128; omega, by unfold In128; omega, by unfold In128; omega, ?_, by unfold In128; omega⟩
  unfold clipW; rw [if_pos i1]; omega
theorem area_99 {a b p : Pt} (ha : a.near) (hb : b.near) (hp : p.near) : -633825300114114700748351602688 ≤ area a b p ∧ area a b p ≤ 633825300114114700748351602688 := by
  unfold Pt.near Rg at *
  have h : ∀ {x y : Int}, -562949953421312 ≤ x → x ≤ 562949953421312 → -562949953421312 ≤ y → y ≤ 562949953421312 → -316912650057057350374175801344 ≤ x * y ∧ x * y ≤ 316912650057057350374175801344 := by
    intro x y x0 x1 y0 y1
    have h1 : 0 ≤ (562949953421312 - x) * (562949953421312 + y) := Int.mul_nonneg (by omega) (by omega)
    have h2 : 0 ≤ (562949953421312 + x) * (562949953421312 - y) := Int.mul_nonneg (by omega) (by omega)
    have h3 : 0 ≤ (562949953421312 - x) * (562949953421312 - y) := Int.mul_nonneg (by omega) (by omega)
    have h4 : 0 ≤ (562949953421312 + x) * (562949953421312 + y) := Int.mul_nonneg (by omega) (by omega)
    have e1 : (562949953421312 - x) * (562949953421312 + y) = 316912650057057350374175801344 + 562949953421312 * y - 562949953421312 * x - x * y := by grind
    have e2 : (562949953421312 + x) * (562949953421312 - y) = 316912650057057350374175801344 - 562949953421312 * y + 562949953421312 * x - x * y := by grind
    have e3 : (562949953421312 - x) * (562949953421312 - y) = 316912650057057350374175801344 - 562949953421312 * y - 562949953421312 * x + x * y := by grind
    have e4 : (562949953421312 + x) * (562949953421312 + y) = 316912650057057350374175801344 + 562949953421312 * y + 562949953421312 * x + x * y := by grind
    omega
  have q1 := h (x := b.x - a.x) (y := p.y - a.y) (by omega) (by omega) (by omega) (by omega)
  have q2 := h (x := b.y - a.y) (y := p.x - a.x) (by omega) (by omega) (by omega) (by omega)
  unfold area
  omega
theorem cross_no {a b p q : Pt} (h : crossP a b p q = false) : crossN a b p q = 0 := by unfold crossN; rw [if_neg (by rw [h]; simp)]
theorem cross_yes {a b p q : Pt} (h : crossP a b p q = true) : crossN a b p q = partI (-(area a b p)) (area a b q - area a b p) := by unfold crossN; rw [if_pos h]
/-- all that is to come, in a block of its own, beside the first area -/
def CrCut (w : World) (n1 : Nat) (s A : Int) (t : Value) (W : World) : Prop := ∃ n3 : Nat, t = .pointer (some ⟨n3, 0, none⟩) ∧ St w W [(n3, [.bool (decide (A < 0)), .int .u64 (d0 (A).natAbs), .int .u64 (d1 (A).natAbs), .int .u64 (d2 (A).natAbs), .int .u64 (d3 (A).natAbs)]), (n1, [.bool (decide (s < 0)), .int .u64 (d0 (s).natAbs), .int .u64 (d1 (s).natAbs), .int .u64 (d2 (s).natAbs), .int .u64 (d3 (s).natAbs)])]
/-- the blocks of Crosses -/
def CrL (w : World) (ax ay bx by' px py qx qy : Int) : List (Nat × List Value) := [(w.heap.size, [.int .i64 ax, .int .i64 ay]), (w.heap.size + 1, [.int .i64 bx, .int .i64 by']), (w.heap.size + 1 + 1, [.int .i64 px, .int .i64 py]), (w.heap.size + 1 + 1 + 1, [.int .i64 qx, .int .i64 qy])]
theorem cr_sv {w W : World} {ax ay bx by' px py qx qy : Int} (k : St w W (CrL w ax ay bx by' px py qx qy)) : (W.cell? ⟨w.heap.size, 0, none⟩ = some (.int .i64 ax) ∧ W.cell? ⟨w.heap.size, 1, none⟩ = some (.int .i64 ay)) ∧ (W.cell? ⟨w.heap.size + 1, 0, none⟩ = some (.int .i64 bx) ∧ W.cell? ⟨w.heap.size + 1, 1, none⟩ = some (.int .i64 by')) ∧ (W.cell? ⟨w.heap.size + 1 + 1, 0, none⟩ = some (.int .i64 px) ∧ W.cell? ⟨w.heap.size + 1 + 1, 1, none⟩ = some (.int .i64 py)) ∧ (W.cell? ⟨w.heap.size + 1 + 1 + 1, 0, none⟩ = some (.int .i64 qx) ∧ W.cell? ⟨w.heap.size + 1 + 1 + 1, 1, none⟩ = some (.int .i64 qy)) :=
  ⟨(k.b _ _ (by unfold CrL; simp)).h2', (k.b _ _ (by unfold CrL; simp)).h2', (k.b _ _ (by unfold CrL; simp)).h2', (k.b _ _ (by unfold CrL; simp)).h2'⟩
theorem cr_z {w W : World} {ax ay bx by' px py qx qy : Int} (k : St w W (CrL w ax ay bx by' px py qx qy)) : w.heap.size + 1 + 1 + 1 < W.heap.size := (k.b (w.heap.size + 1 + 1 + 1) [.int .i64 qx, .int .i64 qy] (by unfold CrL; simp)).lt
theorem cr_new {w : World} {ax ay bx by' px py qx qy : Int} {W : World} (h0 : BW W w.heap.size [.int .i64 ax, .int .i64 ay]) (h1 : BW W (w.heap.size + 1) [.int .i64 bx, .int .i64 by']) (h2 : BW W (w.heap.size + 1 + 1) [.int .i64 px, .int .i64 py]) (h3 : BW W (w.heap.size + 1 + 1 + 1) [.int .i64 qx, .int .i64 qy]) (h : Below w.heap.size w W) : St w W (CrL w ax ay bx by' px py qx qy) :=
  St.cons h0 (St.cons h1 (St.cons h2 (St.cons h3 (St.nil h))))
end Go.Proofs.YtjbalpmcnihhpaaDoor
namespace Go.Proofs.YtjbalpmcnihhpaaDoor
open Go.RowKit
set_option linter.unusedVariables false
set_option linter.unusedSimpArgs false

theorem sgnA_zero {n : Int} : sgnA n = 0 ↔ n = 0 := by unfold sgnA; split <;> (try split) <;> omega
theorem sgnA_mul {x y : Int} : sgnA x * sgnA y < 0 ↔ x * y < 0 := by
  rcases Int.lt_trichotomy x 0 with hx | hx | hx <;> rcases Int.lt_trichotomy y 0 with hy | hy | hy
  · have := Int.mul_pos_of_neg_of_neg hx hy
    unfold sgnA; rw [if_pos hx, if_pos hy]; omega
  · subst hy; simp [sgnA]
  · have := Int.mul_neg_of_neg_of_pos hx hy
    unfold sgnA; rw [if_pos hx, if_neg (by omega), if_pos hy]; omega
  · subst hx; simp [sgnA]
  · subst hx; simp [sgnA]
  · subst hx; simp [sgnA]
  · have := Int.mul_neg_of_pos_of_neg hx hy
    unfold sgnA; rw [if_neg (by omega), if_pos hx, if_pos hy]; omega
  · subst hy; simp [sgnA]
  · have := Int.mul_pos hx hy
    unfold sgnA; rw [if_neg (by omega), if_pos hx, if_neg (by omega), if_pos hy]; omega
/-- stretches near the middle meet by four sides, and by what lies on them -/
theorem meets_near {a b p q : Pt} (h : a.near ∧ b.near ∧ p.near ∧ q.near) : meetsP a b p q = ((decide (sideP a b p * sideP a b q < 0) && decide (sideP p q a * sideP p q b < 0)) ||
    ((((decide (sideP a b p = 0) && onB a b p) || (decide (sideP a b q = 0) && onB a b q)) || (decide (sideP p q a = 0) && onB p q a)) || (decide (sideP p q b = 0) && onB p q b))) := by
  unfold meetsP sideP
  rw [if_pos ⟨h.1, h.2.1, h.2.2.1⟩, if_pos ⟨h.1, h.2.1, h.2.2.2⟩, if_pos ⟨h.2.2.1, h.2.2.2, h.1⟩, if_pos ⟨h.2.2.1, h.2.2.2, h.2.1⟩, decide_eq_true h, Bool.true_and]
  simp only [sgnA_mul, sgnA_zero]
theorem side_in (a b p : Pt) : -1 ≤ sideP a b p ∧ sideP a b p ≤ 1 := by
  unfold sideP; split
  · exact sgnA_in _
  · omega
theorem mul_1 {x y : Int} (hx : -1 ≤ x ∧ x ≤ 1) (hy : -1 ≤ y ∧ y ≤ 1) : -1 ≤ x * y ∧ x * y ≤ 1 := by
  obtain rfl | rfl | rfl : x = -1 ∨ x = 0 ∨ x = 1 := by omega
  all_goals omega
end Go.Proofs.YtjbalpmcnihhpaaDoor
namespace Go.Proofs.YtjbalpmcnihhpaaDoor
open Go.RowKit
set_option linter.unusedVariables false
set_option linter.unusedSimpArgs false

def sqP (a b : Pt) : Int := (b.x - a.x) * (b.x - a.x) + (b.y - a.y) * (b.y - a.y)
/-- how far a place is behind a stretch -/
noncomputable def beyondN (a b p : Pt) : Int := if (a.near ∧ b.near ∧ p.near) ∧ area a b p < 0 ∧ 0 ≤ dotP a b p ∧ 0 ≤ dotP b a p then -(area a b p / rootI (sqP a b)) else 0
theorem sq_nn' (x : Int) : 0 ≤ x * x := by
  rcases Int.le_total 0 x with h | h
  · exact Int.mul_nonneg h h
  · have := Int.mul_nonneg (show 0 ≤ -x by omega) (show 0 ≤ -x by omega)
    have e : -x * -x = x * x := by grind
    omega
/-- an area is no more than 2^51 times the length, rounded down -/
theorem area_top {a b p : Pt} (ha : a.near) (hb : b.near) (hp : p.near) (h : area a b p < 0) : 1 ≤ rootI (sqP a b) ∧ rootI (sqP a b) ≤ 1125899906842624 ∧ -(area a b p) ≤ rootI (sqP a b) * 2251799813685248 ∧ In128 (sqP a b) := by
  unfold Pt.near Rg at *
  have q1 := mul_49 (x := b.x - a.x) (y := b.x - a.x) (by omega) (by omega) (by omega) (by omega)
  have q2 := mul_49 (x := b.y - a.y) (y := b.y - a.y) (by omega) (by omega) (by omega) (by omega)
  have q3 := mul_49 (x := p.x - a.x) (y := p.x - a.x) (by omega) (by omega) (by omega) (by omega)
  have q4 := mul_49 (x := p.y - a.y) (y := p.y - a.y) (by omega) (by omega) (by omega) (by omega)
  have n1 := sq_nn' (b.x - a.x)
  have n2 := sq_nn' (b.y - a.y)
  have n3 := sq_nn' (p.x - a.x)
  have n4 := sq_nn' (p.y - a.y)
  have n5 := sq_nn' (dotP a b p)
  have E : area a b p * area a b p + dotP a b p * dotP a b p = sqP a b * ((p.x - a.x) * (p.x - a.x) + (p.y - a.y) * (p.y - a.y)) := by unfold area dotP sqP; grind
  have S0 : 0 ≤ sqP a b ∧ sqP a b ≤ 633825300114114700748351602688 := by unfold sqP; omega
  have S1 : sqP a b ≠ 0 := by
    intro e
    rw [e, Int.zero_mul] at E
    have := sq_nn' (area a b p)
    have z : area a b p * area a b p = 0 := by omega
    have := Int.mul_pos_of_neg_of_neg h h
    omega
  have R := rootI_is S0.1
  generalize rootI (sqP a b) = L at *
  obtain ⟨L0, lo, hi⟩ := R
  have L1 : 1 ≤ L := by
    apply Classical.byContradiction; intro c
    have : L = 0 := by omega
    subst this
    omega
  have L2 : L ≤ 1125899906842624 := by
    apply Classical.byContradiction; intro c
    have := Int.mul_le_mul (show 1125899906842624 ≤ L by omega) (show 1125899906842624 ≤ L by omega) (by omega) (by omega)
    omega
  refine ⟨L1, L2, ?_, by unfold In128; omega⟩
  apply Classical.byContradiction; intro c
  obtain ⟨A, hA⟩ : ∃ A, -(area a b p) = A := ⟨_, rfl⟩
  rw [hA] at c
  have EA : area a b p * area a b p = A * A := by rw [← hA]; grind
  rw [EA] at E
  have T1 : (p.x - a.x) * (p.x - a.x) + (p.y - a.y) * (p.y - a.y) ≤ 633825300114114700748351602688 := by omega
  have T2 := Int.mul_le_mul_of_nonneg_left T1 S0.1
  have H := Int.mul_le_mul (show L + 1 ≤ 2 * L by omega) (show L + 1 ≤ 2 * L by omega) (by omega) (by omega)
  have H2 : 2 * L * (2 * L) = 4 * (L * L) := by grind
  have K := Int.mul_le_mul (show L * 2251799813685248 ≤ A by omega) (show L * 2251799813685248 ≤ A by omega) (by omega) (by omega)
  have K2 : L * 2251799813685248 * (L * 2251799813685248) = 5070602400912917605986812821504 * (L * L) := by grind
  have M := Int.mul_le_mul L1 L1 (by omega) (by omega)
  generalize L * L = q at *
  generalize A * A = AA at *
  omega
/-- t bits are open: the number lies behind n, and is at most n + 2^t -/
structure OpenB (A L n : Int) (t : Nat) : Prop where
  lo : n * L < A
  hi : A ≤ (n + 2 ^ t) * L
  n0 : 0 ≤ n
  top : n + 2 ^ t ≤ 9223372036854775808
theorem OpenB.up {A L n : Int} {u : Nat} (k : OpenB A L n (u + 1)) (h : (n + 2 ^ u) * L < A) : OpenB A L (n + 2 ^ u) u := by
  obtain ⟨lo, hi, n0, top⟩ := k
  rw [Int.pow_succ] at hi top
  have : (0 : Int) < 2 ^ u := Int.pow_pos (by omega)
  exact ⟨h, by rw [show n + 2 ^ u + 2 ^ u = n + 2 ^ u * 2 by omega]; exact hi, by omega, by omega⟩
theorem OpenB.down {A L n : Int} {u : Nat} (k : OpenB A L n (u + 1)) (h : ¬ (n + 2 ^ u) * L < A) : OpenB A L n u := by
  obtain ⟨lo, hi, n0, top⟩ := k
  rw [Int.pow_succ] at hi top
  have : (0 : Int) < 2 ^ u := Int.pow_pos (by omega)
  exact ⟨lo, by omega, n0, by omega⟩
theorem OpenB.fits {A L n : Int} {u : Nat} (k : OpenB A L n (u + 1)) : ∃ p : Int, IntKind.i64.wrap (2 ^ u) = p ∧ 1 ≤ p ∧ n + p ≤ 9223372036854775807 ∧ Hid (p = 2 ^ u) := by
  obtain ⟨lo, hi, n0, top⟩ := k
  rw [Int.pow_succ] at hi top
  have : (0 : Int) < 2 ^ u := Int.pow_pos (by omega)
  exact ⟨2 ^ u, IntWalk.i64_in _ (by omega), by omega, by omega, rfl⟩
theorem OpenB.done {A L n : Int} (k : OpenB A L n 0) (hL : 1 ≤ L) (hA : A ≤ L * 2251799813685248) : n + 1 = -(-A / L) ∧ n < 2251799813685248 := by
  obtain ⟨lo, hi, n0, top⟩ := k
  simp only [Int.pow_zero] at hi
  have e1 : -(n + 1) * L = -((n + 1) * L) := by grind
  have e2 : -n * L = -(n * L) := by grind
  have h1 : -(n + 1) ≤ -A / L := Int.le_ediv_of_mul_le (by omega) (by omega)
  have h2 : -A / L < -n := Int.ediv_lt_of_lt_mul (by omega) (by omega)
  refine ⟨by omega, ?_⟩
  apply Classical.byContradiction; intro c
  have := Int.mul_le_mul_of_nonneg_right (show 2251799813685248 ≤ n by omega) (show 0 ≤ L by omega)
  omega
theorem OpenB.calls {A L n : Int} {u : Nat} (k : OpenB A L n (u + 1)) (h1 : 1 ≤ L) (h2 : L ≤ 1125899906842624) :
    ∃ q : Int, IntKind.i64.wrap (2 ^ u) = q ∧ wrap64 (2 ^ u) = q ∧ IntKind.i64.wrap (n + q) = n + q ∧ wrap64 (n + q) = n + q ∧ (-9223372036854775808 ≤ n + q ∧ n + q ≤ 9223372036854775807) ∧ In128 ((n + q) * L) ∧ ((n + q) * L < A → OpenB A L (n + q) u) ∧ (¬ (n + q) * L < A → OpenB A L n u) := by
  obtain ⟨q, hq, q1, q2, HQ⟩ := k.fits
  have n0 := k.n0
  have hw : wrap64 (2 ^ u) = q := by
    have e := HQ.out
    rw [← e]; clear hq e HQ k; unfold wrap64; omega
  refine ⟨q, hq, hw, IntWalk.i64_in _ (by clear hq hw; omega), by clear hq hw; unfold wrap64; omega, ⟨by clear hq hw; omega, q2⟩, ?_, fun g => ?_, fun g => ?_⟩
  · exact mul_128 (by clear hq hw; omega) q2 (by omega) (by omega)
  · have := k.up (by rw [← HQ.out]; exact g)
    rw [← HQ.out] at this; exact this
  · exact k.down (by rw [← HQ.out]; exact g)
theorem cmpI_neg_iff {a b : Int} : (cmpI a b < 0) ↔ a < b := by unfold cmpI; split <;> (try split) <;> omega
/-- the blocks of Beyond -/
def BdL (w : World) (ax ay bx by' px py : Int) : List (Nat × List Value) := [(w.heap.size, [.int .i64 ax, .int .i64 ay]), (w.heap.size + 1, [.int .i64 bx, .int .i64 by']), (w.heap.size + 1 + 1, [.int .i64 px, .int .i64 py])]
theorem bd_sv {w W : World} {ax ay bx by' px py : Int} (k : St w W (BdL w ax ay bx by' px py)) : (W.cell? ⟨w.heap.size, 0, none⟩ = some (.int .i64 ax) ∧ W.cell? ⟨w.heap.size, 1, none⟩ = some (.int .i64 ay)) ∧ (W.cell? ⟨w.heap.size + 1, 0, none⟩ = some (.int .i64 bx) ∧ W.cell? ⟨w.heap.size + 1, 1, none⟩ = some (.int .i64 by')) ∧ (W.cell? ⟨w.heap.size + 1 + 1, 0, none⟩ = some (.int .i64 px) ∧ W.cell? ⟨w.heap.size + 1 + 1, 1, none⟩ = some (.int .i64 py)) :=
  ⟨(k.b _ _ (by unfold BdL; simp)).h2', (k.b _ _ (by unfold BdL; simp)).h2', (k.b _ _ (by unfold BdL; simp)).h2'⟩
theorem bd_z {w W : World} {ax ay bx by' px py : Int} (k : St w W (BdL w ax ay bx by' px py)) : w.heap.size + 1 + 1 < W.heap.size := (k.b (w.heap.size + 1 + 1) [.int .i64 px, .int .i64 py] (by unfold BdL; simp)).lt
theorem bd_new {w : World} {ax ay bx by' px py : Int} {W : World} (h0 : BW W w.heap.size [.int .i64 ax, .int .i64 ay]) (h1 : BW W (w.heap.size + 1) [.int .i64 bx, .int .i64 by']) (h2 : BW W (w.heap.size + 1 + 1) [.int .i64 px, .int .i64 py]) (h : Below w.heap.size w W) : St w W (BdL w ax ay bx by' px py) :=
  St.cons h0 (St.cons h1 (St.cons h2 (St.nil h)))
end Go.Proofs.YtjbalpmcnihhpaaDoor
