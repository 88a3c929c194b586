/- The contract of the document's Beyond. -/
import Derived.Test.YtmfmdipejlnmfaaNh
import Derived.Test.YtmfmdipejlnmfaaNg
import Derived.Test.YtmfmdipejlnmfaaBg
namespace Go.Proofs.Ytmfmdipejlnmfaa
open Go.RowKit
set_option linter.unusedVariables false
set_option linter.unusedSimpArgs false

def sqP (a b : Pt) : Int := (b.x - a.x) * (b.x - a.x) + (b.y - a.y) * (b.y - a.y)
/-- how far a place is behind a stretch -/
noncomputable def beyondN (a b p : Pt) : Int := if (a.near ∧ b.near ∧ p.near) ∧ area a b p < 0 ∧ 0 ≤ dotP a b p ∧ 0 ≤ dotP b a p then -(area a b p / rootI (sqP a b)) else 0
theorem sq_nn' (x : Int) : 0 ≤ x * x := by
  rcases Int.le_total 0 x with h | h
  · exact Int.mul_nonneg h h
  · have := Int.mul_nonneg (show 0 ≤ -x by omega) (show 0 ≤ -x by omega)
    have e : -x * -x = x * x := by grind
    omega
/-- an area is no more than 2^51 times the length, rounded down -/
theorem area_top {a b p : Pt} (ha : a.near) (hb : b.near) (hp : p.near) (h : area a b p < 0) : 1 ≤ rootI (sqP a b) ∧ rootI (sqP a b) ≤ 1125899906842624 ∧ -(area a b p) ≤ rootI (sqP a b) * 2251799813685248 ∧ In128 (sqP a b) := by
  unfold Pt.near Rg at *
  have q1 := mul_49 (x := b.x - a.x) (y := b.x - a.x) (by omega) (by omega) (by omega) (by omega)
  have q2 := mul_49 (x := b.y - a.y) (y := b.y - a.y) (by omega) (by omega) (by omega) (by omega)
  have q3 := mul_49 (x := p.x - a.x) (y := p.x - a.x) (by omega) (by omega) (by omega) (by omega)
  have q4 := mul_49 (x := p.y - a.y) (y := p.y - a.y) (by omega) (by omega) (by omega) (by omega)
  have n1 := sq_nn' (b.x - a.x)
  have n2 := sq_nn' (b.y - a.y)
  have n3 := sq_nn' (p.x - a.x)
  have n4 := sq_nn' (p.y - a.y)
  have n5 := sq_nn' (dotP a b p)
  have E : area a b p * area a b p + dotP a b p * dotP a b p = sqP a b * ((p.x - a.x) * (p.x - a.x) + (p.y - a.y) * (p.y - a.y)) := by unfold area dotP sqP; grind
  have S0 : 0 ≤ sqP a b ∧ sqP a b ≤ 633825300114114700748351602688 := by unfold sqP; omega
  have S1 : sqP a b ≠ 0 := by
    intro e
    rw [e, Int.zero_mul] at E
    have := sq_nn' (area a b p)
    have z : area a b p * area a b p = 0 := by omega
    have := Int.mul_pos_of_neg_of_neg h h
    omega
  have R := rootI_is S0.1
  generalize rootI (sqP a b) = L at *
  obtain ⟨L0, lo, hi⟩ := R
  have L1 : 1 ≤ L := by
    apply Classical.byContradiction; intro c
    have : L = 0 := by omega
    subst this
    omega
  have L2 : L ≤ 1125899906842624 := by
    apply Classical.byContradiction; intro c
    have := Int.mul_le_mul (show 1125899906842624 ≤ L by omega) (show 1125899906842624 ≤ L by omega) (by omega) (by omega)
    omega
  refine ⟨L1, L2, ?_, by unfold In128; omega⟩
  apply Classical.byContradiction; intro c
  obtain ⟨A, hA⟩ : ∃ A, -(area a b p) = A := ⟨_, rfl⟩
  rw [hA] at c
  have EA : area a b p * area a b p = A * A := by rw [← hA]; grind
  rw [EA] at E
  have T1 : (p.x - a.x) * (p.x - a.x) + (p.y - a.y) * (p.y - a.y) ≤ 633825300114114700748351602688 := by omega
  have T2 := Int.mul_le_mul_of_nonneg_left T1 S0.1
  have H := Int.mul_le_mul (show L + 1 ≤ 2 * L by omega) (show L + 1 ≤ 2 * L by omega) (by omega) (by omega)
  have H2 : 2 * L * (2 * L) = 4 * (L * L) := by grind
  have K := Int.mul_le_mul (show L * 2251799813685248 ≤ A by omega) (show L * 2251799813685248 ≤ A by omega) (by omega) (by omega)
  have K2 : L * 2251799813685248 * (L * 2251799813685248) = 5070602400912917605986812821504 * (L * L) := by grind
  have M := Int.mul_le_mul L1 L1 (by omega) (by omega)
  generalize L * L = q at *
  generalize A * A = AA at *
  omega
/-- t bits are open: the number lies behind n, and is at most n + 2^t -/
structure OpenB (A L n : Int) (t : Nat) : Prop where
  lo : n * L < A
  hi : A ≤ (n + 2 ^ t) * L
  n0 : 0 ≤ n
  top : n + 2 ^ t ≤ 9223372036854775808
theorem OpenB.up {A L n : Int} {u : Nat} (k : OpenB A L n (u + 1)) (h : (n + 2 ^ u) * L < A) : OpenB A L (n + 2 ^ u) u := by
  obtain ⟨lo, hi, n0, top⟩ := k
  rw [Int.pow_succ] at hi top
  have : (0 : Int) < 2 ^ u := Int.pow_pos (by omega)
  exact ⟨h, by rw [show n + 2 ^ u + 2 ^ u = n + 2 ^ u * 2 by omega]; exact hi, by omega, by omega⟩
theorem OpenB.down {A L n : Int} {u : Nat} (k : OpenB A L n (u + 1)) (h : ¬ (n + 2 ^ u) * L < A) : OpenB A L n u := by
  obtain ⟨lo, hi, n0, top⟩ := k
  rw [Int.pow_succ] at hi top
  have : (0 : Int) < 2 ^ u := Int.pow_pos (by omega)
  exact ⟨lo, by omega, n0, by omega⟩
theorem OpenB.fits {A L n : Int} {u : Nat} (k : OpenB A L n (u + 1)) : ∃ p : Int, IntKind.i64.wrap (2 ^ u) = p ∧ 1 ≤ p ∧ n + p ≤ 9223372036854775807 ∧ Hid (p = 2 ^ u) := by
  obtain ⟨lo, hi, n0, top⟩ := k
  rw [Int.pow_succ] at hi top
  have : (0 : Int) < 2 ^ u := Int.pow_pos (by omega)
  exact ⟨2 ^ u, IntWalk.i64_in _ (by omega), by omega, by omega, rfl⟩
theorem OpenB.done {A L n : Int} (k : OpenB A L n 0) (hL : 1 ≤ L) (hA : A ≤ L * 2251799813685248) : n + 1 = -(-A / L) ∧ n < 2251799813685248 := by
  obtain ⟨lo, hi, n0, top⟩ := k
  simp only [Int.pow_zero] at hi
  have e1 : -(n + 1) * L = -((n + 1) * L) := by grind
  have e2 : -n * L = -(n * L) := by grind
  have h1 : -(n + 1) ≤ -A / L := Int.le_ediv_of_mul_le (by omega) (by omega)
  have h2 : -A / L < -n := Int.ediv_lt_of_lt_mul (by omega) (by omega)
  refine ⟨by omega, ?_⟩
  apply Classical.byContradiction; intro c
  have := Int.mul_le_mul_of_nonneg_right (show 2251799813685248 ≤ n by omega) (show 0 ≤ L by omega)
  omega
theorem OpenB.calls {A L n : Int} {u : Nat} (k : OpenB A L n (u + 1)) (h1 : 1 ≤ L) (h2 : L ≤ 1125899906842624) :
    ∃ q : Int, IntKind.i64.wrap (2 ^ u) = q ∧ wrap64 (2 ^ u) = q ∧ IntKind.i64.wrap (n + q) = n + q ∧ wrap64 (n + q) = n + q ∧ (-9223372036854775808 ≤ n + q ∧ n + q ≤ 9223372036854775807) ∧ In128 ((n + q) * L) ∧ ((n + q) * L < A → OpenB A L (n + q) u) ∧ (¬ (n + q) * L < A → OpenB A L n u) := by
  obtain ⟨q, hq, q1, q2, HQ⟩ := k.fits
  have n0 := k.n0
  have hw : wrap64 (2 ^ u) = q := by
    have e := HQ.out
    rw [← e]; clear hq e HQ k; unfold wrap64; omega
  refine ⟨q, hq, hw, IntWalk.i64_in _ (by clear hq hw; omega), by clear hq hw; unfold wrap64; omega, ⟨by clear hq hw; omega, q2⟩, ?_, fun g => ?_, fun g => ?_⟩
  · exact mul_128 (by clear hq hw; omega) q2 (by omega) (by omega)
  · have := k.up (by rw [← HQ.out]; exact g)
    rw [← HQ.out] at this; exact this
  · exact k.down (by rw [← HQ.out]; exact g)
theorem cmpI_neg_iff {a b : Int} : (cmpI a b < 0) ↔ a < b := by unfold cmpI; split <;> (try split) <;> omega
/-- the blocks of Beyond -/
def BdL (w : World) (ax ay bx by' px py : Int) : List (Nat × List Value) := [(w.heap.size, [.int .i64 ax, .int .i64 ay]), (w.heap.size + 1, [.int .i64 bx, .int .i64 by']), (w.heap.size + 1 + 1, [.int .i64 px, .int .i64 py])]
theorem bd_sv {w W : World} {ax ay bx by' px py : Int} (k : St w W (BdL w ax ay bx by' px py)) : (W.cell? ⟨w.heap.size, 0, none⟩ = some (.int .i64 ax) ∧ W.cell? ⟨w.heap.size, 1, none⟩ = some (.int .i64 ay)) ∧ (W.cell? ⟨w.heap.size + 1, 0, none⟩ = some (.int .i64 bx) ∧ W.cell? ⟨w.heap.size + 1, 1, none⟩ = some (.int .i64 by')) ∧ (W.cell? ⟨w.heap.size + 1 + 1, 0, none⟩ = some (.int .i64 px) ∧ W.cell? ⟨w.heap.size + 1 + 1, 1, none⟩ = some (.int .i64 py)) :=
  ⟨(k.b _ _ (by unfold BdL; simp)).h2', (k.b _ _ (by unfold BdL; simp)).h2', (k.b _ _ (by unfold BdL; simp)).h2'⟩
theorem bd_z {w W : World} {ax ay bx by' px py : Int} (k : St w W (BdL w ax ay bx by' px py)) : w.heap.size + 1 + 1 < W.heap.size := (k.b (w.heap.size + 1 + 1) [.int .i64 px, .int .i64 py] (by unfold BdL; simp)).lt
theorem bd_new {w : World} {ax ay bx by' px py : Int} {W : World} (h0 : BW W w.heap.size [.int .i64 ax, .int .i64 ay]) (h1 : BW W (w.heap.size + 1) [.int .i64 bx, .int .i64 by']) (h2 : BW W (w.heap.size + 1 + 1) [.int .i64 px, .int .i64 py]) (h : Below w.heap.size w W) : St w W (BdL w ax ay bx by' px py) :=
  St.cons h0 (St.cons h1 (St.cons h2 (St.nil h)))
set_option maxRecDepth 100000 in
set_option maxHeartbeats 8000000 in
theorem rBeyond_any (ax ay bx by' px py : Int) (w : World) :
    Calls Try.prog 18 #[.agg #[.int .i64 ax, .int .i64 ay], .agg #[.int .i64 bx, .int .i64 by'], .agg #[.int .i64 px, .int .i64 py]] w fun e w' => e = .returned (.int .i64 (beyondN ⟨ax, ay⟩ ⟨bx, by'⟩ ⟨px, py⟩)) ∧ Below w.heap.size w w' := by
  by_cases h : (Rg ax ∧ Rg ay) ∧ (Rg bx ∧ Rg by') ∧ (Rg px ∧ Rg py)
  · have N := Lib.hid (fun (n : Nat) (W : World) (B : BW W n [.int .i64 ax, .int .i64 ay, .int .i64 bx, .int .i64 by', .int .i64 px, .int .i64 py]) => rNear3_any ax ay bx by' px py n W B)
    rw [decide_eq_true h] at N
    have hP : Pt.near ⟨ax, ay⟩ ∧ Pt.near ⟨bx, by'⟩ ∧ Pt.near ⟨px, py⟩ := h
    have X0 := Lib.hid (fun (W : World) => rSide_any ax ay bx by' px py W)
    have SE : sideP ⟨ax, ay⟩ ⟨bx, by'⟩ ⟨px, py⟩ = sgnA (area ⟨ax, ay⟩ ⟨bx, by'⟩ ⟨px, py⟩) := if_pos hP
    rw [SE] at X0
    have X1 := Lib.hid (fun (W : World) => rPDot_any ax ay bx by' px py _ W h.1.1 h.1.2 h.2.1.1 h.2.1.2 h.2.2.1 h.2.2.2 rfl)
    have X2 := Lib.hid (fun (W : World) => rPDot_any bx by' ax ay px py _ W h.2.1.1 h.2.1.2 h.1.1 h.1.2 h.2.2.1 h.2.2.2 rfl)
    have X3 := Lib.hid (fun (W : World) => rArea_any ax ay bx by' px py _ W h.1.1 h.1.2 h.2.1.1 h.2.1.2 h.2.2.1 h.2.2.2 rfl)
    have F1 := (dotP_fit h.1.1 h.1.2 h.2.1.1 h.2.1.2 h.2.2.1 h.2.2.2).2.2.2
    have F2 := (dotP_fit h.2.1.1 h.2.1.2 h.1.1 h.1.2 h.2.2.1 h.2.2.2).2.2.2
    have F3 := (area_fit h.1.1 h.1.2 h.2.1.1 h.2.1.2 h.2.2.1 h.2.2.2).2.2.2.2
    have S1 := Lib.hid (fun (W : World) => rSign_any _ W F1)
    have S2 := Lib.hid (fun (W : World) => rSign_any _ W F2)
    have X4 := Lib.hid (fun (W : World) => rOpposite_any _ W F3)
    have TOP := Lib.hid (fun (g : area ⟨ax, ay⟩ ⟨bx, by'⟩ ⟨px, py⟩ < 0) => area_top hP.1 hP.2.1 hP.2.2 g)
    have HB := Lib.hid (show (if area ⟨ax, ay⟩ ⟨bx, by'⟩ ⟨px, py⟩ < 0 ∧ 0 ≤ dotP ⟨ax, ay⟩ ⟨bx, by'⟩ ⟨px, py⟩ ∧ 0 ≤ dotP ⟨bx, by'⟩ ⟨ax, ay⟩ ⟨px, py⟩ then -(area ⟨ax, ay⟩ ⟨bx, by'⟩ ⟨px, py⟩ / rootI (sqP ⟨ax, ay⟩ ⟨bx, by'⟩)) else 0) = beyondN ⟨ax, ay⟩ ⟨bx, by'⟩ ⟨px, py⟩ by
      unfold beyondN; simp only [hP, true_and])
    have HS : sqP ⟨ax, ay⟩ ⟨bx, by'⟩ = (bx - ax) * (bx - ax) + (by' - ay) * (by' - ay) := rfl
    rw [HS] at TOP HB
    generalize beyondN ⟨ax, ay⟩ ⟨bx, by'⟩ ⟨px, py⟩ = r at *
    generalize area ⟨ax, ay⟩ ⟨bx, by'⟩ ⟨px, py⟩ = s at *
    generalize dotP ⟨ax, ay⟩ ⟨bx, by'⟩ ⟨px, py⟩ = D1 at *
    generalize dotP ⟨bx, by'⟩ ⟨ax, ay⟩ ⟨px, py⟩ = D2 at *
    have W1 : IntKind.i64.wrap (bx - ax) = bx - ax := IntWalk.i64_in _ (by unfold Rg at *; omega)
    have W2 : IntKind.i64.wrap (by' - ay) = by' - ay := IntWalk.i64_in _ (by unfold Rg at *; omega)
    have W3 : wrap64 (bx - ax) = bx - ax := by unfold wrap64; unfold Rg at *; omega
    have W4 : wrap64 (by' - ay) = by' - ay := by unfold wrap64; unfold Rg at *; omega
    have q1 := mul_49 (x := bx - ax) (y := bx - ax) (by unfold Rg at h; omega) (by unfold Rg at h; omega) (by unfold Rg at h; omega) (by unfold Rg at h; omega)
    have q2 := mul_49 (x := by' - ay) (y := by' - ay) (by unfold Rg at h; omega) (by unfold Rg at h; omega) (by unfold Rg at h; omega) (by unfold Rg at h; omega)
    have Y1 := Lib.hid (fun (W : World) => rMul_any (bx - ax) (bx - ax) W (by unfold Rg at h; omega) (by unfold Rg at h; omega) (by unfold Rg at h; omega) (by unfold Rg at h; omega))
    have Y2 := Lib.hid (fun (W : World) => rMul_any (by' - ay) (by' - ay) W (by unfold Rg at h; omega) (by unfold Rg at h; omega) (by unfold Rg at h; omega) (by unfold Rg at h; omega))
    have i1 : In128 ((bx - ax) * (bx - ax) + (by' - ay) * (by' - ay)) := by unfold In128; omega
    have Y3 := Lib.hid (fun (W : World) => rAdd_any ((bx - ax) * (bx - ax)) ((by' - ay) * (by' - ay)) W (by unfold In128; omega) (by unfold In128; omega))
    rw [show clipW ((bx - ax) * (bx - ax) + (by' - ay) * (by' - ay)) = (bx - ax) * (bx - ax) + (by' - ay) * (by' - ay) from if_pos i1] at Y3
    have Y4 := Lib.hid (fun (W : World) => rRoot_any ((bx - ax) * (bx - ax) + (by' - ay) * (by' - ay)) W i1)
    generalize hQ : (bx - ax) * (bx - ax) + (by' - ay) * (by' - ay) = Q at *
    clear hQ q1 q2 i1 HS
    generalize (bx - ax) * (bx - ax) = Q1 at *
    generalize (by' - ay) * (by' - ay) = Q2 at *
    generalize hx : bx - ax = x at *
    generalize hy : by' - ay = y at *
    generalize rootI Q = L at *
    generalize fitW Q = fw at *
    obtain ⟨A, hA⟩ : ∃ A, -s = A := ⟨_, rfl⟩
    have HA := Lib.hid hA
    rw [hA] at X4
    clear hA F1 F2 h hP SE
    go_enter Try.func18, Try.ntmps18
    go_wp2_with fail
    refine (N.out _ _ (BW.new _ _ [_, _, _, _, _, _] _ (by simp))).mono ?_
    rintro e w1 ⟨rfl, rfl⟩
    go_wp2_with fail
    refine calls_gen (S := fun W => St w W (BdL w ax ay bx by' px py)) (bd_new ((((BW.new w w.heap.size [_, _] _ rfl).alloc _).alloc _).alloc _) (((BW.new _ _ [_, _] _ (by simp)).alloc _).alloc _) ((BW.new _ _ [_, _] _ (by simp)).alloc _) (by repeat (first | exact Below.refl _ _ | assumption | refine Below.setCell ?_ (by first | omega | (simp; done) | (simp; omega)) _ | refine Below.alloc ?_ (by first | omega | (simp; done) | (simp; omega)) _ | refine below_drewN ?_ _ | refine Below.drew ?_ | refine Below.trans ?_ (Below.mono (by assumption) (by first | omega | (simp; done) | (simp; omega)))))) (fun W0 hS => ?_)
    have K0 := Lib.hid hS
    clear hS N
    refine (X0.out _).mono ?_
    rintro e w1 ⟨rfl, h⟩
    have K1 := Lib.hid (K0.out.step h)
    clear h K0
    by_cases c1 : s < 0
    · have c1a : ¬ 0 ≤ sgnA s := by unfold sgnA; rw [if_pos c1]; omega
      obtain ⟨⟨a0, a1⟩, ⟨b0, b1⟩, ⟨p0, p1⟩⟩ := bd_sv (K1.out)
      go_wp2_with fail
      refine (X1.out _).mono ?_
      clear a0 a1 b0 b1 p0 p1
      rintro e w2 ⟨rfl, h⟩
      have K2 := Lib.hid (K1.out.step h)
      clear h K1
      go_wp2_with fail
      refine (S1.out _).mono ?_
      rintro e w3 ⟨rfl, h⟩
      have K3 := Lib.hid (K2.out.step h)
      clear h K2
      by_cases c2 : D1 < 0
      · have c2a : cmpI D1 0 < 0 := cmpI_neg_iff.2 c2
        have EE : r = 0 := by rw [← HB.out]; exact if_neg (by rintro ⟨g1, g2, g3⟩; omega)
        go_wp2
        go_ret
        exact ⟨retI EE.symm, K3.out.l⟩
      · have c2a : ¬ cmpI D1 0 < 0 := fun g => c2 (cmpI_neg_iff.1 g)
        obtain ⟨⟨a0, a1⟩, ⟨b0, b1⟩, ⟨p0, p1⟩⟩ := bd_sv (K3.out)
        go_wp2_with fail
        refine (X2.out _).mono ?_
        clear a0 a1 b0 b1 p0 p1
        rintro e w4 ⟨rfl, h⟩
        have K4 := Lib.hid (K3.out.step h)
        clear h K3
        go_wp2_with fail
        refine (S2.out _).mono ?_
        rintro e w5 ⟨rfl, h⟩
        have K5 := Lib.hid (K4.out.step h)
        clear h K4
        by_cases c3 : D2 < 0
        · have c3a : cmpI D2 0 < 0 := cmpI_neg_iff.2 c3
          have EE : r = 0 := by rw [← HB.out]; exact if_neg (by rintro ⟨g1, g2, g3⟩; omega)
          go_wp2
          go_ret
          exact ⟨retI EE.symm, K5.out.l⟩
        · have c3a : ¬ cmpI D2 0 < 0 := fun g => c3 (cmpI_neg_iff.1 g)
          have T := TOP.out c1
          have HR := Lib.hid (show -(-A / L) = r by rw [← HB.out, if_pos ⟨c1, by omega, by omega⟩, ← HA.out, Int.neg_neg])
          have HL := Lib.hid T
          have A0 : 0 < A := by have := HA.out; omega
          have LU : IntKind.i64.wrap L = L := IntWalk.i64_in _ (by omega)
          have A1 : In128 A := by rw [← HA.out]; unfold In128 at *; omega
          have HO := Lib.hid (show OpenB A L 0 63 from ⟨by omega, by have := HL.out.2.2.1; rw [HA.out] at this; rw [show (0 : Int) + 2 ^ 63 = 9223372036854775808 from rfl]; omega, by omega, by decide⟩)
          have HF := Lib.hid (And.intro A0 A1)
          have HB2 := Lib.hid (show -9223372036854775808 ≤ L ∧ L ≤ 9223372036854775807 by omega)
          have lw : wrap64 L = L := by unfold wrap64; omega
          clear TOP HB T A0 A1 F3 c1 c2 c3
          obtain ⟨⟨a0, a1⟩, ⟨b0, b1⟩, ⟨p0, p1⟩⟩ := bd_sv (K5.out)
          go_wp2_with fail
          refine (X3.out _).mono ?_
          clear a0 a1 b0 b1 p0 p1
          rintro e w6 ⟨rfl, h⟩
          have K6 := Lib.hid (K5.out.step h)
          clear h K5
          go_wp2_with fail
          refine (X4.out _).mono ?_
          rintro e w7 ⟨rfl, h⟩
          have K7 := Lib.hid (K6.out.step h)
          clear h K6
          obtain ⟨⟨a0, a1⟩, ⟨b0, b1⟩, ⟨p0, p1⟩⟩ := bd_sv (K7.out)
          have z1 : w.heap.size + 1 + 1 < w7.heap.size := bd_z K7.out
          have z1b : w.heap.size + 1 < w7.heap.size := by omega
          have z1c : w.heap.size < w7.heap.size := by omega
          go_wp2_with fail
          refine calls_gen (S := fun W => St w W [(w7.heap.size, [.bool (decide (A < 0)), .int .u64 (d0 (A).natAbs), .int .u64 (d1 (A).natAbs), .int .u64 (d2 (A).natAbs), .int .u64 (d3 (A).natAbs)])]) (St.cons (BW.new w7 _ [_, _, _, _, _] _ rfl) (St.nil (K7.out.alloc _).l)) (fun W8 hS => ?_)
          clear a0 a1 b0 b1 p0 p1
          clear K7 X0 X1 X2 X3 X4 S1 S2 c1a c2a c3a
          generalize w7.heap.size = n1 at *
          have K8 := Lib.hid hS
          clear hS
          refine (Y1.out _).mono ?_
          rintro e w9 ⟨rfl, h⟩
          have K9 := Lib.hid (K8.out.step h)
          clear h K8
          go_wp2_with fail
          refine (Y2.out _).mono ?_
          rintro e w10 ⟨rfl, h⟩
          have K10 := Lib.hid (K9.out.step h)
          clear h K9
          go_wp2_with fail
          refine (Y3.out _).mono ?_
          rintro e w11 ⟨rfl, h⟩
          have K11 := Lib.hid (K10.out.step h)
          clear h K10
          go_wp2_with fail
          refine calls_gen (S := fun W => St w W [(n1, [.bool (decide (A < 0)), .int .u64 (d0 (A).natAbs), .int .u64 (d1 (A).natAbs), .int .u64 (d2 (A).natAbs), .int .u64 (d3 (A).natAbs)])]) (K11.out.alloc _) (fun W12 hS => ?_)
          clear K11
          have K12 := Lib.hid hS
          clear hS
          refine (Y4.out _).mono ?_
          rintro e w13 ⟨rfl, h⟩
          have K13 := Lib.hid (K12.out.step h)
          clear h K12
          clear Y1 Y2 Y3 Y4 hx hy W1 W2 W3 W4 z1 z1b z1c
          go_wp2
          go_loopw [13, 14] (fun v i wr => ∃ (t : Nat) (n : Int), t ≤ 63 ∧ i = .int .i64 ((t : Int) - 1) ∧ v = .int .i64 n ∧ OpenB A L n t ∧ St w wr [(n1, [.bool (decide (A < 0)), .int .u64 (d0 (A).natAbs), .int .u64 (d1 (A).natAbs), .int .u64 (d2 (A).natAbs), .int .u64 (d3 (A).natAbs)])]) (fun _ i _ => (intOf i + 1).toNat)
          case atStart => exact ⟨63, 0, by omega, by go_num, rfl, HO.out, K13.out⟩
          case round =>
            clear K13 HO
            obtain ⟨tt, n, ht, rfl, rfl, OB, KK⟩ := hrel
            have K0 := Lib.hid KK.drew
            have K00 := Lib.hid KK
            clear KK
            cases tt with
            | zero =>
              have DN := OB.done HL.out.1 (by have := HL.out.2.2.1; rw [HA.out] at this; exact this)
              have n0 := OB.n0
              have F := Lib.hid (DN.1.trans HR.out)
              have v1 : IntKind.i64.wrap (n + 1) = n + 1 := IntWalk.i64_in _ (by omega)
              have v2 : wrap64 (n + 1) = n + 1 := by unfold wrap64; omega
              rw [show (((0 : Nat) : Int) - 1) = -1 from rfl]
              clear OB DN
              go_wp2
              go_ret
              exact ⟨retI F.out, K00.out.l⟩
            | succ u =>
              obtain ⟨q, hq, v3, v1, v2, hb, hm, up, dn⟩ := OB.calls HL.out.1 HL.out.2.1
              rw [show (((u + 1 : Nat) : Int) - 1) = u by omega]
              have Z1 := Lib.hid (fun (W : World) => rMul_any (n + q) L W hb.1 hb.2 HB2.out.1 HB2.out.2)
              have Z2 := Lib.hid (fun (W : World) => rCmp_any ((n + q) * L) A W hm HF.out.2)
              have UP := Lib.hid up
              have DO := Lib.hid dn
              obtain ⟨M, hM⟩ : ∃ M, (n + q) * L = M := ⟨_, rfl⟩
              rw [hM] at Z1 Z2 UP DO
              clear OB hM up dn hm hb K00
              go_wp2_with fail
              refine wp_region_held_drew (S := fun W => (W.cell? ⟨n1, 0, none⟩ = some (.bool (decide (A < 0))) ∧ W.cell? ⟨n1, 1, none⟩ = some (.int .u64 (d0 (A).natAbs)) ∧ W.cell? ⟨n1, 2, none⟩ = some (.int .u64 (d1 (A).natAbs)) ∧ W.cell? ⟨n1, 3, none⟩ = some (.int .u64 (d2 (A).natAbs)) ∧ W.cell? ⟨n1, 4, none⟩ = some (.int .u64 (d3 (A).natAbs)))) (by kernel_rfl) (K0.out.b n1 _ (by simp)).h5 (fun hHeld => ?_)
              generalize wr.drew = wq at *
              refine wpAnyH_takeD 0 82 (v := ?_) (by kernel_rfl) (by kernel_rfl) (by kernel_rfl) (by kernel_rfl) (by rfl) (fun _ _ _ h => h) ?_ hHeld ?_
              rotate_left 1
              (intro o ho W hSw; simp only [List.getElem?_toArray, List.getElem?_cons_succ, List.getElem?_cons_zero, Option.some.injEq] at ho; subst ho; (try dsimp only at hSw); go_simp; try with_reducible rfl)
              (try simp only [Act.put, List.setIfInBounds_toArray, List.set_cons_zero, List.set_cons_succ])
              refine wpAnyH_takeD 1 83 (v := ?_) (by kernel_rfl) (by kernel_rfl) (by kernel_rfl) (by kernel_rfl) (by rfl) (fun _ _ _ h => h) ?_ hHeld ?_
              rotate_left 1
              (intro o ho W hSw; simp only [List.getElem?_toArray, List.getElem?_cons_succ, List.getElem?_cons_zero, Option.some.injEq] at ho; subst ho; (try dsimp only at hSw); go_simp; try with_reducible rfl)
              (try simp only [Act.put, List.setIfInBounds_toArray, List.set_cons_zero, List.set_cons_succ])
              refine wpAnyH_takeD 3 85 (v := ?_) (by kernel_rfl) (by kernel_rfl) (by kernel_rfl) (by kernel_rfl) (by rfl) (fun _ _ _ h => h) ?_ hHeld ?_
              rotate_left 1
              (intro o ho W hSw; simp only [List.getElem?_toArray, List.getElem?_cons_succ, List.getElem?_cons_zero, Option.some.injEq] at ho; subst ho; (try dsimp only at hSw); go_simp; try with_reducible rfl)
              (try simp only [Act.put, List.setIfInBounds_toArray, List.set_cons_zero, List.set_cons_succ])
              refine wpAnyH_onlyD 2 (by kernel_rfl) (fun o ho K hK => ?_) (by kernel_rfl)
              simp only [List.getElem?_toArray, List.getElem?_cons_succ, List.getElem?_cons_zero, Option.some.injEq] at ho
              subst ho
              go_simp
              refine (Z1.out _).mono ?_
              rintro e w1 ⟨rfl, h⟩
              have K1 := Lib.hid (K0.out.step h)
              go_wp2_with fail
              refine hK.out _ _ ((K1.out.b n1 _ (by simp)).h5) ?_
              clear hK K hHeld
              intro hHeld
              clear h K0
              refine wpAnyH_onlyD 4 (by kernel_rfl) (fun o ho K hK => ?_) (by kernel_rfl)
              simp only [List.getElem?_toArray, List.getElem?_cons_succ, List.getElem?_cons_zero, Option.some.injEq] at ho
              subst ho
              go_simp
              refine (Z2.out _).mono ?_
              rintro e w2 ⟨rfl, h⟩
              have K2 := Lib.hid (K1.out.step h)
              go_wp2_with fail
              refine hK.out _ _ ((K2.out.b n1 _ (by simp)).h5) ?_
              clear hK K hHeld
              intro hHeld
              clear h K1
              refine wpAnyH_takeD 5 87 (v := ?_) (by kernel_rfl) (by kernel_rfl) (by kernel_rfl) (by kernel_rfl) (by rfl) (fun _ _ _ h => h) ?_ hHeld ?_
              rotate_left 1
              (intro o ho W hSw; simp only [List.getElem?_toArray, List.getElem?_cons_succ, List.getElem?_cons_zero, Option.some.injEq] at ho; subst ho; (try dsimp only at hSw); go_simp; try with_reducible rfl)
              (try simp only [Act.put, List.setIfInBounds_toArray, List.set_cons_zero, List.set_cons_succ])
              refine wpAnyH_done (by kernel_rfl) ?_ _
              by_cases g : M < A
              · have t := cmpI_neg_iff.2 g
                have NX := Lib.hid (UP.out g)
                clear g UP DO Z1 Z2
                go_wp2
                go_roundw
                case rel => exact ⟨u, n + q, by omega, by go_num, rfl, NX.out, K2.out⟩
                case measure => simp [intOf]
              · have t : ¬ cmpI M A < 0 := fun k => absurd (cmpI_neg_iff.1 k) (by omega)
                have NX := Lib.hid (DO.out (by omega))
                clear g UP DO Z1 Z2
                go_wp2
                go_roundw
                case rel => exact ⟨u, n, by omega, by go_num, rfl, NX.out, K2.out⟩
                case measure => simp [intOf]
    · have c1a : 0 ≤ sgnA s := by unfold sgnA; rw [if_neg c1]; split <;> omega
      have EE : r = 0 := by rw [← HB.out]; exact if_neg (by rintro ⟨g1, g2, g3⟩; omega)
      go_wp2
      go_ret
      exact ⟨retI EE.symm, K1.out.l⟩
  · have hP : ¬ (Pt.near ⟨ax, ay⟩ ∧ Pt.near ⟨bx, by'⟩ ∧ Pt.near ⟨px, py⟩) := h
    have EE : beyondN ⟨ax, ay⟩ ⟨bx, by'⟩ ⟨px, py⟩ = 0 := if_neg (fun k => hP k.1)
    rw [EE]
    have N := Lib.hid (fun (n : Nat) (W : World) (B : BW W n [.int .i64 ax, .int .i64 ay, .int .i64 bx, .int .i64 by', .int .i64 px, .int .i64 py]) => rNear3_any ax ay bx by' px py n W B)
    rw [decide_eq_false h] at N
    clear h hP EE
    go_enter Try.func18, Try.ntmps18
    go_wp2_with fail
    refine (N.out _ _ (BW.new _ _ [_, _, _, _, _, _] _ (by simp))).mono ?_
    rintro e w1 ⟨rfl, rfl⟩
    go_wp2
    go_ret
    exact ⟨rfl, by repeat (first | exact Below.refl _ _ | assumption | refine Below.setCell ?_ (by first | omega | (simp; done) | (simp; omega)) _ | refine Below.alloc ?_ (by first | omega | (simp; done) | (simp; omega)) _ | refine below_drewN ?_ _ | refine Below.drew ?_ | refine Below.trans ?_ (Below.mono (by assumption) (by first | omega | (simp; done) | (simp; omega))))⟩
end Go.Proofs.Ytmfmdipejlnmfaa
