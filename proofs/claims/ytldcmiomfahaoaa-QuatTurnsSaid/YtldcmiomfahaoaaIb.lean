/- The squares of sine and cosine; directions: numbers alone. No program in sight. -/
import Derived.Test.YtldcmiomfahaoaaIa
import Derived.Test.YtldcmiomfahaoaaBn
namespace Go.Proofs.Ytldcmiomfahaoaa
open Go.RowKit
set_option linter.unusedVariables false

/-- one stretch of the table, a part f of it: A to A + d rising, C to C - e falling -/
theorem stretch {A C d e f u v : Int} (A0 : 0 ≤ A) (A1 : A + d ≤ 4294967296) (C1 : C ≤ 4294967296) (e1 : 0 ≤ C - e) (d0 : 0 ≤ d) (e0 : 0 ≤ e) (f0 : 0 ≤ f) (f1 : f ≤ 16777216)
    (r0 : -8589934592 ≤ A * A + C * C - 18446744073709551616) (r1 : A * A + C * C - 18446744073709551616 ≤ 8589934592)
    (b0 : -11200000000000000 ≤ 2 * (A * d - C * e)) (b1 : 2 * (A * d - C * e) ≤ 11200000000000000) (q1 : d * d + e * e ≤ 11200000000000000)
    (hu : -16777216 ≤ 2 * (u * 16777216 - d * f) ∧ 2 * (u * 16777216 - d * f) ≤ 16777216) (hv : -16777216 ≤ 2 * (v * 16777216 - e * (16777216 - f)) ∧ 2 * (v * 16777216 - e * (16777216 - f)) ≤ 16777216)
    (u0 : 0 ≤ u) (u1 : u ≤ d) (v0 : 0 ≤ v) (v1 : v ≤ e) :
    -36028797018963968 ≤ (A + u) * (A + u) + (C - e + v) * (C - e + v) - 18446744073709551616 ∧ (A + u) * (A + u) + (C - e + v) * (C - e + v) - 18446744073709551616 ≤ 36028797018963968 := by
  -- the falling side, told from its upper end: C - x, x within half a part of e f
  obtain ⟨x, hx⟩ : ∃ x, e - v = x := ⟨_, rfl⟩
  have ev : C - e + v = C - x := by omega
  rw [ev]
  have ef : e * (16777216 - f) = e * 16777216 - e * f := Int.mul_sub _ _ _
  rw [ef] at hv
  have hx1 : -16777216 ≤ 2 * (x * 16777216 - e * f) ∧ 2 * (x * 16777216 - e * f) ≤ 16777216 := by omega
  have x0 : 0 ≤ x := by omega
  have x1 : x ≤ e := by omega
  obtain ⟨s, hs⟩ : ∃ s, u * 16777216 - d * f = s := ⟨_, rfl⟩
  obtain ⟨t, ht⟩ : ∃ t, x * 16777216 - e * f = t := ⟨_, rfl⟩
  rw [hs] at hu
  rw [ht] at hx1
  have uu := Int.mul_le_mul u1 u1 u0 d0
  have xx := Int.mul_le_mul x1 x1 x0 e0
  have un := sq_nn u
  have xn := sq_nn x
  -- 2^24 (A u - C x) = (A d - C e) f + A s - C t
  have key : 16777216 * (A * u - C * x) = (A * d - C * e) * f + (A * s - C * t) := by
    have h1 : A * (u * 16777216) = A * (d * f + s) := by rw [show u * 16777216 = d * f + s by omega]
    have h2 : C * (x * 16777216) = C * (e * f + t) := by rw [show x * 16777216 = e * f + t by omega]
    grind
  have as := mul_abs_le (a := 4294967296) (b := 8388608) (x := A) (y := s) (by omega) (by omega) (by omega) (by omega)
  have ct := mul_abs_le (a := 4294967296) (b := 8388608) (x := C) (y := t) (by omega) (by omega) (by omega) (by omega)
  have bf := mul_abs_le (a := 5600000000000000) (b := 16777216) (x := A * d - C * e) (y := f) (by omega) (by omega) (by omega) (by omega)
  have ex : (A + u) * (A + u) + (C - x) * (C - x) = A * A + C * C + 2 * (A * u - C * x) + (u * u + x * x) := by grind
  rw [ex]
  omega
theorem arc_round {r : Int} (h0 : 0 ≤ r) (h1 : r ≤ 1073741824) :
    -36028797018963968 ≤ arcF r * arcF r + arcF (1073741824 - r) * arcF (1073741824 - r) - 18446744073709551616 ∧ arcF r * arcF r + arcF (1073741824 - r) * arcF (1073741824 - r) - 18446744073709551616 ≤ 36028797018963968 := by
  obtain ⟨i, hi⟩ : ∃ i : Nat, r / 16777216 = i := ⟨(r / 16777216).toNat, by omega⟩
  obtain ⟨f, hf⟩ : ∃ f, r % 16777216 = f := ⟨_, rfl⟩
  by_cases z : f = 0
  · have e1 : arcF r = tabS i := by
      unfold arcF
      rw [hi, hf, z, Int.mul_zero, rq_nought, Int.add_zero]
      split <;> rfl
    have e2 : arcF (1073741824 - r) = tabS (64 - i) := by
      unfold arcF
      rw [show (1073741824 - r) / 16777216 = 64 - (i : Int) by omega, show (1073741824 - r) % 16777216 = 0 by omega, Int.mul_zero, rq_nought, Int.add_zero]
      split <;> rfl
    rw [e1, e2]
    have := tab_round i (by omega)
    omega
  · have i1 : i < 64 := by omega
    have B := tab_bend i i1
    have R := tab_round i (by omega)
    have s1 := tab_step (i := i) (by omega) (by omega)
    have s2 := tab_step (i := 63 - i) (by omega) (by omega)
    rw [show (63 : Int) - i + 1 = 64 - i by omega] at s2
    obtain ⟨A, hA⟩ : ∃ A, tabS i = A := ⟨_, rfl⟩
    obtain ⟨A2, hA2⟩ : ∃ A, tabS (i + 1) = A := ⟨_, rfl⟩
    obtain ⟨C, hC⟩ : ∃ A, tabS (64 - i) = A := ⟨_, rfl⟩
    obtain ⟨C2, hC2⟩ : ∃ A, tabS (63 - i) = A := ⟨_, rfl⟩
    have e1 : arcF r = A + rq ((A2 - A) * f) 16777216 := by
      unfold arcF
      rw [hi, hf, if_pos (by omega), hA, hA2]
    have e2 : arcF (1073741824 - r) = C2 + rq ((C - C2) * (16777216 - f)) 16777216 := by
      unfold arcF
      rw [show (1073741824 - r) / 16777216 = 63 - (i : Int) by omega, show (1073741824 - r) % 16777216 = 16777216 - f by omega, if_pos (by omega), hC2, show (63 : Int) - i + 1 = 64 - i by omega, hC]
    rw [hA, hA2, hC, hC2] at B
    rw [hA, hC] at R
    rw [hA, hA2] at s1
    rw [hC, hC2] at s2
    rw [e1, e2]
    have n1 := rq_near (a := (A2 - A) * f) (b := 16777216) (by omega)
    have n2 := rq_near (a := (C - C2) * (16777216 - f)) (b := 16777216) (by omega)
    have m1 := rq_step (d := A2 - A) (f := f) (by omega) (by omega) (by omega)
    have m2 := rq_step (d := C - C2) (f := 16777216 - f) (by omega) (by omega) (by omega)
    have S := stretch (A := A) (C := C) (d := A2 - A) (e := C - C2) (f := f) (u := rq ((A2 - A) * f) 16777216) (v := rq ((C - C2) * (16777216 - f)) 16777216) (by omega) (by omega) (by omega) (by omega) (by omega) (by omega) (by omega) (by omega) R.1 R.2 B.1.1 B.1.2 B.2 n1 n2 m1.1 m1.2 m2.1 m2.2
    rw [show C - (C - C2) = C2 by omega] at S
    exact S
theorem sin_cos_round {t : Int} (h0 : 0 ≤ t) (h1 : t < 4294967296) :
    -36028797018963968 ≤ sinF t * sinF t + cosF t * cosF t - 18446744073709551616 ∧ sinF t * sinF t + cosF t * cosF t - 18446744073709551616 ≤ 36028797018963968 := by
  have e := sin_cos_sq h0 h1
  have q := quart_in h0
  rw [e.1, e.2]
  exact arc_round q.1 q.2

/-- does t point no further than (x, y)? -/
def holdsF (x y t : Int) : Prop := x * sinF t ≤ y * cosF t
theorem holds_down {x y s t : Int} (x0 : 0 ≤ x) (y0 : 0 ≤ y) (s0 : 0 ≤ s) (h : s ≤ t) (t1 : t ≤ 1073741824) (k : holdsF x y t) : holdsF x y s := by
  unfold holdsF at *
  have m := sin_rises s0 h t1
  have a := Int.mul_le_mul_of_nonneg_left m.1 x0
  have b := Int.mul_le_mul_of_nonneg_left m.2 y0
  omega
theorem holds_nought {x y : Int} (y0 : 0 ≤ y) : holdsF x y 0 := by
  unfold holdsF
  rw [sin_first (by omega) (by omega), cos_first (by omega) (by omega), arc_zero, show arcF (1073741824 - 0) = 4294967296 from by decide +kernel]
  omega
/-- the greatest turn of the first quarter that points no further than (x, y) -/
structure IsFirst (x y t : Int) : Prop where
  t0 : 0 ≤ t
  t1 : t ≤ 1073741824
  yes : holdsF x y t
  no : t < 1073741824 → ¬ holdsF x y (t + 1)
theorem IsFirst.uniq {x y s t : Int} (x0 : 0 ≤ x) (y0 : 0 ≤ y) (h : IsFirst x y s) (k : IsFirst x y t) : s = t := by
  rcases Int.lt_trichotomy s t with c | c | c
  · exact absurd (holds_down x0 y0 (by have := h.t0; omega) (by omega) k.t1 k.yes) (h.no (by have := k.t1; omega))
  · exact c
  · exact absurd (holds_down x0 y0 (by have := k.t0; omega) (by omega) h.t1 h.yes) (k.no (by have := h.t1; omega))
/-- n bits are open: from t on it does not point further, from t + 2^n on it does -/
structure OpenT (x y t : Int) (n : Nat) : Prop where
  t0 : 0 ≤ t
  t1 : t + 2 ^ n ≤ 1073741824
  yes : holdsF x y t
  no : ¬ holdsF x y (t + 2 ^ n)
theorem OpenT.up {x y t : Int} {n : Nat} (k : OpenT x y t (n + 1)) (h : holdsF x y (t + 2 ^ n)) : OpenT x y (t + 2 ^ n) n := by
  obtain ⟨a, b, c, d⟩ := k
  rw [Int.pow_succ] at b d
  have : (0 : Int) < 2 ^ n := Int.pow_pos (by omega)
  exact ⟨by omega, by omega, h, by rw [show t + 2 ^ n + 2 ^ n = t + 2 ^ n * 2 by omega]; exact d⟩
theorem OpenT.down {x y t : Int} {n : Nat} (k : OpenT x y t (n + 1)) (h : ¬ holdsF x y (t + 2 ^ n)) : OpenT x y t n := by
  obtain ⟨a, b, c, d⟩ := k
  rw [Int.pow_succ] at b
  have : (0 : Int) < 2 ^ n := Int.pow_pos (by omega)
  exact ⟨a, by omega, c, h⟩
theorem OpenT.first {x y t : Int} (k : OpenT x y t 0) : IsFirst x y t :=
  ⟨k.t0, by have := k.t1; simp at this; omega, k.yes, fun _ => by have := k.no; simpa using this⟩
theorem first_top {x y : Int} (h : holdsF x y 1073741824) : IsFirst x y 1073741824 := ⟨by omega, by omega, h, fun h => absurd h (by omega)⟩
theorem open_start {x y : Int} (y0 : 0 ≤ y) (h : ¬ holdsF x y 1073741824) : OpenT x y 0 30 := ⟨by omega, by decide, holds_nought y0, h⟩
end Go.Proofs.Ytldcmiomfahaoaa
