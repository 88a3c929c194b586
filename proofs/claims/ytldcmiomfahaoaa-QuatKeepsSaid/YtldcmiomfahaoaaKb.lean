/- Attitudes as numbers: what a unit attitude's matrix does keeps lengths, and is undone. No program in sight. -/
import Derived.Test.YtldcmiomfahaoaaKa
namespace Go.Proofs.Ytldcmiomfahaoaa
open Go.RowKit
set_option linter.unusedVariables false

theorem add_fit {a b : Int} (h : addO a b = false) : addF a b = a + b := by
  unfold addO out64 at h
  rw [decide_eq_false_iff_not] at h
  unfold addF clip64
  rw [if_neg (by omega), if_neg (by omega)]
theorem len_small {S : Int} (h : lenO S = false) : S < 85070591730234615865843651857942052864 := by
  apply Classical.byContradiction
  intro k
  have := (len_far (S := S) (by omega)).2.2
  rw [this] at h; cases h
theorem abs_fit {a : Int} (ha : In64 a) (h : absO a = false) : absF a = a.natAbs := by
  unfold In64 at ha
  by_cases c : a = -9223372036854775808
  · subst c
    have : absO (-9223372036854775808) = true := by decide
    rw [this] at h; cases h
  · exact (abs_nat (by omega) (by omega)).1
/-- parts of a unit attitude -/
def Un (x : Int) : Prop := -4294967300 ≤ x ∧ x ≤ 4294967300
theorem un_of {x T : Int} (h : x * x ≤ T) (t : T ≤ 18446744073709551616 + 34359738368) : Un x := by
  exact abs_of_sq (a := x) (b := 4294967300) (by omega) (by omega)
/-- four parts whose squares are 2^64 together, but for 2^35 -/
structure Att (a b c d : Int) : Prop where
  lo : 18446744073709551616 - 34359738368 ≤ a * a + b * b + c * c + d * d
  hi : a * a + b * b + c * c + d * d ≤ 18446744073709551616 + 34359738368
theorem Att.un {a b c d : Int} (h : Att a b c d) : Un a ∧ Un b ∧ Un c ∧ Un d := by
  have s1 := sq_nn a
  have s2 := sq_nn b
  have s3 := sq_nn c
  have s4 := sq_nn d
  have := h.hi
  exact ⟨un_of (T := a * a + b * b + c * c + d * d) (by omega) this, un_of (T := a * a + b * b + c * c + d * d) (by omega) this, un_of (T := a * a + b * b + c * c + d * d) (by omega) this, un_of (T := a * a + b * b + c * c + d * d) (by omega) this⟩
theorem near_of {x n : Int} (n0 : 2147483648 ≤ n) (h0 : -(n + 1) ≤ x) (h1 : x ≤ n + 1) : Near x n (divF x n) := by
  have K := rq_near (a := x * 4294967296) (b := n) (by omega)
  obtain ⟨X, hX⟩ : ∃ X, rq (x * 4294967296) n = X := ⟨_, rfl⟩
  rw [hX] at K
  have up : X ≤ 4294967300 := by
    apply Classical.byContradiction
    intro h
    have := Int.mul_le_mul_of_nonneg_right (show (4294967301 : Int) ≤ X by omega) (show 0 ≤ n by omega)
    omega
  have lo : -4294967300 ≤ X := by
    apply Classical.byContradiction
    intro h
    have := Int.mul_le_mul_of_nonneg_right (show X ≤ (-4294967301 : Int) by omega) (show 0 ≤ n by omega)
    omega
  have c := clip64_of (n := X) ⟨by omega, by omega⟩
  have e1 : divF x n = X := by unfold divF quoF; rw [if_neg (by omega), hX, c.1]
  rw [e1]
  exact K
theorem att_of {a b c d n : Int} (ha : In64 a) (hn : lenF (a * a + b * b + c * c + d * d) = n) (h3 : lenO (b * b + c * c + d * d) = false) (h1 : absO a = false)
    (hs : addO (lenF (b * b + c * c + d * d)) (absF a) = false) (lo : 4294967296 ≤ addF (lenF (b * b + c * c + d * d)) (absF a)) (hi : addF (lenF (b * b + c * c + d * d)) (absF a) ≤ 1099511627776) :
    2147483648 ≤ n ∧ Att (divF a n) (divF b n) (divF c n) (divF d n) := by
  rw [add_fit hs, abs_fit ha h1] at lo hi
  have ea := nat_sq a
  have A0 : (0 : Int) ≤ a.natAbs := by omega
  have L3 := len_fit (len_small h3)
  have sb := sq_nn b
  have sc := sq_nn c
  have sd := sq_nn d
  have sa := sq_nn a
  have R3 := rootI_is (n := b * b + c * c + d * d) (by omega)
  rw [L3.2.1] at lo hi
  generalize rootI (b * b + c * c + d * d) = l at *
  generalize (a.natAbs : Int) = A at *
  have l0 := R3.s0
  have l1 := R3.lo
  have l2 := R3.hi
  have q1 := mul_abs_le (a := 1099511627777) (b := 1099511627777) (x := l + 1) (y := l + 1) (by omega) (by omega) (by omega) (by omega)
  have q2 := mul_abs_le (a := 1099511627777) (b := 1099511627777) (x := A) (y := A) (by omega) (by omega) (by omega) (by omega)
  have L4 := len_fit (S := a * a + b * b + c * c + d * d) (by omega)
  have R4 := rootI_is (n := a * a + b * b + c * c + d * d) (by omega)
  rw [L4.2.1] at hn
  rw [hn] at R4
  have r0 := R4.s0
  have r1 := R4.lo
  have r2 := R4.hi
  have n0 : 2147483648 ≤ n := by
    apply Classical.byContradiction
    intro k
    have k1 := mul_abs_le (a := 2147483648) (b := 2147483648) (x := n + 1) (y := n + 1) (by omega) (by omega) (by omega) (by omega)
    have k2 := sq_nn (l - A)
    have k3 : (l - A) * (l - A) = 2 * (l * l) + 2 * (A * A) - (l + A) * (l + A) := by grind
    have k4 : 4294967296 * 4294967296 ≤ (l + A) * (l + A) := by
      have h1 : 4294967296 * 4294967296 ≤ 4294967296 * (l + A) := Int.mul_le_mul_of_nonneg_left (by omega) (by omega)
      have h2 : 4294967296 * (l + A) ≤ (l + A) * (l + A) := Int.mul_le_mul_of_nonneg_right (by omega) (by omega)
      omega
    omega
  have ba := abs_of_sq (a := a) (b := n + 1) (by omega) (by omega)
  have bb := abs_of_sq (a := b) (b := n + 1) (by omega) (by omega)
  have bc := abs_of_sq (a := c) (b := n + 1) (by omega) (by omega)
  have bd := abs_of_sq (a := d) (b := n + 1) (by omega) (by omega)
  have u := unit_sum R4 n0 (near_of n0 ba.1 ba.2) (near_of n0 bb.1 bb.2) (near_of n0 bc.1 bc.2) (near_of n0 bd.1 bd.2)
  exact ⟨n0, u.1, u.2⟩
/-- a matrix' entry: so near is it to what is meant -/
structure Ent (P r : Int) : Prop where
  n0 : -8589934592 ≤ 4294967296 * r - P
  n1 : 4294967296 * r - P ≤ 8589934592
  b0 : -68719476736 ≤ r
  b1 : r ≤ 68719476736
theorem prod_un {p q : Int} (hp : Un p) (hq : Un q) : mulO p q = false ∧ -8589934592 ≤ mulF p q ∧ mulF p q ≤ 8589934592 ∧ -2147483648 ≤ p * q - mulF p q * 4294967296 ∧ p * q - mulF p q * 4294967296 ≤ 2147483648 := by
  unfold Un at *
  have e := mul_abs_le hp.1 hp.2 hq.1 hq.2
  exact mul_small (M := 8589934592) (by omega) (by omega) (by omega)
def diagF (y z : Int) : Int := subF 4294967296 (addF (addF (mulF y y) (mulF z z)) (addF (mulF y y) (mulF z z)))
def offF (p q w z : Int) : Int := addF (subF (mulF p q) (mulF w z)) (subF (mulF p q) (mulF w z))
def onF (p q w z : Int) : Int := addF (addF (mulF p q) (mulF w z)) (addF (mulF p q) (mulF w z))
theorem diag_of {y z : Int} (hy : Un y) (hz : Un z) : Ent (18446744073709551616 - 2 * (y * y + z * z)) (diagF y z) ∧ mulO y y = false ∧ mulO z z = false ∧ addO (mulF y y) (mulF z z) = false ∧ addO (addF (mulF y y) (mulF z z)) (addF (mulF y y) (mulF z z)) = false ∧ subO 4294967296 (addF (addF (mulF y y) (mulF z z)) (addF (mulF y y) (mulF z z))) = false := by
  have m1 := prod_un hy hy
  have m2 := prod_un hz hz
  have s1 := add_small (a := mulF y y) (b := mulF z z) (by omega) (by omega)
  have s2 := add_small (a := mulF y y + mulF z z) (b := mulF y y + mulF z z) (by omega) (by omega)
  have s3 := sub_small (a := 4294967296) (b := mulF y y + mulF z z + (mulF y y + mulF z z)) (by omega) (by omega)
  unfold diagF
  rw [s1.1, s2.1, s3.1]
  exact ⟨⟨by omega, by omega, by omega, by omega⟩, m1.1, m2.1, s1.2, s2.2, s3.2⟩
theorem off_of {p q w z : Int} (hp : Un p) (hq : Un q) (hw : Un w) (hz : Un z) : Ent (2 * (p * q - w * z)) (offF p q w z) ∧ mulO p q = false ∧ mulO w z = false ∧ subO (mulF p q) (mulF w z) = false ∧ addO (subF (mulF p q) (mulF w z)) (subF (mulF p q) (mulF w z)) = false := by
  have m1 := prod_un hp hq
  have m2 := prod_un hw hz
  have s1 := sub_small (a := mulF p q) (b := mulF w z) (by omega) (by omega)
  have s2 := add_small (a := mulF p q - mulF w z) (b := mulF p q - mulF w z) (by omega) (by omega)
  unfold offF
  rw [s1.1, s2.1]
  exact ⟨⟨by omega, by omega, by omega, by omega⟩, m1.1, m2.1, s1.2, s2.2⟩
theorem on_of {p q w z : Int} (hp : Un p) (hq : Un q) (hw : Un w) (hz : Un z) : Ent (2 * (p * q + w * z)) (onF p q w z) ∧ mulO p q = false ∧ mulO w z = false ∧ addO (mulF p q) (mulF w z) = false ∧ addO (addF (mulF p q) (mulF w z)) (addF (mulF p q) (mulF w z)) = false := by
  have m1 := prod_un hp hq
  have m2 := prod_un hw hz
  have s1 := add_small (a := mulF p q) (b := mulF w z) (by omega) (by omega)
  have s2 := add_small (a := mulF p q + mulF w z) (b := mulF p q + mulF w z) (by omega) (by omega)
  unfold onF
  rw [s1.1, s2.1]
  exact ⟨⟨by omega, by omega, by omega, by omega⟩, m1.1, m2.1, s1.2, s2.2⟩
/-- a row times a vector of at most 2^46 -/
theorem row_dot {P1 P2 P3 r1 r2 r3 x1 x2 x3 A : Int} (e1 : Ent P1 r1) (e2 : Ent P2 r2) (e3 : Ent P3 r3) (A1 : A ≤ 70368744177664) (h1 : -A ≤ x1 ∧ x1 ≤ A) (h2 : -A ≤ x2 ∧ x2 ≤ A) (h3 : -A ≤ x3 ∧ x3 ≤ A) :
    (mulO r1 x1 = false ∧ mulO r2 x2 = false ∧ addO (mulF r1 x1) (mulF r2 x2) = false ∧ mulO r3 x3 = false ∧ addO (addF (mulF r1 x1) (mulF r2 x2)) (mulF r3 x3) = false) ∧
    -(3 * (8589934592 * A) + 27670116110564327424) ≤ 18446744073709551616 * dotF r1 r2 r3 x1 x2 x3 - (P1 * x1 + P2 * x2 + P3 * x3) ∧
    18446744073709551616 * dotF r1 r2 r3 x1 x2 x3 - (P1 * x1 + P2 * x2 + P3 * x3) ≤ 3 * (8589934592 * A) + 27670116110564327424 ∧
    -3377699720527872 ≤ dotF r1 r2 r3 x1 x2 x3 ∧ dotF r1 r2 r3 x1 x2 x3 ≤ 3377699720527872 := by
  have g1 := mul_abs_le e1.b0 e1.b1 (show -70368744177664 ≤ x1 by omega) (show x1 ≤ 70368744177664 by omega)
  have g2 := mul_abs_le e2.b0 e2.b1 (show -70368744177664 ≤ x2 by omega) (show x2 ≤ 70368744177664 by omega)
  have g3 := mul_abs_le e3.b0 e3.b1 (show -70368744177664 ≤ x3 by omega) (show x3 ≤ 70368744177664 by omega)
  have m1 := mul_small (a := r1) (b := x1) (M := 1125899906842624) (by omega) (by omega) (by omega)
  have m2 := mul_small (a := r2) (b := x2) (M := 1125899906842624) (by omega) (by omega) (by omega)
  have m3 := mul_small (a := r3) (b := x3) (M := 1125899906842624) (by omega) (by omega) (by omega)
  have s1 := add_small (a := mulF r1 x1) (b := mulF r2 x2) (by omega) (by omega)
  have s2 := add_small (a := mulF r1 x1 + mulF r2 x2) (b := mulF r3 x3) (by omega) (by omega)
  have k1 := mul_abs_le e1.n0 e1.n1 h1.1 h1.2
  have k2 := mul_abs_le e2.n0 e2.n1 h2.1 h2.2
  have k3 := mul_abs_le e3.n0 e3.n1 h3.1 h3.2
  have d1 : (4294967296 * r1 - P1) * x1 = 4294967296 * (r1 * x1) - P1 * x1 := by grind
  have d2 : (4294967296 * r2 - P2) * x2 = 4294967296 * (r2 * x2) - P2 * x2 := by grind
  have d3 : (4294967296 * r3 - P3) * x3 = 4294967296 * (r3 * x3) - P3 * x3 := by grind
  rw [d1] at k1
  rw [d2] at k2
  rw [d3] at k3
  unfold dotF
  rw [s1.1, s2.1]
  generalize r1 * x1 = rx1 at *
  generalize r2 * x2 = rx2 at *
  generalize r3 * x3 = rx3 at *
  generalize P1 * x1 = px1 at *
  generalize P2 * x2 = px2 at *
  generalize P3 * x3 = px3 at *
  exact ⟨⟨m1.1, m2.1, s1.2, m3.1, s2.2⟩, by omega, by omega, by omega, by omega⟩
end Go.Proofs.Ytldcmiomfahaoaa
