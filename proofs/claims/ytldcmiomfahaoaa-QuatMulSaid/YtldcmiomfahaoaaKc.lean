/- Turning by a unit attitude: lengths are kept, and it is undone, but for parts. No program in sight. -/
import Derived.Test.YtldcmiomfahaoaaKb
namespace Go.Proofs.Ytldcmiomfahaoaa
open Go.RowKit
set_option linter.unusedVariables false

/-- a vector's product with an attitude's three parts, and that once more -/
theorem turn_parts (g W X Y Z x y z c1 c2 c3 d1 d2 d3 : Int) (h1 : c1 = Y * z - Z * y) (h2 : c2 = Z * x - X * z) (h3 : c3 = X * y - Y * x)
    (k1 : d1 = Y * c3 - Z * c2) (k2 : d2 = Z * c1 - X * c3) (k3 : d3 = X * c2 - Y * c1) :
    (g - 2 * (Y * Y + Z * Z)) * x + 2 * (X * Y - W * Z) * y + 2 * (X * Z + W * Y) * z = g * x + 2 * (W * c1) + 2 * d1 ∧
    2 * (X * Y + W * Z) * x + (g - 2 * (X * X + Z * Z)) * y + 2 * (Y * Z - W * X) * z = g * y + 2 * (W * c2) + 2 * d2 ∧
    2 * (X * Z - W * Y) * x + 2 * (Y * Z + W * X) * y + (g - 2 * (X * X + Y * Y)) * z = g * z + 2 * (W * c3) + 2 * d3 := by
  subst h1 h2 h3 k1 k2 k3
  exact ⟨by grind, by grind, by grind⟩
theorem turn_sq (g W X Y Z x y z c1 c2 c3 d1 d2 d3 : Int) (h1 : c1 = Y * z - Z * y) (h2 : c2 = Z * x - X * z) (h3 : c3 = X * y - Y * x)
    (k1 : d1 = Y * c3 - Z * c2) (k2 : d2 = Z * c1 - X * c3) (k3 : d3 = X * c2 - Y * c1) :
    (g * x + 2 * (W * c1) + 2 * d1) * (g * x + 2 * (W * c1) + 2 * d1) + (g * y + 2 * (W * c2) + 2 * d2) * (g * y + 2 * (W * c2) + 2 * d2) + (g * z + 2 * (W * c3) + 2 * d3) * (g * z + 2 * (W * c3) + 2 * d3)
      = g * g * (x * x + y * y + z * z) + 4 * ((W * W + X * X + Y * Y + Z * Z - g) * (c1 * c1 + c2 * c2 + c3 * c3)) := by
  have o1 : x * c1 + y * c2 + z * c3 = 0 := by subst h1 h2 h3; grind
  have o2 : c1 * d1 + c2 * d2 + c3 * d3 = 0 := by subst k1 k2 k3; grind
  have o3 : x * d1 + y * d2 + z * d3 = -(c1 * c1 + c2 * c2 + c3 * c3) := by subst k1 k2 k3 h1 h2 h3; grind
  have o4 : X * c1 + Y * c2 + Z * c3 = 0 := by subst h1 h2 h3; grind
  have o5 : d1 * d1 + d2 * d2 + d3 * d3 = (X * X + Y * Y + Z * Z) * (c1 * c1 + c2 * c2 + c3 * c3) - (X * c1 + Y * c2 + Z * c3) * (X * c1 + Y * c2 + Z * c3) := by subst k1 k2 k3; grind
  rw [o4] at o5
  have e : (g * x + 2 * (W * c1) + 2 * d1) * (g * x + 2 * (W * c1) + 2 * d1) + (g * y + 2 * (W * c2) + 2 * d2) * (g * y + 2 * (W * c2) + 2 * d2) + (g * z + 2 * (W * c3) + 2 * d3) * (g * z + 2 * (W * c3) + 2 * d3)
      = g * g * (x * x + y * y + z * z) + 4 * (W * W) * (c1 * c1 + c2 * c2 + c3 * c3) + 4 * (d1 * d1 + d2 * d2 + d3 * d3) + 4 * g * W * (x * c1 + y * c2 + z * c3) + 4 * g * (x * d1 + y * d2 + z * d3) + 8 * W * (c1 * d1 + c2 * d2 + c3 * d3) := by grind
  rw [e, o1, o2, o3, o5]
  grind
theorem cross_sq (X Y Z x y z c1 c2 c3 : Int) (h1 : c1 = Y * z - Z * y) (h2 : c2 = Z * x - X * z) (h3 : c3 = X * y - Y * x) :
    0 ≤ c1 * c1 + c2 * c2 + c3 * c3 ∧ c1 * c1 + c2 * c2 + c3 * c3 ≤ (X * X + Y * Y + Z * Z) * (x * x + y * y + z * z) := by
  have s1 := sq_nn c1
  have s2 := sq_nn c2
  have s3 := sq_nn c3
  have s4 := sq_nn (X * x + Y * y + Z * z)
  have e : c1 * c1 + c2 * c2 + c3 * c3 = (X * X + Y * Y + Z * Z) * (x * x + y * y + z * z) - (X * x + Y * y + Z * z) * (X * x + Y * y + Z * z) := by subst h1 h2 h3; grind
  omega
theorem turn_back (g W X Y Z x y z c1 c2 c3 d1 d2 d3 p1 p2 p3 : Int) (h1 : c1 = Y * z - Z * y) (h2 : c2 = Z * x - X * z) (h3 : c3 = X * y - Y * x)
    (k1 : d1 = Y * c3 - Z * c2) (k2 : d2 = Z * c1 - X * c3) (k3 : d3 = X * c2 - Y * c1)
    (q1 : p1 = g * x + 2 * (W * c1) + 2 * d1) (q2 : p2 = g * y + 2 * (W * c2) + 2 * d2) (q3 : p3 = g * z + 2 * (W * c3) + 2 * d3) :
    (g - 2 * (Y * Y + Z * Z)) * p1 + 2 * (X * Y + W * Z) * p2 + 2 * (X * Z - W * Y) * p3 = g * g * x + 4 * ((g - (W * W + X * X + Y * Y + Z * Z)) * d1) ∧
    2 * (X * Y - W * Z) * p1 + (g - 2 * (X * X + Z * Z)) * p2 + 2 * (Y * Z + W * X) * p3 = g * g * y + 4 * ((g - (W * W + X * X + Y * Y + Z * Z)) * d2) ∧
    2 * (X * Z + W * Y) * p1 + 2 * (Y * Z - W * X) * p2 + (g - 2 * (X * X + Y * Y)) * p3 = g * g * z + 4 * ((g - (W * W + X * X + Y * Y + Z * Z)) * d3) := by
  subst q1 q2 q3 k1 k2 k3 h1 h2 h3
  exact ⟨by grind, by grind, by grind⟩
/-- lengths, where the squares are near each other -/
theorem len_keep {S p1 p2 p3 w1 w2 w3 D : Int} (S0 : 0 ≤ S) (S1 : S ≤ 58028439341502200385896448) (hp : p1 * p1 + p2 * p2 + p3 * p3 = 340282366920938463463374607431768211456 * S + D)
    (D0 : -(5070602400912917605986812821504 * S) ≤ D) (D1 : D ≤ 5070602400912917605986812821504 * S)
    (r1 : -113373688094443634601984 ≤ 18446744073709551616 * w1 - p1 ∧ 18446744073709551616 * w1 - p1 ≤ 113373688094443634601984)
    (r2 : -113373688094443634601984 ≤ 18446744073709551616 * w2 - p2 ∧ 18446744073709551616 * w2 - p2 ≤ 113373688094443634601984)
    (r3 : -113373688094443634601984 ≤ 18446744073709551616 * w3 - p3 ∧ 18446744073709551616 * w3 - p3 ≤ 113373688094443634601984) :
    w1 * w1 + w2 * w2 + w3 * w3 ≤ 1237940039285380274899124224 ∧ -262144 < rootI (w1 * w1 + w2 * w2 + w3 * w3) - rootI S ∧ rootI (w1 * w1 + w2 * w2 + w3 * w3) - rootI S < 262144 := by
  have R := rootI_is S0
  have lb := rootI_lt (n := S) (r := 8796093022208) (by omega) (by omega)
  obtain ⟨B, hB⟩ : ∃ B, rootI S + 1 = B := ⟨_, rfl⟩
  have R0 := R.s0
  have R1 := R.lo
  have R2 := R.hi
  rw [hB] at R2
  rw [show rootI S = B - 1 by omega] at R0 R1 lb ⊢
  clear R hB
  have bb : B * B ≤ 8796093022208 * B := Int.mul_le_mul_of_nonneg_right (by omega) (by omega)
  have b1 : (B - 1) * (B - 1) = B * B - 2 * B + 1 := by grind
  rw [b1] at R1
  have pb : ∀ {p : Int}, p * p ≤ 340282366920938463463374607431768211456 * S + D → -(36893488147419103232 * B) ≤ p ∧ p ≤ 36893488147419103232 * B := by
    intro p h
    have e : (36893488147419103232 * B) * (36893488147419103232 * B) = 1361129467683753853853498429727072845824 * (B * B) := by grind
    exact abs_of_sq (by omega) (by omega)
  have q1 := sq_nn p1
  have q2 := sq_nn p2
  have q3 := sq_nn p3
  have u1 := pb (p := p1) (by omega)
  have u2 := pb (p := p2) (by omega)
  have u3 := pb (p := p3) (by omega)
  have part : ∀ {p w : Int}, (-(36893488147419103232 * B) ≤ p ∧ p ≤ 36893488147419103232 * B) → (-113373688094443634601984 ≤ 18446744073709551616 * w - p ∧ 18446744073709551616 * w - p ≤ 113373688094443634601984) →
      340282366920938463463374607431768211456 * (w * w) ≤ p * p + 2 * (36893488147419103232 * 113373688094443634601984 * B) + 113373688094443634601984 * 113373688094443634601984 ∧
      p * p - 2 * (36893488147419103232 * 113373688094443634601984 * B) ≤ 340282366920938463463374607431768211456 * (w * w) := by
    intro p w hp hr
    obtain ⟨r, hr'⟩ : ∃ r, 18446744073709551616 * w - p = r := ⟨_, rfl⟩
    rw [hr'] at hr
    have k := mul_abs_le hp.1 hp.2 hr.1 hr.2
    have k2 := mul_abs_le hr.1 hr.2 hr.1 hr.2
    have k3 := sq_nn r
    have e : 340282366920938463463374607431768211456 * (w * w) = p * p + 2 * (p * r) + r * r := by
      have : 18446744073709551616 * w = p + r := by omega
      have e2 : 340282366920938463463374607431768211456 * (w * w) = (18446744073709551616 * w) * (18446744073709551616 * w) := by grind
      rw [e2, this]; grind
    have e3 : 36893488147419103232 * B * 113373688094443634601984 = 36893488147419103232 * 113373688094443634601984 * B := by omega
    omega
  have v1 := part u1 r1
  have v2 := part u2 r2
  have v3 := part u3 r3
  clear part pb u1 u2 u3 r1 r2 r3
  have w0 := sq_nn w1
  have w2' := sq_nn w2
  have w3' := sq_nn w3
  obtain ⟨Q, hQ⟩ : ∃ Q, w1 * w1 + w2 * w2 + w3 * w3 = Q := ⟨_, rfl⟩
  have Q1 : Q ≤ S + 204824 * B + 200000000 := by omega
  have Q2 : S - 204824 * B ≤ Q := by omega
  rw [hQ]
  have Qn : 0 ≤ Q := by omega
  have RQ := rootI_is Qn
  clear v1 v2 v3 hp D0 D1 hQ q1 q2 q3
  have L0 := RQ.s0
  have L1 := RQ.lo
  have L2 := RQ.hi
  generalize rootI Q = L at *
  refine ⟨by omega, ?_, ?_⟩
  · apply Classical.byContradiction
    intro h
    have k : (L + 1) * (L + 1) ≤ (B - 262144) * (B - 262144) := by
      have h1 : (L + 1) * (L + 1) ≤ (L + 1) * (B - 262144) := Int.mul_le_mul_of_nonneg_left (by omega) (by omega)
      have h2 : (L + 1) * (B - 262144) ≤ (B - 262144) * (B - 262144) := Int.mul_le_mul_of_nonneg_right (by omega) (by omega)
      omega
    have e : (B - 262144) * (B - 262144) = B * B - 524288 * B + 68719476736 := by grind
    omega
  · apply Classical.byContradiction
    intro h
    have k : (B + 262143) * (B + 262143) ≤ L * L := by
      have h1 : (B + 262143) * (B + 262143) ≤ (B + 262143) * L := Int.mul_le_mul_of_nonneg_left (by omega) (by omega)
      have h2 : (B + 262143) * L ≤ L * L := Int.mul_le_mul_of_nonneg_right (by omega) (by omega)
      omega
    have e : (B + 262143) * (B + 262143) = B * B + 524286 * B + 68718952449 := by grind
    omega
end Go.Proofs.Ytldcmiomfahaoaa
