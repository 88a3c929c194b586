/- Lengths and their parts, directions and their length: numbers alone. No program in sight. -/
import Derived.Test.YtmdcfnifbkpedaaRa
import Derived.Test.YtmdcfnifbkpedaaGr
namespace Go.Proofs.Ytmdcfnifbkpedaa
open Go.RowKit

theorem mul_abs_le {a b x y : Int} (x0 : -a ≤ x) (x1 : x ≤ a) (y0 : -b ≤ y) (y1 : y ≤ b) : -(a * b) ≤ x * y ∧ x * y ≤ a * b := by
  have h1 : 0 ≤ (a - x) * (b + y) := Int.mul_nonneg (by omega) (by omega)
  have h2 : 0 ≤ (a + x) * (b - y) := Int.mul_nonneg (by omega) (by omega)
  have h3 : 0 ≤ (a - x) * (b - y) := Int.mul_nonneg (by omega) (by omega)
  have h4 : 0 ≤ (a + x) * (b + y) := Int.mul_nonneg (by omega) (by omega)
  have e1 : (a - x) * (b + y) = a * b + a * y - x * b - x * y := by grind
  have e2 : (a + x) * (b - y) = a * b - a * y + x * b - x * y := by grind
  have e3 : (a - x) * (b - y) = a * b - a * y - x * b + x * y := by grind
  have e4 : (a + x) * (b + y) = a * b + a * y + x * b + x * y := by grind
  omega
theorem abs_nat {x : Int} (x0 : -9223372036854775807 ≤ x) (x1 : x ≤ 9223372036854775807) : absF x = x.natAbs ∧ absO x = false := by
  unfold absF absO subF subO
  by_cases p : x < 0
  · rw [if_pos p, if_pos p]
    have c := clip64_of (n := 0 - x) ⟨by omega, by omega⟩
    exact ⟨by rw [c.1]; omega, c.2⟩
  · rw [if_neg p, if_neg p]
    exact ⟨by omega, rfl⟩
theorem nat_sq (x : Int) : (x.natAbs : Int) * x.natAbs = x * x := by
  have := Int.natAbs_mul_self (a := x)
  rw [← this]; simp
structure Parts (x y z n : Int) : Prop where
  fit : lenF (x * x + y * y + z * z) = n
  ok : lenO (x * x + y * y + z * z) = false
  fit2 : lenF (x * x + y * y) ≤ n
  ok2 : lenO (x * x + y * y) = false
  root : IsRoot (x * x + y * y + z * z) n
  px : (x.natAbs : Int) ≤ n
  py : (y.natAbs : Int) ≤ n
  pz : (z.natAbs : Int) ≤ n
  sum : n ≤ x.natAbs + y.natAbs + z.natAbs
theorem sq_60 {x : Int} (x0 : -1152921504606846976 ≤ x) (x1 : x ≤ 1152921504606846976) : x * x ≤ 1329227995784915872903807060280344576 := by
  have := (mul_abs_le x0 x1 x0 x1).2; omega
theorem parts_of {x y z : Int} (x0 : -1152921504606846976 ≤ x) (x1 : x ≤ 1152921504606846976) (y0 : -1152921504606846976 ≤ y) (y1 : y ≤ 1152921504606846976) (z0 : -1152921504606846976 ≤ z) (z1 : z ≤ 1152921504606846976) :
    Parts x y z (lenF (x * x + y * y + z * z)) := by
  have sx := sq_60 x0 x1
  have sy := sq_60 y0 y1
  have sz := sq_60 z0 z1
  have nx := sq_nn x
  have ny := sq_nn y
  have nz := sq_nn z
  have L3 := len_fit (S := x * x + y * y + z * z) (by omega)
  have L2 := len_fit (S := x * x + y * y) (by omega)
  have R := rootI_is (n := x * x + y * y + z * z) (by omega)
  have ex := nat_sq x
  have ey := nat_sq y
  have ez := nat_sq z
  refine ⟨rfl, L3.2.2, ?_, L2.2.2, ?_, ?_, ?_, ?_, ?_⟩
  · rw [L3.2.1, L2.2.1]; exact rootI_le (by omega)
  · rw [L3.2.1]; exact R
  · rw [L3.2.1]; exact rootI_ge (by omega)
  · rw [L3.2.1]; exact rootI_ge (by omega)
  · rw [L3.2.1]; exact rootI_ge (by omega)
  · rw [L3.2.1]
    have X0 : (0 : Int) ≤ x.natAbs := by omega
    have Y0 : (0 : Int) ≤ y.natAbs := by omega
    have Z0 : (0 : Int) ≤ z.natAbs := by omega
    generalize (x.natAbs : Int) = X at *
    generalize (y.natAbs : Int) = Y at *
    generalize (z.natAbs : Int) = Z at *
    have p1 := Int.mul_nonneg X0 Y0
    have p2 := Int.mul_nonneg X0 Z0
    have p3 := Int.mul_nonneg Y0 Z0
    have e : (X + Y + Z + 1) * (X + Y + Z + 1) = X * X + Y * Y + Z * Z + 2 * (X * Y) + 2 * (X * Z) + 2 * (Y * Z) + 2 * X + 2 * Y + 2 * Z + 1 := by grind
    have := rootI_lt (n := x * x + y * y + z * z) (r := X + Y + Z + 1) (by omega) (by omega)
    omega
/-- a part of a direction: within half a part, and no more than 1 -/
theorem unit_part {x n : Int} (n0 : 4294967296 ≤ n) (h0 : -n ≤ x) (h1 : x ≤ n) :
    -4294967296 ≤ divF x n ∧ divF x n ≤ 4294967296 ∧ divO x n = false ∧ -n ≤ 2 * (divF x n * n - x * 4294967296) ∧ 2 * (divF x n * n - x * 4294967296) ≤ n := by
  have K := rq_near (a := x * 4294967296) (b := n) (by omega)
  obtain ⟨X, hX⟩ : ∃ X, rq (x * 4294967296) n = X := ⟨_, rfl⟩
  rw [hX] at K
  have up : X ≤ 4294967296 := by
    apply Classical.byContradiction
    intro h
    have := Int.mul_le_mul_of_nonneg_right (show (4294967297 : Int) ≤ X by omega) (show 0 ≤ n by omega)
    omega
  have lo : -4294967296 ≤ X := by
    apply Classical.byContradiction
    intro h
    have := Int.mul_le_mul_of_nonneg_right (show X ≤ (-4294967297 : Int) by omega) (show 0 ≤ n by omega)
    omega
  have c := clip64_of (n := X) ⟨by omega, by omega⟩
  have e1 : divF x n = X := by unfold divF quoF; rw [if_neg (by omega), hX, c.1]
  have e2 : divO x n = false := by unfold divO quoO; rw [if_neg (by omega), hX, c.2]
  rw [e1]
  exact ⟨lo, up, e2, K.1, K.2⟩
theorem one_sum {x y z n X Y Z : Int} (R : IsRoot (x * x + y * y + z * z) n) (n0 : 4294967296 ≤ n)
    (hx : -n ≤ x ∧ x ≤ n) (hy : -n ≤ y ∧ y ≤ n) (hz : -n ≤ z ∧ z ≤ n)
    (kx : -n ≤ 2 * (X * n - x * 4294967296) ∧ 2 * (X * n - x * 4294967296) ≤ n) (ky : -n ≤ 2 * (Y * n - y * 4294967296) ∧ 2 * (Y * n - y * 4294967296) ≤ n) (kz : -n ≤ 2 * (Z * n - z * 4294967296) ∧ 2 * (Z * n - z * 4294967296) ≤ n) :
    18446744073709551616 - 3 * 4294967296 ≤ X * X + Y * Y + Z * Z ∧ X * X + Y * Y + Z * Z ≤ 18446744073709551616 + 5 * 4294967296 + 1 := by
  have part : ∀ {x X : Int}, (-n ≤ x ∧ x ≤ n) → (-n ≤ 2 * (X * n - x * 4294967296) ∧ 2 * (X * n - x * 4294967296) ≤ n) → ∃ a b : Int, X * X * (n * n) = 18446744073709551616 * (x * x) + 4294967296 * a + b ∧ -(n * n) ≤ a ∧ a ≤ n * n ∧ 0 ≤ b ∧ 4 * b ≤ n * n := by
    intro x X hx kx
    obtain ⟨e, he⟩ : ∃ e, X * n - x * 4294967296 = e := ⟨_, rfl⟩
    rw [he] at kx
    have h1 : X * n = x * 4294967296 + e := by omega
    have b1 := mul_abs_le (a := n) (b := n) hx.1 hx.2 kx.1 kx.2
    have b2 := mul_abs_le (a := n) (b := n) kx.1 kx.2 kx.1 kx.2
    have e3 := sq_nn e
    refine ⟨x * (2 * e), e * e, ?_, b1.1, b1.2, e3, ?_⟩
    · have : X * X * (n * n) = (X * n) * (X * n) := by grind
      rw [this, h1]; grind
    · have : 2 * e * (2 * e) = 4 * (e * e) := by grind
      omega
  obtain ⟨a1, b1, q1, q2, q3, q4, q5⟩ := part hx kx
  obtain ⟨a2, b2, r1, r2, r3, r4, r5⟩ := part hy ky
  obtain ⟨a3, b3, s1, s2, s3, s4, s5⟩ := part hz kz
  have lo := R.lo
  have hi := R.hi
  have e9 : (n + 1) * (n + 1) = n * n + 2 * n + 1 := by grind
  have nn := Int.mul_le_mul_of_nonneg_left n0 (show 0 ≤ n by omega)
  have d : (X * X + Y * Y + Z * Z) * (n * n) = X * X * (n * n) + Y * Y * (n * n) + Z * Z * (n * n) := by grind
  obtain ⟨T, eT⟩ : ∃ T, X * X + Y * Y + Z * Z = T := ⟨_, rfl⟩
  rw [eT] at d ⊢
  obtain ⟨S, eS⟩ : ∃ S, x * x + y * y + z * z = S := ⟨_, rfl⟩
  rw [eS] at lo hi
  have hS : 18446744073709551616 * (x * x) + 18446744073709551616 * (y * y) + 18446744073709551616 * (z * z) = 18446744073709551616 * S := by omega
  generalize n * n = P at *
  have P0 : 0 < P := by omega
  constructor
  · apply Classical.byContradiction
    intro h
    have := Int.mul_le_mul_of_nonneg_right (show T ≤ 18446744073709551616 - 3 * 4294967296 - 1 by omega) (show 0 ≤ P by omega)
    omega
  · apply Classical.byContradiction
    intro h
    have := Int.mul_le_mul_of_nonneg_right (show 18446744073709551616 + 5 * 4294967296 + 2 ≤ T by omega) (show 0 ≤ P by omega)
    omega
structure OneOf (x y z n X Y Z : Int) : Prop where
  ox : divO x n = false
  oy : divO y n = false
  oz : divO z n = false
  ok : lenO (X * X + Y * Y + Z * Z) = false
  lo : 4294967288 ≤ lenF (X * X + Y * Y + Z * Z)
  hi : lenF (X * X + Y * Y + Z * Z) ≤ 4294967304
theorem one_of {x y z n : Int} (P : Parts x y z n) (n0 : 4294967296 ≤ n) : OneOf x y z n (divF x n) (divF y n) (divF z n) := by
  have px := P.px
  have py := P.py
  have pz := P.pz
  have ux := unit_part n0 (x := x) (by omega) (by omega)
  have uy := unit_part n0 (x := y) (by omega) (by omega)
  have uz := unit_part n0 (x := z) (by omega) (by omega)
  have T := one_sum P.root n0 ⟨by omega, by omega⟩ ⟨by omega, by omega⟩ ⟨by omega, by omega⟩ ux.2.2.2 uy.2.2.2 uz.2.2.2
  generalize divF x n = X at *
  generalize divF y n = Y at *
  generalize divF z n = Z at *
  have L := len_fit (S := X * X + Y * Y + Z * Z) (by omega)
  refine ⟨ux.2.2.1, uy.2.2.1, uz.2.2.1, L.2.2, ?_, ?_⟩
  · rw [L.2.1]; exact rootI_ge (by omega)
  · rw [L.2.1]
    have := rootI_lt (n := X * X + Y * Y + Z * Z) (r := 4294967305) (by omega) (by omega)
    omega
end Go.Proofs.Ytmdcfnifbkpedaa
