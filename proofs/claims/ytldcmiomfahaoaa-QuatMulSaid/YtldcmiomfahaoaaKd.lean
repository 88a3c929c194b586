/- QuatKeeps and QuatBack as numbers. No program in sight. -/
import Derived.Test.YtldcmiomfahaoaaKc
namespace Go.Proofs.Ytldcmiomfahaoaa
open Go.RowKit
set_option linter.unusedVariables false

theorem off_bound {p q w z T : Int} (h : p * p + q * q + w * w + z * z ≤ T) : (-T ≤ 2 * (p * q - w * z) ∧ 2 * (p * q - w * z) ≤ T) ∧ (-T ≤ 2 * (p * q + w * z) ∧ 2 * (p * q + w * z) ≤ T) := by
  have a1 := sq_nn (p - q)
  have a2 := sq_nn (p + q)
  have a3 := sq_nn (w - z)
  have a4 := sq_nn (w + z)
  have e1 : (p - q) * (p - q) = p * p + q * q - 2 * (p * q) := by grind
  have e2 : (p + q) * (p + q) = p * p + q * q + 2 * (p * q) := by grind
  have e3 : (w - z) * (w - z) = w * w + z * z - 2 * (w * z) := by grind
  have e4 : (w + z) * (w + z) = w * w + z * z + 2 * (w * z) := by grind
  omega
def V42 (x : Int) : Prop := -4398046511104 ≤ x ∧ x ≤ 4398046511104
/-- what a unit attitude's matrix makes of a vector of 2^10 at most, each way -/
structure Turn (W X Y Z x y z w1 w2 w3 : Int) : Prop where
  f1 : mulO (diagF Y Z) x = false ∧ mulO (offF X Y W Z) y = false ∧ addO (mulF (diagF Y Z) x) (mulF (offF X Y W Z) y) = false ∧ mulO (onF X Z W Y) z = false ∧ addO (addF (mulF (diagF Y Z) x) (mulF (offF X Y W Z) y)) (mulF (onF X Z W Y) z) = false
  f2 : mulO (onF X Y W Z) x = false ∧ mulO (diagF X Z) y = false ∧ addO (mulF (onF X Y W Z) x) (mulF (diagF X Z) y) = false ∧ mulO (offF Y Z W X) z = false ∧ addO (addF (mulF (onF X Y W Z) x) (mulF (diagF X Z) y)) (mulF (offF Y Z W X) z) = false
  f3 : mulO (offF X Z W Y) x = false ∧ mulO (onF Y Z W X) y = false ∧ addO (mulF (offF X Z W Y) x) (mulF (onF Y Z W X) y) = false ∧ mulO (diagF X Y) z = false ∧ addO (addF (mulF (offF X Z W Y) x) (mulF (onF Y Z W X) y)) (mulF (diagF X Y) z) = false
  b1 : -35184372088832 ≤ w1 ∧ w1 ≤ 35184372088832
  b2 : -35184372088832 ≤ w2 ∧ w2 ≤ 35184372088832
  b3 : -35184372088832 ≤ w3 ∧ w3 ≤ 35184372088832
  lx : lenO (x * x + y * y + z * z) = false
  lw : lenO (w1 * w1 + w2 * w2 + w3 * w3) = false
  so : subO (lenF (w1 * w1 + w2 * w2 + w3 * w3)) (lenF (x * x + y * y + z * z)) = false
  ao : absO (subF (lenF (w1 * w1 + w2 * w2 + w3 * w3)) (lenF (x * x + y * y + z * z))) = false
  lt : absF (subF (lenF (w1 * w1 + w2 * w2 + w3 * w3)) (lenF (x * x + y * y + z * z))) < 262144
  near : ∃ p1 p2 p3 c1 c2 c3 d1 d2 d3 : Int, (c1 = Y * z - Z * y ∧ c2 = Z * x - X * z ∧ c3 = X * y - Y * x) ∧ (d1 = Y * c3 - Z * c2 ∧ d2 = Z * c1 - X * c3 ∧ d3 = X * c2 - Y * c1) ∧
    (p1 = 18446744073709551616 * x + 2 * (W * c1) + 2 * d1 ∧ p2 = 18446744073709551616 * y + 2 * (W * c2) + 2 * d2 ∧ p3 = 18446744073709551616 * z + 2 * (W * c3) + 2 * d3) ∧
    (-113373688094443634601984 ≤ 18446744073709551616 * w1 - p1 ∧ 18446744073709551616 * w1 - p1 ≤ 113373688094443634601984) ∧
    (-113373688094443634601984 ≤ 18446744073709551616 * w2 - p2 ∧ 18446744073709551616 * w2 - p2 ≤ 113373688094443634601984) ∧
    (-113373688094443634601984 ≤ 18446744073709551616 * w3 - p3 ∧ 18446744073709551616 * w3 - p3 ≤ 113373688094443634601984)
theorem sq_42 {x : Int} (h : V42 x) : x * x ≤ 19342813113834066795298816 := by
  have := (mul_abs_le h.1 h.2 h.1 h.2).2; omega
theorem turn_of {W X Y Z x y z : Int} (t : Att W X Y Z) (hx : V42 x) (hy : V42 y) (hz : V42 z) :
    Turn W X Y Z x y z (dotF (diagF Y Z) (offF X Y W Z) (onF X Z W Y) x y z) (dotF (onF X Y W Z) (diagF X Z) (offF Y Z W X) x y z) (dotF (offF X Z W Y) (onF Y Z W X) (diagF X Y) x y z) := by
  obtain ⟨uW, uX, uY, uZ⟩ := t.un
  have R1 := row_dot (A := 4398046511104) (diag_of uY uZ).1 (off_of uX uY uW uZ).1 (on_of uX uZ uW uY).1 (by omega) hx hy hz
  have R2 := row_dot (A := 4398046511104) (on_of uX uY uW uZ).1 (diag_of uX uZ).1 (off_of uY uZ uW uX).1 (by omega) hx hy hz
  have R3 := row_dot (A := 4398046511104) (off_of uX uZ uW uY).1 (on_of uY uZ uW uX).1 (diag_of uX uY).1 (by omega) hx hy hz
  obtain ⟨c1, h1⟩ : ∃ c, c = Y * z - Z * y := ⟨_, rfl⟩
  obtain ⟨c2, h2⟩ : ∃ c, c = Z * x - X * z := ⟨_, rfl⟩
  obtain ⟨c3, h3⟩ : ∃ c, c = X * y - Y * x := ⟨_, rfl⟩
  obtain ⟨d1, k1⟩ : ∃ c, c = Y * c3 - Z * c2 := ⟨_, rfl⟩
  obtain ⟨d2, k2⟩ : ∃ c, c = Z * c1 - X * c3 := ⟨_, rfl⟩
  obtain ⟨d3, k3⟩ : ∃ c, c = X * c2 - Y * c1 := ⟨_, rfl⟩
  have TP := turn_parts 18446744073709551616 W X Y Z x y z c1 c2 c3 d1 d2 d3 h1 h2 h3 k1 k2 k3
  have TS := turn_sq 18446744073709551616 W X Y Z x y z c1 c2 c3 d1 d2 d3 h1 h2 h3 k1 k2 k3
  have CS := cross_sq X Y Z x y z c1 c2 c3 h1 h2 h3
  obtain ⟨f1, a1, b1, _, _⟩ := R1
  obtain ⟨f2, a2, b2, _, _⟩ := R2
  obtain ⟨f3, a3, b3, _, _⟩ := R3
  rw [TP.1] at a1 b1
  rw [TP.2.1] at a2 b2
  rw [TP.2.2] at a3 b3
  generalize dotF (diagF Y Z) (offF X Y W Z) (onF X Z W Y) x y z = w1 at *
  generalize dotF (onF X Y W Z) (diagF X Z) (offF Y Z W X) x y z = w2 at *
  generalize dotF (offF X Z W Y) (onF Y Z W X) (diagF X Y) x y z = w3 at *
  have sx := sq_42 hx
  have sy := sq_42 hy
  have sz := sq_42 hz
  have nx := sq_nn x
  have ny := sq_nn y
  have nz := sq_nn z
  have sW := sq_nn W
  have tl := t.lo
  have th := t.hi
  obtain ⟨p1, e1⟩ : ∃ p, p = 18446744073709551616 * x + 2 * (W * c1) + 2 * d1 := ⟨_, rfl⟩
  obtain ⟨p2, e2⟩ : ∃ p, p = 18446744073709551616 * y + 2 * (W * c2) + 2 * d2 := ⟨_, rfl⟩
  obtain ⟨p3, e3⟩ : ∃ p, p = 18446744073709551616 * z + 2 * (W * c3) + 2 * d3 := ⟨_, rfl⟩
  rw [← e1, ← e2, ← e3] at TS
  rw [← e1] at a1 b1
  rw [← e2] at a2 b2
  rw [← e3] at a3 b3
  have near : _ := (⟨p1, p2, p3, c1, c2, c3, d1, d2, d3, ⟨h1, h2, h3⟩, ⟨k1, k2, k3⟩, ⟨e1, e2, e3⟩, ⟨by omega, by omega⟩, ⟨by omega, by omega⟩, ⟨by omega, by omega⟩⟩ :
    ∃ p1 p2 p3 c1 c2 c3 d1 d2 d3 : Int, (c1 = Y * z - Z * y ∧ c2 = Z * x - X * z ∧ c3 = X * y - Y * x) ∧ (d1 = Y * c3 - Z * c2 ∧ d2 = Z * c1 - X * c3 ∧ d3 = X * c2 - Y * c1) ∧
    (p1 = 18446744073709551616 * x + 2 * (W * c1) + 2 * d1 ∧ p2 = 18446744073709551616 * y + 2 * (W * c2) + 2 * d2 ∧ p3 = 18446744073709551616 * z + 2 * (W * c3) + 2 * d3) ∧
    (-113373688094443634601984 ≤ 18446744073709551616 * w1 - p1 ∧ 18446744073709551616 * w1 - p1 ≤ 113373688094443634601984) ∧
    (-113373688094443634601984 ≤ 18446744073709551616 * w2 - p2 ∧ 18446744073709551616 * w2 - p2 ≤ 113373688094443634601984) ∧
    (-113373688094443634601984 ≤ 18446744073709551616 * w3 - p3 ∧ 18446744073709551616 * w3 - p3 ≤ 113373688094443634601984))
  clear TP h1 h2 h3 k1 k2 k3 e1 e2 e3
  obtain ⟨S, hS⟩ : ∃ S, x * x + y * y + z * z = S := ⟨_, rfl⟩
  obtain ⟨C, hC⟩ : ∃ C, c1 * c1 + c2 * c2 + c3 * c3 = C := ⟨_, rfl⟩
  obtain ⟨V, hV⟩ : ∃ V, X * X + Y * Y + Z * Z = V := ⟨_, rfl⟩
  have hT : W * W + X * X + Y * Y + Z * Z - 18446744073709551616 = W * W + V - 18446744073709551616 := by omega
  rw [hS, hC, hT] at TS
  rw [hS, hC, hV] at CS
  have VS := Int.mul_le_mul_of_nonneg_right (show V ≤ 36893488147419103232 by omega) (show 0 ≤ S by omega)
  have DC := mul_abs_le (a := 34359738368) (b := 36893488147419103232 * S) (x := W * W + V - 18446744073709551616) (y := C) (by omega) (by omega) (by omega) (by omega)
  have dd : 34359738368 * (36893488147419103232 * S) = 1267650600228229401496703205376 * S := by omega
  rw [dd] at DC
  have K := len_keep (S := S) (D := 4 * ((W * W + V - 18446744073709551616) * C)) (by omega) (by omega) (by omega) (by omega) (by omega) ⟨by omega, by omega⟩ ⟨by omega, by omega⟩ ⟨by omega, by omega⟩ (p1 := p1) (p2 := p2) (p3 := p3) (w1 := w1) (w2 := w2) (w3 := w3)
  have n1 := sq_nn w1
  have n2 := sq_nn w2
  have n3 := sq_nn w3
  have L1 := len_fit (S := S) (by omega)
  have L2 := len_fit (S := w1 * w1 + w2 * w2 + w3 * w3) (by omega)
  have q1 := abs_of_sq (a := w1) (b := 35184372088832) (by omega) (by omega)
  have q2 := abs_of_sq (a := w2) (b := 35184372088832) (by omega) (by omega)
  have q3 := abs_of_sq (a := w3) (b := 35184372088832) (by omega) (by omega)
  have z1 := rootI_nn S
  have z2 := rootI_nn (w1 * w1 + w2 * w2 + w3 * w3)
  have D := sub_small (a := rootI (w1 * w1 + w2 * w2 + w3 * w3)) (b := rootI S) (by omega) (by omega)
  have AN := abs_nat (x := rootI (w1 * w1 + w2 * w2 + w3 * w3) - rootI S) (by omega) (by omega)
  refine ⟨f1, f2, f3, q1, q2, q3, by rw [hS]; exact L1.2.2, L2.2.2, by rw [hS, L1.2.1, L2.2.1]; exact D.2, by rw [hS, L1.2.1, L2.2.1, D.1]; exact AN.2, by rw [hS, L1.2.1, L2.2.1, D.1, AN.1]; omega, near⟩
/-- near a vector's part behind turning there and back -/
theorem back_part {P1 P2 P3 r1 r2 r3 w1 w2 w3 p1 p2 p3 x d t : Int} (E1 : Ent P1 r1) (E2 : Ent P2 r2) (E3 : Ent P3 r3)
    (b1 : -35184372088832 ≤ w1 ∧ w1 ≤ 35184372088832) (b2 : -35184372088832 ≤ w2 ∧ w2 ≤ 35184372088832) (b3 : -35184372088832 ≤ w3 ∧ w3 ≤ 35184372088832)
    (n1 : -113373688094443634601984 ≤ 18446744073709551616 * w1 - p1 ∧ 18446744073709551616 * w1 - p1 ≤ 113373688094443634601984)
    (n2 : -113373688094443634601984 ≤ 18446744073709551616 * w2 - p2 ∧ 18446744073709551616 * w2 - p2 ≤ 113373688094443634601984)
    (n3 : -113373688094443634601984 ≤ 18446744073709551616 * w3 - p3 ∧ 18446744073709551616 * w3 - p3 ≤ 113373688094443634601984)
    (h1 : -36893488147419103232 ≤ P1 ∧ P1 ≤ 36893488147419103232) (h2 : -36893488147419103232 ≤ P2 ∧ P2 ≤ 36893488147419103232) (h3 : -36893488147419103232 ≤ P3 ∧ P3 ≤ 36893488147419103232)
    (hd : P1 * p1 + P2 * p2 + P3 * p3 = 340282366920938463463374607431768211456 * x + 4 * (t * d)) (ht : -34359738368 ≤ t ∧ t ≤ 34359738368)
    (d0 : -649037107316853453566312041152512 ≤ d ∧ d ≤ 649037107316853453566312041152512) :
    -1048576 ≤ dotF r1 r2 r3 w1 w2 w3 - x ∧ dotF r1 r2 r3 w1 w2 w3 - x ≤ 1048576 := by
  have R := row_dot (A := 35184372088832) E1 E2 E3 (by omega) b1 b2 b3
  obtain ⟨_, a, b, _, _⟩ := R
  generalize dotF r1 r2 r3 w1 w2 w3 = B at *
  have m1 := mul_abs_le h1.1 h1.2 n1.1 n1.2
  have m2 := mul_abs_le h2.1 h2.2 n2.1 n2.2
  have m3 := mul_abs_le h3.1 h3.2 n3.1 n3.2
  have m4 := mul_abs_le ht.1 ht.2 d0.1 d0.2
  have e1 : P1 * (18446744073709551616 * w1 - p1) = 18446744073709551616 * (P1 * w1) - P1 * p1 := by grind
  have e2 : P2 * (18446744073709551616 * w2 - p2) = 18446744073709551616 * (P2 * w2) - P2 * p2 := by grind
  have e3 : P3 * (18446744073709551616 * w3 - p3) = 18446744073709551616 * (P3 * w3) - P3 * p3 := by grind
  rw [e1] at m1
  rw [e2] at m2
  rw [e3] at m3
  generalize P1 * w1 = y1 at *
  generalize P2 * w2 = y2 at *
  generalize P3 * w3 = y3 at *
  generalize P1 * p1 = z1 at *
  generalize P2 * p2 = z2 at *
  generalize P3 * p3 = z3 at *
  generalize t * d = td at *
  omega
/-- .. and back -/
structure Undone (W X Y Z x y z w1 w2 w3 : Int) : Prop where
  g1 : mulO (diagF Y Z) w1 = false ∧ mulO (onF X Y W Z) w2 = false ∧ addO (mulF (diagF Y Z) w1) (mulF (onF X Y W Z) w2) = false ∧ mulO (offF X Z W Y) w3 = false ∧ addO (addF (mulF (diagF Y Z) w1) (mulF (onF X Y W Z) w2)) (mulF (offF X Z W Y) w3) = false
  g2 : mulO (offF X Y W Z) w1 = false ∧ mulO (diagF X Z) w2 = false ∧ addO (mulF (offF X Y W Z) w1) (mulF (diagF X Z) w2) = false ∧ mulO (onF Y Z W X) w3 = false ∧ addO (addF (mulF (offF X Y W Z) w1) (mulF (diagF X Z) w2)) (mulF (onF Y Z W X) w3) = false
  g3 : mulO (onF X Z W Y) w1 = false ∧ mulO (offF Y Z W X) w2 = false ∧ addO (mulF (onF X Z W Y) w1) (mulF (offF Y Z W X) w2) = false ∧ mulO (diagF X Y) w3 = false ∧ addO (addF (mulF (onF X Z W Y) w1) (mulF (offF Y Z W X) w2)) (mulF (diagF X Y) w3) = false
  s1 : subO (dotF (diagF Y Z) (onF X Y W Z) (offF X Z W Y) w1 w2 w3) x = false
  s2 : subO (dotF (offF X Y W Z) (diagF X Z) (onF Y Z W X) w1 w2 w3) y = false
  s3 : subO (dotF (onF X Z W Y) (offF Y Z W X) (diagF X Y) w1 w2 w3) z = false
  c1 : -1048576 ≤ subF (dotF (diagF Y Z) (onF X Y W Z) (offF X Z W Y) w1 w2 w3) x ∧ subF (dotF (diagF Y Z) (onF X Y W Z) (offF X Z W Y) w1 w2 w3) x ≤ 1048576
  c2 : -1048576 ≤ subF (dotF (offF X Y W Z) (diagF X Z) (onF Y Z W X) w1 w2 w3) y ∧ subF (dotF (offF X Y W Z) (diagF X Z) (onF Y Z W X) w1 w2 w3) y ≤ 1048576
  c3 : -1048576 ≤ subF (dotF (onF X Z W Y) (offF Y Z W X) (diagF X Y) w1 w2 w3) z ∧ subF (dotF (onF X Z W Y) (offF Y Z W X) (diagF X Y) w1 w2 w3) z ≤ 1048576
theorem undone_of {W X Y Z x y z w1 w2 w3 : Int} (t : Att W X Y Z) (hx : V42 x) (hy : V42 y) (hz : V42 z) (T : Turn W X Y Z x y z w1 w2 w3) : Undone W X Y Z x y z w1 w2 w3 := by
  obtain ⟨uW, uX, uY, uZ⟩ := t.un
  obtain ⟨p1, p2, p3, c1, c2, c3, d1, d2, d3, ⟨h1, h2, h3⟩, ⟨k1, k2, k3⟩, ⟨e1, e2, e3⟩, n1, n2, n3⟩ := T.near
  have TB := turn_back 18446744073709551616 W X Y Z x y z c1 c2 c3 d1 d2 d3 p1 p2 p3 h1 h2 h3 k1 k2 k3 e1 e2 e3
  have E11 := (diag_of uY uZ).1
  have E12 := (off_of uX uY uW uZ).1
  have E13 := (on_of uX uZ uW uY).1
  have E21 := (on_of uX uY uW uZ).1
  have E22 := (diag_of uX uZ).1
  have E23 := (off_of uY uZ uW uX).1
  have E31 := (off_of uX uZ uW uY).1
  have E32 := (on_of uY uZ uW uX).1
  have E33 := (diag_of uX uY).1
  have R1 := (row_dot (A := 35184372088832) E11 E21 E31 (by omega) T.b1 T.b2 T.b3).1
  have R2 := (row_dot (A := 35184372088832) E12 E22 E32 (by omega) T.b1 T.b2 T.b3).1
  have R3 := (row_dot (A := 35184372088832) E13 E23 E33 (by omega) T.b1 T.b2 T.b3).1
  have bc : ∀ {a b u v c : Int}, Un a → Un b → V42 u → V42 v → c = a * u - b * v → -37778931898141533798400 ≤ c ∧ c ≤ 37778931898141533798400 := by
    intro a b u v c ha hb hu hv hc
    unfold Un V42 at *
    have m1 := mul_abs_le ha.1 ha.2 hu.1 hu.2
    have m2 := mul_abs_le hb.1 hb.2 hv.1 hv.2
    omega
  have bd : ∀ {a b u v c : Int}, Un a → Un b → (-37778931898141533798400 ≤ u ∧ u ≤ 37778931898141533798400) → (-37778931898141533798400 ≤ v ∧ v ≤ 37778931898141533798400) → c = a * u - b * v → -649037107316853453566312041152512 ≤ c ∧ c ≤ 649037107316853453566312041152512 := by
    intro a b u v c ha hb hu hv hc
    unfold Un at *
    have m1 := mul_abs_le (a := 4294967300) (b := 37778931898141533798400) ha.1 ha.2 (by omega) hu.2
    have m2 := mul_abs_le (a := 4294967300) (b := 37778931898141533798400) hb.1 hb.2 (by omega) hv.2
    omega
  have g1 := bc uY uZ hz hy h1
  have g2 := bc uZ uX hx hz h2
  have g3 := bc uX uY hy hx h3
  have D1 := bd uY uZ g3 g2 k1
  have D2 := bd uZ uX g1 g3 k2
  have D3 := bd uX uY g2 g1 k3
  clear bc bd g1 g2 g3
  have th := t.hi
  have tl := t.lo
  have sW := sq_nn W
  have sX := sq_nn X
  have sY := sq_nn Y
  have sZ := sq_nn Z
  have B1 := off_bound (p := X) (q := Y) (w := W) (z := Z) (T := 36893488147419103232) (by omega)
  have B2 := off_bound (p := X) (q := Z) (w := W) (z := Y) (T := 36893488147419103232) (by omega)
  have B3 := off_bound (p := Y) (q := Z) (w := W) (z := X) (T := 36893488147419103232) (by omega)
  have ht : -34359738368 ≤ 18446744073709551616 - (W * W + X * X + Y * Y + Z * Z) ∧ 18446744073709551616 - (W * W + X * X + Y * Y + Z * Z) ≤ 34359738368 := by omega
  have Q1 := back_part E11 E21 E31 T.b1 T.b2 T.b3 n1 n2 n3 (by omega) B1.2 B2.1 TB.1 ht D1
  have Q2 := back_part E12 E22 E32 T.b1 T.b2 T.b3 n1 n2 n3 B1.1 (by omega) B3.2 TB.2.1 ht D2
  have Q3 := back_part E13 E23 E33 T.b1 T.b2 T.b3 n1 n2 n3 B2.2 B3.1 (by omega) TB.2.2 ht D3
  have S1 := sub_small (a := dotF (diagF Y Z) (onF X Y W Z) (offF X Z W Y) w1 w2 w3) (b := x) (by omega) (by omega)
  have S2 := sub_small (a := dotF (offF X Y W Z) (diagF X Z) (onF Y Z W X) w1 w2 w3) (b := y) (by omega) (by omega)
  have S3 := sub_small (a := dotF (onF X Z W Y) (offF Y Z W X) (diagF X Y) w1 w2 w3) (b := z) (by omega) (by omega)
  exact ⟨R1, R2, R3, S1.2, S2.2, S3.2, by rw [S1.1]; exact Q1, by rw [S2.1]; exact Q2, by rw [S3.1]; exact Q3⟩
theorem clamp_in {x s : Int} (h0 : -s ≤ x) (h1 : x ≤ s) : (if x < -s then -s else if s < x then s else x) = x := by
  rw [if_neg (by omega), if_neg (by omega)]
end Go.Proofs.Ytldcmiomfahaoaa
