/- Numbers of package fx: a product by its halves. -/
import Derived.Test.YtbigjdhehaihoaaGm
import Derived.Test.YtbigjdhehaihoaaFm
namespace Go.Proofs.Ytbigjdhehaihoaa
open Go.RowKit

theorem halves_mul {X Y x1 x0 y1 y0 A B C D : Int} (hX : X = x1 * 4294967296 + x0) (hY : Y = y1 * 4294967296 + y0) (hA : x1 * y1 = A) (hB : x1 * y0 = B) (hC : x0 * y1 = C) (hD : x0 * y0 = D) :
    X * Y = (A * 4294967296 + B + C) * 4294967296 + D := by
  subst hX hY hA hB hC hD
  grind
theorem rq_mul (x y : Int) : rq (x * y) 4294967296 = sgnW (decide (x < 0) != decide (y < 0)) (rndN ((x.natAbs : Int) * y.natAbs) 4294967296) := by
  have e : ((x * y).natAbs : Int) = (x.natAbs : Int) * y.natAbs := by rw [Int.natAbs_mul]; push_cast; rfl
  unfold rq
  rw [e]
  have z : x * y = 0 → rndN ((x.natAbs : Int) * y.natAbs) 4294967296 = 0 := by
    intro h; rw [← e, h]; decide
  have e2 : ((4294967296 : Int).natAbs : Int) = 4294967296 := by decide
  rw [e2]
  generalize rndN ((x.natAbs : Int) * y.natAbs) 4294967296 = R at *
  unfold sgnW
  by_cases p : x < 0 <;> by_cases q : y < 0
  · have : ¬ x * y < 0 := by have := Int.mul_pos_of_neg_of_neg p q; omega
    simp [p, q, this]
  · by_cases yz : y = 0
    · have h0 : R = 0 := z (by rw [yz, Int.mul_zero])
      simp [h0]
    · have : x * y < 0 := Int.mul_neg_of_neg_of_pos p (by omega)
      simp [p, q, this]
  · by_cases xz : x = 0
    · have h0 : R = 0 := z (by rw [xz, Int.zero_mul])
      simp [h0]
    · have : x * y < 0 := Int.mul_neg_of_pos_of_neg (by omega) q
      simp [p, q, this]
  · have : ¬ x * y < 0 := by have := Int.mul_nonneg (show 0 ≤ x by omega) (show 0 ≤ y by omega); omega
    simp [p, q, this]
theorem mulF_eq (x y : Int) : mulF x y = clip64 (sgnW (decide (x < 0) != decide (y < 0)) (rndN ((x.natAbs : Int) * y.natAbs) 4294967296)) ∧ mulO x y = out64 (sgnW (decide (x < 0) != decide (y < 0)) (rndN ((x.natAbs : Int) * y.natAbs) 4294967296)) := by
  unfold mulF mulO quoF quoO
  rw [if_neg (by decide), if_neg (by decide), rq_mul]
  exact ⟨rfl, rfl⟩
/-- the factors' halves, the products of them, what they bound -/
structure Halves (X Y x1 x0 y1 y0 A B C D R : Int) : Prop where
  x1' : 0 ≤ x1 ∧ x1 ≤ 2147483648
  x0' : 0 ≤ x0 ∧ x0 ≤ 4294967295
  y1' : 0 ≤ y1 ∧ y1 ≤ 2147483648
  y0' : 0 ≤ y0 ∧ y0 ≤ 4294967295
  a : x1 * y1 = A
  b : x1 * y0 = B
  c : x0 * y1 = C
  d : x0 * y0 = D
  a' : 0 ≤ A ∧ A ≤ 4611686018427387904
  b' : 0 ≤ B ∧ B ≤ 9223372036854775808
  c' : 0 ≤ C ∧ C ≤ 9223372036854775808
  d' : 0 ≤ D ∧ D ≤ 18446744065119617025
  r : R = if 4294967296 < 2 * (D % 4294967296) ∨ 2 * (D % 4294967296) = 4294967296 ∧ (A * 4294967296 + B + C + D / 4294967296) % 2 = 1 then A * 4294967296 + B + C + D / 4294967296 + 1 else A * 4294967296 + B + C + D / 4294967296
theorem prod_bd {x y m n : Int} (x0 : 0 ≤ x) (xm : x ≤ m) (y0 : 0 ≤ y) (yn : y ≤ n) : 0 ≤ x * y ∧ x * y ≤ m * n :=
  ⟨Int.mul_nonneg x0 y0, Int.mul_le_mul xm yn y0 (by omega)⟩
theorem halves_of {X Y : Int} (X0 : 0 ≤ X) (X1 : X ≤ 9223372036854775808) (Y0 : 0 ≤ Y) (Y1 : Y ≤ 9223372036854775808) :
    ∃ x1 x0 y1 y0 A B C D R : Int, X / 4294967296 = x1 ∧ X % 4294967296 = x0 ∧ Y / 4294967296 = y1 ∧ Y % 4294967296 = y0 ∧ rndN (X * Y) 4294967296 = R ∧ Halves X Y x1 x0 y1 y0 A B C D R := by
  refine ⟨X / 4294967296, X % 4294967296, Y / 4294967296, Y % 4294967296, _, _, _, _, _, rfl, rfl, rfl, rfl, rfl, ⟨by omega, by omega, by omega, by omega, rfl, rfl, rfl, rfl, ?_, ?_, ?_, ?_, ?_⟩⟩
  · have := prod_bd (x := X / 4294967296) (y := Y / 4294967296) (m := 2147483648) (n := 2147483648) (by omega) (by omega) (by omega) (by omega); omega
  · have := prod_bd (x := X / 4294967296) (y := Y % 4294967296) (m := 2147483648) (n := 4294967295) (by omega) (by omega) (by omega) (by omega); omega
  · have := prod_bd (x := X % 4294967296) (y := Y / 4294967296) (m := 4294967295) (n := 2147483648) (by omega) (by omega) (by omega) (by omega); omega
  · have := prod_bd (x := X % 4294967296) (y := Y % 4294967296) (m := 4294967295) (n := 4294967295) (by omega) (by omega) (by omega) (by omega); omega
  · have e := halves_mul (X := X) (Y := Y) (x1 := X / 4294967296) (x0 := X % 4294967296) (y1 := Y / 4294967296) (y0 := Y % 4294967296) (by omega) (by omega) rfl rfl rfl rfl
    generalize X / 4294967296 * (Y / 4294967296) = A at *
    generalize X / 4294967296 * (Y % 4294967296) = B at *
    generalize X % 4294967296 * (Y / 4294967296) = C at *
    generalize X % 4294967296 * (Y % 4294967296) = D at *
    unfold rndN
    rw [e]
    have e1 : ((A * 4294967296 + B + C) * 4294967296 + D) / 4294967296 = A * 4294967296 + B + C + D / 4294967296 := by omega
    have e2 : ((A * 4294967296 + B + C) * 4294967296 + D) % 4294967296 = D % 4294967296 := by omega
    rw [e1, e2]
end Go.Proofs.Ytbigjdhehaihoaa
