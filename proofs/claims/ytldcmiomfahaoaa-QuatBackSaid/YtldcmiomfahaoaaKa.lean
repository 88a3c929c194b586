/- Attitudes as numbers: a unit attitude's sum of squares, a matrix' entries, products by its rows. No program in sight. -/
import Derived.Test.YtldcmiomfahaoaaJb
namespace Go.Proofs.Ytldcmiomfahaoaa
open Go.RowKit
set_option linter.unusedVariables false

/-- a number's size, by a number that is not negative -/
theorem size_of (q : Int) : ∃ p : Int, 0 ≤ p ∧ -p ≤ q ∧ q ≤ p ∧ p * p = q * q := by
  rcases Int.le_total 0 q with h | h
  · exact ⟨q, h, by omega, by omega, rfl⟩
  · exact ⟨-q, by omega, by omega, by omega, by grind⟩
theorem le_of_sq {a b : Int} (b0 : 0 ≤ b) (h : a * a ≤ b * b) : a ≤ b := by
  apply Classical.byContradiction
  intro k
  have := sq_lt b0 (show b < a by omega)
  omega
theorem abs_of_sq {a b : Int} (b0 : 0 ≤ b) (h : a * a ≤ b * b) : -b ≤ a ∧ a ≤ b := by
  have h1 := le_of_sq b0 h
  have h2 := le_of_sq (a := -a) b0 (by rw [show -a * -a = a * a by grind]; exact h)
  omega
theorem lt_of_sq {a b : Int} (b0 : 0 ≤ b) (h : a * a < b * b) : a < b := by
  apply Classical.byContradiction
  intro k
  have : b * b ≤ a * a := by
    have h1 : b * b ≤ b * a := Int.mul_le_mul_of_nonneg_left (by omega) b0
    have h2 : b * a ≤ a * a := Int.mul_le_mul_of_nonneg_right (by omega) (by omega)
    omega
  omega
/-- four numbers' sizes together, by their squares -/
theorem four_sizes {a b c d n : Int} (n0 : 0 ≤ n) (h : a * a + b * b + c * c + d * d < (n + 1) * (n + 1)) : a + b + c + d ≤ 2 * n + 1 := by
  have e : (a + b + c + d) * (a + b + c + d) = 4 * (a * a + b * b + c * c + d * d) - ((a - b) * (a - b) + (a - c) * (a - c) + (a - d) * (a - d) + (b - c) * (b - c) + (b - d) * (b - d) + (c - d) * (c - d)) := by grind
  have s1 := sq_nn (a - b)
  have s2 := sq_nn (a - c)
  have s3 := sq_nn (a - d)
  have s4 := sq_nn (b - c)
  have s5 := sq_nn (b - d)
  have s6 := sq_nn (c - d)
  have e2 : (2 * n + 2) * (2 * n + 2) = 4 * ((n + 1) * (n + 1)) := by grind
  have := lt_of_sq (a := a + b + c + d) (b := 2 * n + 2) (by omega) (by omega)
  omega
/-- half of what is rounded: so near is a part to its quotient -/
def Near (x n X : Int) : Prop := -n ≤ 2 * (X * n - x * 4294967296) ∧ 2 * (X * n - x * 4294967296) ≤ n
/-- a unit attitude's squares are 2^64 together, but for 2^35 -/
theorem unit_sum {a b c d n A B C D : Int} (R : IsRoot (a * a + b * b + c * c + d * d) n) (n0 : 2147483648 ≤ n)
    (ka : Near a n A) (kb : Near b n B) (kc : Near c n C) (kd : Near d n D) :
    18446744073709551616 - 34359738368 ≤ A * A + B * B + C * C + D * D ∧ A * A + B * B + C * C + D * D ≤ 18446744073709551616 + 34359738368 := by
  have part : ∀ {x X : Int}, Near x n X → ∃ p u v : Int, 4 * (X * X * (n * n)) = 4 * 18446744073709551616 * (x * x) + 4 * 4294967296 * u + v ∧ 0 ≤ p ∧ p * p = x * x ∧ -(p * n) ≤ u ∧ u ≤ p * n ∧ 0 ≤ v ∧ v ≤ n * n := by
    intro x X k
    unfold Near at k
    obtain ⟨e, he⟩ : ∃ e, 2 * (X * n - x * 4294967296) = e := ⟨_, rfl⟩
    rw [he] at k
    have h1 : 2 * (X * n) = 2 * (x * 4294967296) + e := by omega
    obtain ⟨p, p0, p1, p2, p3⟩ := size_of x
    have b1 := mul_abs_le p1 p2 k.1 k.2
    have b2 := mul_abs_le k.1 k.2 k.1 k.2
    refine ⟨p, x * e, e * e, ?_, p0, p3, b1.1, b1.2, sq_nn e, b2.2⟩
    have : 4 * (X * X * (n * n)) = (2 * (X * n)) * (2 * (X * n)) := by grind
    rw [this, h1]; grind
  obtain ⟨pa, ua, va, ea, a0, a1, a2, a3, a4, a5⟩ := part ka
  obtain ⟨pb, ub, vb, eb, b0, b1, b2, b3, b4, b5⟩ := part kb
  obtain ⟨pc, uc, vc, ec, c0, c1, c2, c3, c4, c5⟩ := part kc
  obtain ⟨pd, ud, vd, ed, d0, d1, d2, d3, d4, d5⟩ := part kd
  have lo := R.lo
  have hi := R.hi
  have s4 := four_sizes (a := pa) (b := pb) (c := pc) (d := pd) (n := n) (by omega) (by omega)
  have m4 := Int.mul_le_mul_of_nonneg_right s4 (show 0 ≤ n by omega)
  have x4 : (pa + pb + pc + pd) * n = pa * n + pb * n + pc * n + pd * n := by grind
  have y4 : (2 * n + 1) * n = 2 * (n * n) + n := by grind
  have e9 : (n + 1) * (n + 1) = n * n + 2 * n + 1 := by grind
  have nn := Int.mul_le_mul_of_nonneg_left n0 (show 0 ≤ n by omega)
  have dd : (A * A + B * B + C * C + D * D) * (n * n) = A * A * (n * n) + B * B * (n * n) + C * C * (n * n) + D * D * (n * n) := by grind
  obtain ⟨T, eT⟩ : ∃ T, A * A + B * B + C * C + D * D = T := ⟨_, rfl⟩
  rw [eT] at dd ⊢
  clear ka kb kc kd part R eT
  generalize A * A * (n * n) = A2 at *
  generalize B * B * (n * n) = B2 at *
  generalize C * C * (n * n) = C2 at *
  generalize D * D * (n * n) = D2 at *
  generalize a * a = aa at *
  generalize b * b = bb at *
  generalize c * c = cc at *
  generalize d * d = dd' at *
  generalize pa * n = pan at *
  generalize pb * n = pbn at *
  generalize pc * n = pcn at *
  generalize pd * n = pdn at *
  constructor
  · apply Classical.byContradiction
    intro h
    have k := Int.mul_le_mul_of_nonneg_right (show T ≤ 18446744073709551616 - 34359738368 - 1 by omega) (show 0 ≤ n * n by omega)
    generalize n * n = N at *
    generalize T * N = TN at *
    omega
  · apply Classical.byContradiction
    intro h
    have k := Int.mul_le_mul_of_nonneg_right (show 18446744073709551616 + 34359738368 + 1 ≤ T by omega) (show 0 ≤ n * n by omega)
    generalize n * n = N at *
    generalize T * N = TN at *
    omega
end Go.Proofs.Ytldcmiomfahaoaa
