/- Numbers of package fx: a rounded quotient is near, and keeps an order. -/
import Derived.Test.YtmdcfnifbkpedaaGm
namespace Go.Proofs.Ytmdcfnifbkpedaa
open Go.RowKit

theorem rndN_near {n d : Int} (_h : 0 ≤ n) (k : 0 < d) : -d ≤ 2 * (rndN n d * d - n) ∧ 2 * (rndN n d * d - n) ≤ d := by
  have e := Int.mul_ediv_add_emod n d
  have r0 := Int.emod_nonneg n (by omega : d ≠ 0)
  have r1 := Int.emod_lt_of_pos n k
  unfold rndN
  generalize n / d = q at *
  generalize n % d = r at *
  have c : d * q = q * d := Int.mul_comm _ _
  by_cases p : d < 2 * r ∨ 2 * r = d ∧ q % 2 = 1
  · rw [if_pos p]
    have : (q + 1) * d = q * d + d := by rw [Int.add_mul, Int.one_mul]
    omega
  · rw [if_neg p]
    omega
theorem rq_near {a b : Int} (hb : 0 < b) : -b ≤ 2 * (rq a b * b - a) ∧ 2 * (rq a b * b - a) ≤ b := by
  have := rndN_near (n := (a.natAbs : Int)) (d := (b.natAbs : Int)) (by omega) (by omega)
  have eb : (b.natAbs : Int) = b := by omega
  rw [eb] at this
  unfold rq
  rw [eb]
  generalize rndN (a.natAbs : Int) b = q at *
  have nb : decide (b < 0) = false := by rw [decide_eq_false_iff_not]; omega
  rw [nb]
  by_cases p : a < 0
  · have e : -q * b = -(q * b) := Int.neg_mul _ _
    rw [if_pos (by simp [p])]
    omega
  · rw [if_neg (by simp [p])]
    omega
theorem rq_mono {a b d : Int} (hd : 0 < d) (h : a ≤ b) : rq a d ≤ rq b d := by
  have A := rq_near (a := a) hd
  have B := rq_near (a := b) hd
  rcases Int.lt_or_le (rq b d) (rq a d) with c | c
  · have h1 : (rq b d + 1) * d ≤ rq a d * d := Int.mul_le_mul_of_nonneg_right (by omega) (by omega)
    have h2 : (rq b d + 1) * d = rq b d * d + d := by rw [Int.add_mul, Int.one_mul]
    have : a = b := by omega
    rw [this]; exact Int.le_refl _
  · exact c
theorem clip64_mono {a b : Int} (h : a ≤ b) : clip64 a ≤ clip64 b := by
  unfold clip64
  split <;> split <;> (try split) <;> (try split) <;> omega
theorem quoF_mono {a b d : Int} (hd : 0 < d) (h : a ≤ b) : quoF a d ≤ quoF b d := by
  unfold quoF
  rw [if_neg (by omega), if_neg (by omega)]
  exact clip64_mono (rq_mono hd h)
theorem mulF_mono {a b c : Int} (hc : 0 ≤ c) (h : a ≤ b) : mulF a c ≤ mulF b c :=
  quoF_mono (by omega) (Int.mul_le_mul_of_nonneg_right h hc)
theorem divF_mono {a b c : Int} (hc : 0 < c) (h : a ≤ b) : divF a c ≤ divF b c :=
  quoF_mono hc (Int.mul_le_mul_of_nonneg_right h (by omega))
theorem mulF_near {a b : Int} (h : mulO a b = false) : -2147483648 ≤ a * b + -(mulF a b * 4294967296) ∧ a * b + -(mulF a b * 4294967296) ≤ 2147483648 := by
  unfold mulO quoO at h
  rw [if_neg (by omega)] at h
  have i : In64 (rq (a * b) 4294967296) := by
    unfold out64 at h; rw [decide_eq_false_iff_not] at h; unfold In64; omega
  unfold mulF quoF
  rw [if_neg (by omega), (clip64_of i).1]
  have := rq_near (a := a * b) (show (0 : Int) < 4294967296 by omega)
  omega
end Go.Proofs.Ytmdcfnifbkpedaa
