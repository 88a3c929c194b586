/- Numbers of package fx: a quotient bit by bit. -/
import Derived.Test.YtmdcfnifbkpedaaGr
import Derived.Test.YtmdcfnifbkpedaaFm
namespace Go.Proofs.Ytmdcfnifbkpedaa
open Go.RowKit

/-- the upper bits of a number, from bit v + 1 on -/
def ovS (N v : Int) : Int := N / ((2 ^ (v + 1).toNat : Nat) : Int)
/-- bit v -/
def ovBit (N v : Int) : Int := N / ((2 ^ v.toNat : Nat) : Int) % 2
theorem ovS_step (N v : Int) (hv : 0 ≤ v) : ovS N (v - 1) = 2 * ovS N v + ovBit N v := by
  unfold ovS ovBit
  have e1 : (v - 1 + 1).toNat = v.toNat := by omega
  have e2 : (v + 1).toNat = v.toNat + 1 := by omega
  rw [e1, e2, Nat.pow_succ, Int.natCast_mul, ← Int.ediv_ediv_of_nonneg (Int.natCast_nonneg _)]
  omega
theorem ovS_end (N : Int) : ovS N (-1) = N := by unfold ovS; simp
theorem ovS_start {N : Int} (N0 : 0 ≤ N) (N1 : N < 79228162514264337593543950336) : ovS N 95 = 0 := by
  unfold ovS
  exact Int.ediv_eq_zero_of_lt N0 (by have : ((2 ^ ((95 : Int) + 1).toNat : Nat) : Int) = 79228162514264337593543950336 := by decide
                                      omega)
theorem ovS_le (N v : Int) (N0 : 0 ≤ N) (hv : 0 ≤ v) : 2 * ovS N v ≤ N := by
  unfold ovS
  have e2 : (v + 1).toNat = v.toNat + 1 := by omega
  rw [e2]
  have p : (1 : Int) ≤ ((2 ^ v.toNat : Nat) : Int) := by have := Nat.one_le_two_pow (n := v.toNat); omega
  have e3 : ((2 ^ (v.toNat + 1) : Nat) : Int) = 2 * ((2 ^ v.toNat : Nat) : Int) := by rw [Nat.pow_succ]; omega
  rw [e3]
  generalize ((2 ^ v.toNat : Nat) : Int) = P at *
  have h := Int.ediv_mul_le N (show (2 * P) ≠ 0 by omega)
  have q0 := Int.ediv_nonneg N0 (show 0 ≤ 2 * P by omega)
  have : N / (2 * P) * 2 ≤ N / (2 * P) * (2 * P) := Int.mul_le_mul_of_nonneg_left (by omega) q0
  omega
theorem ovBit_bd (N v : Int) : 0 ≤ ovBit N v ∧ ovBit N v ≤ 1 := by unfold ovBit; omega
theorem ovBit_high (x : Int) (s : Nat) : x / ((2 ^ s : Nat) : Int) % 2 = ovBit (x * 4294967296) (s + 32) := by
  unfold ovBit
  have e : ((s : Int) + 32).toNat = 32 + s := by omega
  rw [e, Nat.pow_add, Int.natCast_mul]
  have e2 : ((2 ^ 32 : Nat) : Int) = 4294967296 := by decide
  rw [e2, ← Int.ediv_ediv_of_nonneg (by omega), Int.mul_ediv_cancel _ (by omega)]
theorem ovBit_low (x v : Int) (h0 : 0 ≤ v) (h : v < 32) : (0 : Int) = ovBit (x * 4294967296) v := by
  unfold ovBit
  obtain ⟨s, rfl⟩ := Int.eq_ofNat_of_zero_le h0
  obtain ⟨t, ht⟩ : ∃ t, s + (t + 1) = 32 := ⟨31 - s, by omega⟩
  have e : (4294967296 : Int) = 2 * ((2 ^ t : Nat) : Int) * ((2 ^ s : Nat) : Int) := by
    have : (2 ^ 32 : Nat) = 2 * 2 ^ t * 2 ^ s := by rw [← ht, Nat.pow_add, Nat.pow_succ]; grind
    have h2 := congrArg (fun n : Nat => (n : Int)) this
    simp only [Int.natCast_mul] at h2
    exact h2
  have p : (1 : Int) ≤ ((2 ^ s : Nat) : Int) := by have := Nat.one_le_two_pow (n := s); omega
  have e3 : ((s : Int)).toNat = s := by omega
  rw [e3, e, ← Int.mul_assoc, Int.mul_ediv_cancel _ (by omega)]
  have : x * (2 * ((2 ^ t : Nat) : Int)) = 2 * (x * ((2 ^ t : Nat) : Int)) := by grind
  rw [this]; omega
/-- what the loop knows: quotient and rest of the upper bits -/
structure OvR (N y v q r : Int) : Prop where
  v0 : -1 ≤ v
  v1 : v ≤ 95
  q0 : 0 ≤ q
  q1 : q ≤ 18446744073709551615
  r0 : 0 ≤ r
  r1 : r < y
  e : ovS N v = q * y + r
theorem OvR.start {N y : Int} (N0 : 0 ≤ N) (N1 : N < 79228162514264337593543950336) (y0 : 0 < y) : OvR N y 95 0 0 :=
  ⟨by omega, by omega, by omega, by omega, by omega, y0, by rw [ovS_start N0 N1]; omega⟩
theorem OvR.lo {N y v q r bit : Int} (k : OvR N y v q r) (hv : 0 ≤ v) (hq : q < 9223372036854775808) (hb : bit = ovBit N v) (h : 2 * r + bit < y) : OvR N y (v - 1) (2 * q) (2 * r + bit) := by
  have bb := ovBit_bd N v
  have := k.v1; have := k.q0; have := k.r0
  refine ⟨by omega, by omega, by omega, by omega, by omega, h, ?_⟩
  rw [ovS_step N v hv, k.e, hb]; grind
theorem OvR.hi {N y v q r bit : Int} (k : OvR N y v q r) (hv : 0 ≤ v) (hq : q < 9223372036854775808) (hb : bit = ovBit N v) (h : ¬ 2 * r + bit < y) : OvR N y (v - 1) (2 * q + 1) (2 * r + bit - y) := by
  have bb := ovBit_bd N v
  have := k.v1; have := k.q0; have := k.r0; have := k.r1
  refine ⟨by omega, by omega, by omega, by omega, by omega, by omega, ?_⟩
  rw [ovS_step N v hv, k.e, hb]; grind
theorem OvR.no {N y v q r : Int} (k : OvR N y v q r) (N0 : 0 ≤ N) (hv : 0 ≤ v) (hq : 9223372036854775808 ≤ q) : 18446744073709551615 < rndN N y := by
  have y0 : 0 < y := by have := k.r0; have := k.r1; omega
  have h1 := ovS_le N v N0 hv
  have h2 : 18446744073709551616 * y ≤ N := by
    have : 9223372036854775808 * y ≤ q * y := Int.mul_le_mul_of_nonneg_right hq (by omega)
    have := k.e; have := k.r0; omega
  have h3 : 18446744073709551616 ≤ N / y := Int.le_ediv_of_mul_le y0 h2
  have := rnd_ge N y
  omega
theorem OvR.done {N y q r : Int} (k : OvR N y (-1) q r) : N / y = q ∧ N % y = r := by
  have y0 : 0 < y := by have := k.r0; have := k.r1; omega
  have e := k.e
  rw [ovS_end] at e
  have := k.r0; have := k.r1
  constructor
  · rw [e, Int.add_comm, Int.add_mul_ediv_right _ _ (by omega), Int.ediv_eq_zero_of_lt (by omega) (by omega)]; omega
  · rw [e, Int.add_comm, Int.add_mul_emod_self_right, Int.emod_eq_of_lt (by omega) (by omega)]
/-- what over tells: a rounded quotient of 64 bits -/
def ovQ (N y : Int) : Int := if rndN N y ≤ 18446744073709551615 then rndN N y else 0
def ovB (N y : Int) : Bool := decide (rndN N y ≤ 18446744073709551615)
theorem ov_no {N y : Int} (h : 18446744073709551615 < rndN N y) : 0 = ovQ N y ∧ false = ovB N y := by
  refine ⟨by unfold ovQ; rw [if_neg (by omega)], by unfold ovB; symm; rw [decide_eq_false_iff_not]; omega⟩
theorem ov_yes {N y q : Int} (h : q = rndN N y) (h1 : q ≤ 18446744073709551615) : q = ovQ N y ∧ true = ovB N y := by
  refine ⟨by unfold ovQ; rw [if_pos (by omega)]; exact h, by unfold ovB; symm; rw [decide_eq_true_iff]; omega⟩
theorem rq_div (x y : Int) : rq (x * 4294967296) y = sgnW (decide (x < 0) != decide (y < 0)) (rndN ((x.natAbs : Int) * 4294967296) y.natAbs) := by
  have e : ((x * 4294967296).natAbs : Int) = (x.natAbs : Int) * 4294967296 := by rw [Int.natAbs_mul, Int.natCast_mul]; rfl
  have e2 : decide (x * 4294967296 < 0) = decide (x < 0) := by rw [decide_eq_decide]; omega
  unfold rq sgnW
  rw [e, e2]
end Go.Proofs.Ytmdcfnifbkpedaa
