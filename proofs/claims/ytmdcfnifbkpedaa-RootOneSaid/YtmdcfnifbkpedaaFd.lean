/- The contract of the document's Cmp. -/
import Derived.Test.YtmdcfnifbkpedaaFc
namespace Go.Proofs.Ytmdcfnifbkpedaa
open Go.RowKit

theorem eq_digits (a0 a1 a2 a3 b0 b1 b2 b3 : Int) (w : World) :
    (Op.equalIn 10000 28 (.agg #[.int .u64 a0, .int .u64 a1, .int .u64 a2, .int .u64 a3]) (.agg #[.int .u64 b0, .int .u64 b1, .int .u64 b2, .int .u64 b3])).run Try.prog w = .ok (a0 == b0 && a1 == b1 && a2 == b2 && a3 == b3) w := by
  have u3 := Try.underlying22
  have a3' := Try.isAgg22
  have z3 := Try.sizeOf22
  rw [show (10000 : Nat) = 9999 + 1 from rfl, Op.equalIn]
  simp only [Sem.run_bind, run_underlying Try.underlying28, Result.andThen_ok]
  simp only [Std.Legacy.Range.forIn_eq_forIn_range', Std.Legacy.Range.size, Nat.sub_zero, Nat.add_sub_cancel, Nat.div_one, List.range'_succ, List.range'_zero, List.forIn_cons, List.forIn_nil]
  go_simp
  by_cases h0 : a0 = b0 <;> by_cases h1 : a1 = b1 <;> by_cases h2 : a2 = b2 <;> by_cases h3 : a3 = b3 <;> simp [h0, h1, h2, h3]
theorem digits_ne {m k : Int} (m0 : 0 ≤ m) (m1 : m < 340282366920938463463374607431768211456) (k0 : 0 ≤ k) (k1 : k < 340282366920938463463374607431768211456) (h : m ≠ k) : (d0 m == d0 k && d1 m == d1 k && d2 m == d2 k && d3 m == d3 k) = false := by
  rw [Bool.eq_false_iff]
  intro c
  simp at c
  unfold d0 d1 d2 d3 at c
  omega
theorem same_gt {a b : Int} (s : cmpI a 0 = cmpI b 0) (e : ¬ a.natAbs = b.natAbs) (n : (decide ((a.natAbs : Int) < b.natAbs) == decide (a < 0)) = true) : 1 = cmpI a b := by
  have hs : (a = 0 ↔ b = 0) ∧ (a < 0 ↔ b < 0) := by
    unfold cmpI at s; split at s <;> split at s <;> (try split at s) <;> (try split at s) <;> omega
  by_cases p : a < 0 <;> by_cases q : (a.natAbs : Int) < b.natAbs <;> simp [p, q] at n <;> unfold cmpI <;> rw [if_neg (by omega), if_neg (by omega)]
theorem same_lt {a b : Int} (s : cmpI a 0 = cmpI b 0) (e : ¬ a.natAbs = b.natAbs) (n : (decide ((a.natAbs : Int) < b.natAbs) == decide (a < 0)) = false) : -1 = cmpI a b := by
  have hs : (a = 0 ↔ b = 0) ∧ (a < 0 ↔ b < 0) := by
    unfold cmpI at s; split at s <;> split at s <;> (try split at s) <;> (try split at s) <;> omega
  by_cases p : a < 0 <;> by_cases q : (a.natAbs : Int) < b.natAbs <;> simp [p, q] at n <;> unfold cmpI <;> rw [if_neg (by omega), if_pos (by omega)]
end Go.Proofs.Ytmdcfnifbkpedaa
