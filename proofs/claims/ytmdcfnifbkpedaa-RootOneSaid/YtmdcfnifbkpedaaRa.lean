/- Roots and lengths, as numbers. No program in sight. -/
import Derived.Test.YtmdcfnifbkpedaaRm
import Derived.Test.YtmdcfnifbkpedaaGm
namespace Go.Proofs.Ytmdcfnifbkpedaa
open Go.RowKit

noncomputable def sqrtF (a : Int) : Int := rootI (a * 4294967296)
/-- the length whose square is S, rounded down; and whether it does not fit -/
noncomputable def lenF (S : Int) : Int := if S < 85070591730234615865843651857942052864 then rootI S else 9223372036854775807
def lenO (S : Int) : Bool := decide (85070591730234615865843651857942052864 ≤ S)
/-- the sum of the squares -/
def sqs : List Int → Int
  | [] => 0
  | x :: l => x * x + sqs l
theorem sq_nn (x : Int) : 0 ≤ x * x := by
  rcases Int.le_total 0 x with h | h
  · exact Int.mul_nonneg h h
  · exact Int.mul_nonneg_of_nonpos_of_nonpos h h
theorem sq_max {x : Int} (h : In64 x) : x * x ≤ 85070591730234615865843651857942052864 := by
  unfold In64 at h
  rcases Int.le_total 0 x with g | g
  · have := Int.mul_le_mul h.2 h.2 g (by omega : (0 : Int) ≤ 9223372036854775807); omega
  · have h1 : -x ≤ 9223372036854775808 := by omega
    have := Int.mul_le_mul h1 h1 (by omega) (by omega : (0 : Int) ≤ 9223372036854775808)
    rw [Int.neg_mul_neg] at this; omega
theorem sqs_nn : ∀ l, 0 ≤ sqs l
  | [] => by unfold sqs; omega
  | x :: l => by have := sq_nn x; have := sqs_nn l; unfold sqs; omega
theorem sqs_app (l m : List Int) : sqs (l ++ m) = sqs l + sqs m := by
  induction l with
  | nil => simp [sqs]
  | cons x l ih => simp only [List.cons_append, sqs, ih]; omega
theorem sqs_take {l : List Int} {k : Nat} (h : k < l.length) : sqs (l.take (k + 1)) = sqs (l.take k) + l.getD k 0 * l.getD k 0 := by
  rw [List.take_add_one, sqs_app, List.getD_eq_getElem?_getD, List.getElem?_eq_getElem h]
  simp [sqs]
theorem sqs_le (l : List Int) (k : Nat) : sqs (l.take k) ≤ sqs l := by
  have h := congrArg sqs (List.take_append_drop k l)
  rw [sqs_app] at h
  have := sqs_nn (l.drop k)
  omega
theorem rootI_nn (n : Int) : 0 ≤ rootI n := by
  rcases Int.le_total n 0 with h | h
  · rw [rootI_neg h]; omega
  · exact (rootI_is h).s0
theorem rootI_lt {n r : Int} (r0 : 0 < r) (h : n < r * r) : rootI n < r := by
  rcases Int.le_total n 0 with g | g
  · rw [rootI_neg g]; exact r0
  · exact (rootI_is g).lt_of (by omega) h
theorem rootI_ge {n r : Int} (h : r * r ≤ n) : r ≤ rootI n := by
  have := sq_nn r
  exact (rootI_is (by omega)).le_of h
theorem rootI_le {n m : Int} (h : n ≤ m) : rootI n ≤ rootI m := by
  rcases Int.le_total n 0 with g | g
  · rw [rootI_neg g]; exact rootI_nn m
  · have := (rootI_is g).lo
    exact rootI_ge (by omega)
theorem sqrtF_in {a : Int} (h : In64 a) : 0 ≤ sqrtF a ∧ sqrtF a < 281474976710656 := by
  unfold sqrtF In64 at *
  exact ⟨rootI_nn _, rootI_lt (by omega) (by omega)⟩
theorem lenF_in (S : Int) : 0 ≤ lenF S ∧ lenF S ≤ 9223372036854775807 := by
  unfold lenF
  split
  · have := rootI_nn S
    have := rootI_lt (n := S) (r := 9223372036854775808) (by omega) (by omega)
    omega
  · omega
theorem len_fit {S : Int} (h : S < 85070591730234615865843651857942052864) : rootI S ≤ 9223372036854775807 ∧ lenF S = rootI S ∧ lenO S = false := by
  have := rootI_lt (n := S) (r := 9223372036854775808) (by omega) (by omega)
  refine ⟨by omega, ?_, ?_⟩
  · unfold lenF; rw [if_pos h]
  · unfold lenO; rw [decide_eq_false_iff_not]; omega
theorem len_far {S : Int} (h : 85070591730234615865843651857942052864 ≤ S) : ¬ rootI S ≤ 9223372036854775807 ∧ lenF S = 9223372036854775807 ∧ lenO S = true := by
  have := rootI_ge (n := S) (r := 9223372036854775808) (by omega)
  refine ⟨by omega, ?_, ?_⟩
  · unfold lenF; rw [if_neg (by omega)]
  · unfold lenO; rw [decide_eq_true_iff]; exact h
theorem rootI_64 {n : Int} (h : In128 n) : 0 ≤ rootI n ∧ rootI n ≤ 18446744073709551615 := by
  unfold In128 at h
  have := rootI_lt (n := n) (r := 18446744073709551616) (by omega) (by omega)
  exact ⟨rootI_nn n, by omega⟩
end Go.Proofs.Ytmdcfnifbkpedaa
