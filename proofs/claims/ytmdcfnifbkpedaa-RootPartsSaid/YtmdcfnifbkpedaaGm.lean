/- Numbers of package fx: what fits, what stands in place of what does not. -/
import Derived.Test.YtmdcfnifbkpedaaWm
import Derived.WalkKit
import Derived.Lib.Hide
namespace Go.Proofs.Ytmdcfnifbkpedaa
open Go.RowKit

def clip64 (n : Int) : Int := if n < -9223372036854775808 then -9223372036854775808 else if 9223372036854775807 < n then 9223372036854775807 else n
def out64 (n : Int) : Bool := decide (n < -9223372036854775808 ∨ 9223372036854775807 < n)
/-- the bound on the side of a sign -/
def satS (s : Int) : Int := if 0 < s then 9223372036854775807 else if s < 0 then -9223372036854775808 else 0
/-- the rounded quotient, unbounded -/
def rq (a b : Int) : Int := if (decide (a < 0) != decide (b < 0)) = true then -rndN a.natAbs b.natAbs else rndN a.natAbs b.natAbs
def quoF (a b : Int) : Int := if b = 0 then satS a else clip64 (rq a b)
def quoO (a b : Int) : Bool := if b = 0 then true else out64 (rq a b)
def addF (a b : Int) : Int := clip64 (a + b)
def addO (a b : Int) : Bool := out64 (a + b)
def subF (a b : Int) : Int := clip64 (a - b)
def subO (a b : Int) : Bool := out64 (a - b)
def mulF (a b : Int) : Int := quoF (a * b) 4294967296
def mulO (a b : Int) : Bool := quoO (a * b) 4294967296
def divF (a b : Int) : Int := quoF (a * 4294967296) b
def divO (a b : Int) : Bool := quoO (a * 4294967296) b
def ofF (a : Int) : Int := clip64 (a * 4294967296)
def ofO (a : Int) : Bool := out64 (a * 4294967296)
def absF (a : Int) : Int := if a < 0 then subF 0 a else a
def absO (a : Int) : Bool := if a < 0 then subO 0 a else false
def mixF (a b t : Int) : Int := addF a (mulF (subF b a) t)
def mixO (a b t : Int) : Bool := (subO b a || mulO (subF b a) t) || addO a (mulF (subF b a) t)

def In64 (n : Int) : Prop := -9223372036854775808 ≤ n ∧ n ≤ 9223372036854775807
theorem clip64_in (n : Int) : In64 (clip64 n) := by
  unfold In64 clip64
  by_cases p : n < -9223372036854775808
  · rw [if_pos p]; omega
  · rw [if_neg p]
    by_cases q : 9223372036854775807 < n
    · rw [if_pos q]; omega
    · rw [if_neg q]; omega
theorem satS_in (n : Int) : In64 (satS n) := by
  unfold In64 satS
  by_cases p : 0 < n
  · rw [if_pos p]; omega
  · rw [if_neg p]
    by_cases q : n < 0
    · rw [if_pos q]; omega
    · rw [if_neg q]; omega
theorem quoF_in (a b : Int) : In64 (quoF a b) := by
  unfold quoF
  by_cases p : b = 0
  · rw [if_pos p]; exact satS_in a
  · rw [if_neg p]; exact clip64_in _
theorem addF_in (a b : Int) : In64 (addF a b) := clip64_in _
theorem subF_in (a b : Int) : In64 (subF a b) := clip64_in _
theorem mulF_in (a b : Int) : In64 (mulF a b) := quoF_in _ _
theorem divF_in (a b : Int) : In64 (divF a b) := quoF_in _ _
theorem ofF_in (a : Int) : In64 (ofF a) := clip64_in _
theorem mixF_in (a b t : Int) : In64 (mixF a b t) := clip64_in _
theorem absF_in {a : Int} (h : In64 a) : In64 (absF a) := by
  unfold absF
  by_cases p : a < 0
  · rw [if_pos p]; exact subF_in _ _
  · rw [if_neg p]; exact h
theorem clip64_of {n : Int} (h : In64 n) : clip64 n = n ∧ out64 n = false := by
  obtain ⟨h0, h1⟩ := h
  refine ⟨by unfold clip64; rw [if_neg (by omega), if_neg (by omega)], ?_⟩
  unfold out64; rw [decide_eq_false_iff_not]; omega
theorem clip64_out {n : Int} (h : ¬ In64 n) : clip64 n = satS n ∧ out64 n = true := by
  unfold In64 at h
  refine ⟨?_, by unfold out64; rw [decide_eq_true_iff]; omega⟩
  unfold clip64 satS
  by_cases p : n < -9223372036854775808
  · rw [if_pos p, if_neg (by omega), if_pos (by omega)]
  · rw [if_neg p, if_pos (by omega), if_pos (by omega)]
theorem satS_cmp (n : Int) : satS (cmpI n 0) = satS n := by
  unfold cmpI
  by_cases p : n = 0
  · rw [if_pos p, p]
  · rw [if_neg p]
    by_cases q : n < 0
    · rw [if_pos q]; unfold satS; rw [if_neg (by omega), if_pos (by omega), if_neg (by omega), if_pos (by omega)]
    · rw [if_neg q]; unfold satS; rw [if_pos (by omega), if_pos (by omega)]
/-- what the low half says of whether a wide number is one of 64 bits -/
theorem low64 {n x : Int} (hx : x = (loW n + 9223372036854775808) % 18446744073709551616 - 9223372036854775808) : In64 x ∧ (In64 n → x = n) ∧ (¬ In64 n → x ≠ n) := by
  have : In64 x := by unfold In64; omega
  refine ⟨this, fun h => ?_, fun h e => h (e ▸ this)⟩
  unfold In64 at h; unfold loW at hx; omega
theorem hilo_eq {n m : Int} (h : hiW n = hiW m) (l : loW n = loW m) : n = m := by
  unfold hiW at h; unfold loW at l; omega
theorem rndN_nn {n d : Int} (h : 0 ≤ n) (k : 0 < d) : 0 ≤ rndN n d := by
  have := rnd_ge n d
  have := Int.ediv_nonneg h (by omega : (0 : Int) ≤ d)
  omega
theorem div_fit {a b : Int} (hb : b ≠ 0) : (divB a b = true ↔ In64 (rq a b)) ∧ (divB a b = true → divI a b = rq a b) := by
  have nn := rndN_nn (n := (a.natAbs : Int)) (d := (b.natAbs : Int)) (by omega) (by omega)
  unfold divB divI
  rw [if_neg hb, if_neg hb]
  unfold rq sgnB sgnI In64
  by_cases s : (decide (a < 0) != decide (b < 0)) = true
  · simp only [s, if_true]
    constructor
    · rw [decide_eq_true_iff]; omega
    · intro h; rw [decide_eq_true_iff] at h; rw [if_pos h]
  · simp only [s]
    constructor
    · simp; omega
    · intro h; simp at h; simp [h]
theorem rq_sign {a b : Int} (hb : b ≠ 0) (h : ¬ In64 (rq a b)) : satS (rq a b) = if b < 0 then satS (-(cmpI a 0)) else satS (cmpI a 0) := by
  have nn := rndN_nn (n := (a.natAbs : Int)) (d := (b.natAbs : Int)) (by omega) (by omega)
  have az : a ≠ 0 := by
    intro e; subst e
    apply h
    unfold rq
    have e : rndN ((0 : Int).natAbs : Int) (b.natAbs : Int) = 0 := by unfold rndN; simp
    rw [e]
    unfold In64
    by_cases s : (decide ((0 : Int) < 0) != decide (b < 0)) = true
    · rw [if_pos s]; omega
    · rw [if_neg s]; omega
  unfold In64 at h
  generalize hr : rndN (a.natAbs : Int) (b.natAbs : Int) = r at *
  unfold rq at h ⊢
  rw [hr] at h ⊢
  unfold cmpI
  rw [if_neg az]
  by_cases p : a < 0 <;> by_cases q : b < 0 <;> simp [p, q] at h ⊢ <;> unfold satS <;> (repeat (first | rw [if_pos (by omega)] | rw [if_neg (by omega)]))
end Go.Proofs.Ytmdcfnifbkpedaa
