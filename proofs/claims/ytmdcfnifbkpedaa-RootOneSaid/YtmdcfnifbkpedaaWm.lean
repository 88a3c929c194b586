/- The plain arithmetic of 128 bit numbers: halves, fits, orders. No program in sight. -/
namespace Go.Proofs.Ytmdcfnifbkpedaa

/-- the upper half of a number of 128 bits -/
def hiW (n : Int) : Int := n / 18446744073709551616
/-- the lower half -/
def loW (n : Int) : Int := n % 18446744073709551616
def In128 (n : Int) : Prop := -170141183460469231731687303715884105728 ≤ n ∧ n < 170141183460469231731687303715884105728
instance (n : Int) : Decidable (In128 n) := by unfold In128; infer_instance
/-- the number as two halves, wrapped round -/
def wr128 (n : Int) : Int := (n + 170141183460469231731687303715884105728) % 340282366920938463463374607431768211456 - 170141183460469231731687303715884105728
def fitW (n : Int) : Bool := decide (In128 n)
def clipW (n : Int) : Int := if In128 n then n else 0
def cmpI (a b : Int) : Int := if a = b then 0 else if a < b then -1 else 1

structure IsW (h l n : Int) : Prop where
  h0 : -9223372036854775808 ≤ h
  h1 : h ≤ 9223372036854775807
  l0 : 0 ≤ l
  l1 : l ≤ 18446744073709551615
  e : h * 18446744073709551616 + l = n

theorem IsW.in128 {h l n : Int} (k : IsW h l n) : In128 n := by
  obtain ⟨a, b, c, d, e⟩ := k
  unfold In128
  omega
theorem IsW.hi {h l n : Int} (k : IsW h l n) : h = hiW n := by
  obtain ⟨a, b, c, d, e⟩ := k
  unfold hiW
  omega
theorem IsW.lo {h l n : Int} (k : IsW h l n) : l = loW n := by
  obtain ⟨a, b, c, d, e⟩ := k
  unfold loW
  omega
theorem isW_of {n : Int} (k : In128 n) : IsW (hiW n) (loW n) n := by
  unfold In128 at k
  refine ⟨?_, ?_, ?_, ?_, ?_⟩ <;> (try unfold hiW) <;> (try unfold loW) <;> omega

theorem isW_64 {n : Int} (k0 : -9223372036854775808 ≤ n) (k1 : n ≤ 9223372036854775807) : IsW (hiW n) (loW n) n := isW_of (by unfold In128; omega)
theorem in128_64 {n : Int} (k0 : -9223372036854775808 ≤ n) (k1 : n ≤ 9223372036854775807) : In128 n := by unfold In128; omega
theorem isW_zero : IsW 0 0 0 := ⟨by omega, by omega, by omega, by omega, by omega⟩
theorem wr128_in (n : Int) : In128 (wr128 n) := by unfold In128 wr128; omega
theorem wr128_of {n : Int} (k : In128 n) : wr128 n = n := by unfold In128 at k; unfold wr128; omega
theorem isW_wr (n : Int) : IsW (hiW (wr128 n)) (loW (wr128 n)) (wr128 n) := isW_of (wr128_in n)
theorem clipW_in (n : Int) : In128 (clipW n) := by
  unfold clipW
  split
  · assumption
  · unfold In128; omega
theorem isW_clip (n : Int) : IsW (hiW (clipW n)) (loW (clipW n)) (clipW n) := isW_of (clipW_in n)
theorem of_hi {n : Int} (k0 : -9223372036854775808 ≤ n) (k1 : n ≤ 9223372036854775807) : n / 9223372036854775808 = hiW n := by unfold hiW; omega
/-- the order of the numbers, by their halves -/
theorem cmp_eq {h1 l1 h2 l2 a b : Int} (ka : IsW h1 l1 a) (kb : IsW h2 l2 b) (eh : h1 = h2) (el : l1 = l2) : cmpI a b = 0 := by
  have := ka.e; have := kb.e
  unfold cmpI
  rw [if_pos (by omega)]
theorem cmp_lt {h1 l1 h2 l2 a b : Int} (ka : IsW h1 l1 a) (kb : IsW h2 l2 b) (k : h1 < h2 ∨ h1 = h2 ∧ l1 < l2) : cmpI a b = -1 := by
  obtain ⟨_, _, _, _, _⟩ := ka
  obtain ⟨_, _, _, _, _⟩ := kb
  unfold cmpI
  rw [if_neg (by omega), if_pos (by omega)]
theorem cmp_gt {h1 l1 h2 l2 a b : Int} (ka : IsW h1 l1 a) (kb : IsW h2 l2 b) (k : h2 < h1 ∨ h1 = h2 ∧ l2 < l1) : cmpI a b = 1 := by
  obtain ⟨_, _, _, _, _⟩ := ka
  obtain ⟨_, _, _, _, _⟩ := kb
  unfold cmpI
  rw [if_neg (by omega), if_neg (by omega)]
theorem IsW.abs_hi {h l n : Int} (k : IsW h l n) (k0 : 0 ≤ h) : h = hiW n.natAbs := by
  obtain ⟨_, _, _, _, _⟩ := k
  unfold hiW; omega
theorem IsW.abs_lo {h l n : Int} (k : IsW h l n) (k0 : 0 ≤ h) : l = loW n.natAbs := by
  obtain ⟨_, _, _, _, _⟩ := k
  unfold loW; omega
theorem IsW.neg_hi {h l n : Int} (k : IsW h l n) (k0 : h < 0) : (hiW (wr128 (-n))) % 18446744073709551616 = hiW n.natAbs := by
  obtain ⟨_, _, _, _, _⟩ := k
  unfold hiW wr128; omega
theorem IsW.neg_lo {h l n : Int} (k : IsW h l n) (k0 : h < 0) : loW (wr128 (-n)) = loW n.natAbs := by
  obtain ⟨_, _, _, _, _⟩ := k
  unfold loW wr128; omega
/-- a size, given its sign; and whether an int64 holds it -/
def sgnI (n : Int) (b : Bool) : Int := if b then (if n ≤ 9223372036854775808 then -n else 0) else (if n < 9223372036854775808 then n else 0)
def sgnB (n : Int) (b : Bool) : Bool := if b then decide (n ≤ 9223372036854775808) else decide (n < 9223372036854775808)
/-- a size by a size, rounded to the nearest, a half to the even one -/
def rndN (n d : Int) : Int := if d < 2 * (n % d) ∨ 2 * (n % d) = d ∧ n / d % 2 = 1 then n / d + 1 else n / d
/-- the quotient of any two numbers, rounded; and whether there is one -/
def divI (a b : Int) : Int := if b = 0 then 0 else sgnI (rndN a.natAbs b.natAbs) (decide (a < 0) != decide (b < 0))
def divB (a b : Int) : Bool := if b = 0 then false else sgnB (rndN a.natAbs b.natAbs) (decide (a < 0) != decide (b < 0))
theorem rnd_ge (n d : Int) : n / d ≤ rndN n d ∧ rndN n d ≤ n / d + 1 := by
  unfold rndN; split <;> omega
theorem div_zero (a : Int) : 0 = divI a 0 ∧ false = divB a 0 := by
  unfold divI divB; simp
theorem div_near {a b : Int} (hb : b ≠ 0) : sgnI (rndN a.natAbs b.natAbs) (decide (a < 0) != decide (b < 0)) = divI a b ∧ sgnB (rndN a.natAbs b.natAbs) (decide (a < 0) != decide (b < 0)) = divB a b := by
  unfold divI divB
  rw [if_neg hb, if_neg hb]
  exact ⟨rfl, rfl⟩
theorem sgn_far {n : Int} (h : 9223372036854775808 < n) (s : Bool) : 0 = sgnI n s ∧ false = sgnB n s := by
  unfold sgnI sgnB
  cases s
  · simp; omega
  · simp; omega
theorem div_far {a b : Int} (hb : b ≠ 0) (h : 9223372036854775808 < (a.natAbs : Int) / (b.natAbs : Int)) : 0 = divI a b ∧ false = divB a b := by
  have hr := rnd_ge (a.natAbs : Int) (b.natAbs : Int)
  have k := sgn_far (n := rndN a.natAbs b.natAbs) (by omega) (decide (a < 0) != decide (b < 0))
  have k2 := div_near (a := a) hb
  rw [← k2.1, ← k2.2]
  exact k
theorem rnd_up {n d : Int} (h : d < 2 * (n % d) ∨ 2 * (n % d) = d ∧ n / d % 2 = 1) : n / d + 1 = rndN n d := by
  unfold rndN; rw [if_pos h]
theorem rnd_down {n d : Int} (h : ¬ (d < 2 * (n % d) ∨ 2 * (n % d) = d ∧ n / d % 2 = 1)) : n / d = rndN n d := by
  unfold rndN; rw [if_neg h]
theorem isW_neg_hi {h l n : Int} (k : IsW h l n) : decide (h < 0) = decide (n < 0) := by
  obtain ⟨_, _, _, _, _⟩ := k
  by_cases p : h < 0
  · rw [decide_eq_true p, decide_eq_true (by omega)]
  · rw [decide_eq_false p, decide_eq_false (by omega)]
/-- the halves of a size -/
theorem halves {n : Int} (n0 : 0 ≤ n) (n1 : n ≤ 170141183460469231731687303715884105728) : ∃ h l : Int, hiW n = h ∧ loW n = l ∧ 0 ≤ h ∧ h ≤ 9223372036854775808 ∧ 0 ≤ l ∧ l ≤ 18446744073709551615 ∧ n = h * 18446744073709551616 + l := by
  refine ⟨_, _, rfl, rfl, ?_⟩
  unfold hiW loW; omega
end Go.Proofs.Ytmdcfnifbkpedaa
