/- The plain arithmetic of 128 bit numbers: halves, fits, orders. No program in sight. -/
import Derived.Lib.BitFns
import Derived.Laws.BitsAllLaws
import Derived.Laws.Bits64b
import Derived.Below
import Derived.WalkKit
import Derived.Lib.Hide
namespace Go.Proofs.Ytbpmbdnhfkfkhaa

/-- the upper half of a number of 128 bits -/
def hiW (n : Int) : Int := n / 18446744073709551616
/-- the lower half -/
def loW (n : Int) : Int := n % 18446744073709551616
def In128 (n : Int) : Prop := -170141183460469231731687303715884105728 ≤ n ∧ n < 170141183460469231731687303715884105728
instance (n : Int) : Decidable (In128 n) := by unfold In128; infer_instance
/-- the number as two halves, wrapped round -/
def wr128 (n : Int) : Int := (n + 170141183460469231731687303715884105728) % 340282366920938463463374607431768211456 - 170141183460469231731687303715884105728
def fitW (n : Int) : Bool := decide (In128 n)
def clipW (n : Int) : Int := if In128 n then n else 0
def cmpI (a b : Int) : Int := if a = b then 0 else if a < b then -1 else 1

structure IsW (h l n : Int) : Prop where
  h0 : -9223372036854775808 ≤ h
  h1 : h ≤ 9223372036854775807
  l0 : 0 ≤ l
  l1 : l ≤ 18446744073709551615
  e : h * 18446744073709551616 + l = n

theorem IsW.in128 {h l n : Int} (k : IsW h l n) : In128 n := by
  obtain ⟨a, b, c, d, e⟩ := k
  unfold In128
  omega
theorem IsW.hi {h l n : Int} (k : IsW h l n) : h = hiW n := by
  obtain ⟨a, b, c, d, e⟩ := k
  unfold hiW
  omega
theorem IsW.lo {h l n : Int} (k : IsW h l n) : l = loW n := by
  obtain ⟨a, b, c, d, e⟩ := k
  unfold loW
  omega
theorem isW_of {n : Int} (k : In128 n) : IsW (hiW n) (loW n) n := by
  unfold In128 at k
  refine ⟨?_, ?_, ?_, ?_, ?_⟩ <;> (try unfold hiW) <;> (try unfold loW) <;> omega

theorem isW_64 {n : Int} (k0 : -9223372036854775808 ≤ n) (k1 : n ≤ 9223372036854775807) : IsW (hiW n) (loW n) n := isW_of (by unfold In128; omega)
theorem in128_64 {n : Int} (k0 : -9223372036854775808 ≤ n) (k1 : n ≤ 9223372036854775807) : In128 n := by unfold In128; omega
theorem isW_zero : IsW 0 0 0 := ⟨by omega, by omega, by omega, by omega, by omega⟩
theorem wr128_in (n : Int) : In128 (wr128 n) := by unfold In128 wr128; omega
theorem wr128_of {n : Int} (k : In128 n) : wr128 n = n := by unfold In128 at k; unfold wr128; omega
theorem isW_wr (n : Int) : IsW (hiW (wr128 n)) (loW (wr128 n)) (wr128 n) := isW_of (wr128_in n)
theorem clipW_in (n : Int) : In128 (clipW n) := by
  unfold clipW
  split
  · assumption
  · unfold In128; omega
theorem isW_clip (n : Int) : IsW (hiW (clipW n)) (loW (clipW n)) (clipW n) := isW_of (clipW_in n)
theorem of_hi {n : Int} (k0 : -9223372036854775808 ≤ n) (k1 : n ≤ 9223372036854775807) : n / 9223372036854775808 = hiW n := by unfold hiW; omega
/-- the order of the numbers, by their halves -/
theorem cmp_eq {h1 l1 h2 l2 a b : Int} (ka : IsW h1 l1 a) (kb : IsW h2 l2 b) (eh : h1 = h2) (el : l1 = l2) : cmpI a b = 0 := by
  have := ka.e; have := kb.e
  unfold cmpI
  rw [if_pos (by omega)]
theorem cmp_lt {h1 l1 h2 l2 a b : Int} (ka : IsW h1 l1 a) (kb : IsW h2 l2 b) (k : h1 < h2 ∨ h1 = h2 ∧ l1 < l2) : cmpI a b = -1 := by
  obtain ⟨_, _, _, _, _⟩ := ka
  obtain ⟨_, _, _, _, _⟩ := kb
  unfold cmpI
  rw [if_neg (by omega), if_pos (by omega)]
theorem cmp_gt {h1 l1 h2 l2 a b : Int} (ka : IsW h1 l1 a) (kb : IsW h2 l2 b) (k : h2 < h1 ∨ h1 = h2 ∧ l2 < l1) : cmpI a b = 1 := by
  obtain ⟨_, _, _, _, _⟩ := ka
  obtain ⟨_, _, _, _, _⟩ := kb
  unfold cmpI
  rw [if_neg (by omega), if_neg (by omega)]
theorem IsW.abs_hi {h l n : Int} (k : IsW h l n) (k0 : 0 ≤ h) : h = hiW n.natAbs := by
  obtain ⟨_, _, _, _, _⟩ := k
  unfold hiW; omega
theorem IsW.abs_lo {h l n : Int} (k : IsW h l n) (k0 : 0 ≤ h) : l = loW n.natAbs := by
  obtain ⟨_, _, _, _, _⟩ := k
  unfold loW; omega
theorem IsW.neg_hi {h l n : Int} (k : IsW h l n) (k0 : h < 0) : (hiW (wr128 (-n))) % 18446744073709551616 = hiW n.natAbs := by
  obtain ⟨_, _, _, _, _⟩ := k
  unfold hiW wr128; omega
theorem IsW.neg_lo {h l n : Int} (k : IsW h l n) (k0 : h < 0) : loW (wr128 (-n)) = loW n.natAbs := by
  obtain ⟨_, _, _, _, _⟩ := k
  unfold loW wr128; omega
/-- a size, given its sign; and whether an int64 holds it -/
def sgnI (n : Int) (b : Bool) : Int := if b then (if n ≤ 9223372036854775808 then -n else 0) else (if n < 9223372036854775808 then n else 0)
def sgnB (n : Int) (b : Bool) : Bool := if b then decide (n ≤ 9223372036854775808) else decide (n < 9223372036854775808)
/-- a size by a size, rounded to the nearest, a half to the even one -/
def rndN (n d : Int) : Int := if d < 2 * (n % d) ∨ 2 * (n % d) = d ∧ n / d % 2 = 1 then n / d + 1 else n / d
/-- the quotient of any two numbers, rounded; and whether there is one -/
def divI (a b : Int) : Int := if b = 0 then 0 else sgnI (rndN a.natAbs b.natAbs) (decide (a < 0) != decide (b < 0))
def divB (a b : Int) : Bool := if b = 0 then false else sgnB (rndN a.natAbs b.natAbs) (decide (a < 0) != decide (b < 0))
theorem rnd_ge (n d : Int) : n / d ≤ rndN n d ∧ rndN n d ≤ n / d + 1 := by
  unfold rndN; split <;> omega
theorem div_zero (a : Int) : 0 = divI a 0 ∧ false = divB a 0 := by
  unfold divI divB; simp
theorem div_near {a b : Int} (hb : b ≠ 0) : sgnI (rndN a.natAbs b.natAbs) (decide (a < 0) != decide (b < 0)) = divI a b ∧ sgnB (rndN a.natAbs b.natAbs) (decide (a < 0) != decide (b < 0)) = divB a b := by
  unfold divI divB
  rw [if_neg hb, if_neg hb]
  exact ⟨rfl, rfl⟩
theorem sgn_far {n : Int} (h : 9223372036854775808 < n) (s : Bool) : 0 = sgnI n s ∧ false = sgnB n s := by
  unfold sgnI sgnB
  cases s
  · simp; omega
  · simp; omega
theorem div_far {a b : Int} (hb : b ≠ 0) (h : 9223372036854775808 < (a.natAbs : Int) / (b.natAbs : Int)) : 0 = divI a b ∧ false = divB a b := by
  have hr := rnd_ge (a.natAbs : Int) (b.natAbs : Int)
  have k := sgn_far (n := rndN a.natAbs b.natAbs) (by omega) (decide (a < 0) != decide (b < 0))
  have k2 := div_near (a := a) hb
  rw [← k2.1, ← k2.2]
  exact k
theorem rnd_up {n d : Int} (h : d < 2 * (n % d) ∨ 2 * (n % d) = d ∧ n / d % 2 = 1) : n / d + 1 = rndN n d := by
  unfold rndN; rw [if_pos h]
theorem rnd_down {n d : Int} (h : ¬ (d < 2 * (n % d) ∨ 2 * (n % d) = d ∧ n / d % 2 = 1)) : n / d = rndN n d := by
  unfold rndN; rw [if_neg h]
theorem isW_neg_hi {h l n : Int} (k : IsW h l n) : decide (h < 0) = decide (n < 0) := by
  obtain ⟨_, _, _, _, _⟩ := k
  by_cases p : h < 0
  · rw [decide_eq_true p, decide_eq_true (by omega)]
  · rw [decide_eq_false p, decide_eq_false (by omega)]
/-- the halves of a size -/
theorem halves {n : Int} (n0 : 0 ≤ n) (n1 : n ≤ 170141183460469231731687303715884105728) : ∃ h l : Int, hiW n = h ∧ loW n = l ∧ 0 ≤ h ∧ h ≤ 9223372036854775808 ∧ 0 ≤ l ∧ l ≤ 18446744073709551615 ∧ n = h * 18446744073709551616 + l := by
  refine ⟨_, _, rfl, rfl, ?_⟩
  unfold hiW loW; omega
end Go.Proofs.Ytbpmbdnhfkfkhaa
namespace Go.Proofs.Ytbpmbdnhfkfkhaa

/-- one digit: u times 2^32 and d, by v1 times 2^32 and v0; q is the true digit -/
structure KnQ (u d v1 v0 q : Int) : Prop where
  u0 : 0 ≤ u
  d0 : 0 ≤ d
  d1 : d < 4294967296
  v10 : 2147483648 ≤ v1
  v11 : v1 < 4294967296
  v00 : 0 ≤ v0
  v01 : v0 < 4294967296
  uv : u < v1 * 4294967296 + v0
  q0 : 0 ≤ q
  q1 : q < 4294967296
  lo : q * (v1 * 4294967296 + v0) ≤ u * 4294967296 + d
  hi : u * 4294967296 + d < (q + 1) * (v1 * 4294967296 + v0)

theorem KnQ.mk' {u d v1 v0 : Int} (u0 : 0 ≤ u) (d0 : 0 ≤ d) (d1 : d < 4294967296) (v10 : 2147483648 ≤ v1) (v11 : v1 < 4294967296) (v00 : 0 ≤ v0) (v01 : v0 < 4294967296) (uv : u < v1 * 4294967296 + v0) :
    KnQ u d v1 v0 ((u * 4294967296 + d) / (v1 * 4294967296 + v0)) := by
  have hv : 0 < v1 * 4294967296 + v0 := by omega
  refine ⟨u0, d0, d1, v10, v11, v00, v01, uv, Int.ediv_nonneg (by omega) (by omega), ?_, Int.ediv_mul_le _ (by omega), ?_⟩
  · apply Int.ediv_lt_of_lt_mul hv; omega
  · have := Int.lt_ediv_add_one_mul_self (u * 4294967296 + d) hv
    exact this

/-- the guess a with its rest b, at the loop's head -/
structure Kn (u v1 q a b : Int) : Prop where
  e : a * v1 + b = u
  qa : q ≤ a
  a1 : a ≤ 4294967297
  b0 : 0 ≤ b
  b1 : b < 4294967296

theorem Kn.start {u d v1 v0 q : Int} (k : KnQ u d v1 v0 q) : Kn u v1 q (u / v1) (u - u / v1 * v1) := by
  obtain ⟨u0, d0, d1, v10, v11, v00, v01, uv, q0, q1, lo, hi⟩ := k
  have h1 := Int.ediv_mul_le u (show v1 ≠ 0 by omega)
  have h2 := Int.lt_ediv_add_one_mul_self u (show 0 < v1 by omega)
  rw [Int.add_mul] at h2
  refine ⟨by omega, ?_, ?_, by omega, by omega⟩
  · apply Int.le_ediv_of_mul_le (by omega)
    have e1 : q * (v1 * 4294967296 + v0) = q * v1 * 4294967296 + q * v0 := by rw [Int.mul_add, Int.mul_assoc]
    have e2 : 0 ≤ q * v0 := Int.mul_nonneg q0 v00
    omega
  · have : u / v1 < 4294967298 := by
      apply Int.ediv_lt_of_lt_mul (by omega); omega
    omega

theorem Kn.a0 {u d v1 v0 q a b : Int} (k : KnQ u d v1 v0 q) (s : Kn u v1 q a b) : 0 ≤ a := by have := k.q0; have := s.qa; omega

/-- the test asks for one less: the true digit is less -/
theorem Kn.less {u d v1 v0 q a b : Int} (k : KnQ u d v1 v0 q) (s : Kn u v1 q a b) (t : 4294967296 ≤ a ∨ 4294967296 * b + d < a * v0) : q ≤ a - 1 := by
  obtain ⟨u0, d0, d1, v10, v11, v00, v01, uv, q0, q1, lo, hi⟩ := k
  obtain ⟨e, qa, a1, b0, b1⟩ := s
  rcases t with t | t
  · omega
  · apply Classical.byContradiction
    intro hn
    have hq : q = a := by omega
    subst hq
    have e1 : q * (v1 * 4294967296 + v0) = q * v1 * 4294967296 + q * v0 := by rw [Int.mul_add, Int.mul_assoc]
    omega
/-- the next round's guess -/
theorem Kn.next {u d v1 v0 q a b : Int} (k : KnQ u d v1 v0 q) (s : Kn u v1 q a b) (t : 4294967296 ≤ a ∨ 4294967296 * b + d < a * v0) (r : b + v1 < 4294967296) : Kn u v1 q (a - 1) (b + v1) := by
  have hq := Kn.less k s t
  have := k.v10
  obtain ⟨e, qa, a1, b0, b1⟩ := s
  refine ⟨by rw [Int.sub_mul]; omega, hq, by omega, by omega, r⟩
/-- the loop leaves by its test -/
theorem Kn.done {u d v1 v0 q a b : Int} (k : KnQ u d v1 v0 q) (s : Kn u v1 q a b) (t : a * v0 ≤ 4294967296 * b + d) : a = q := by
  obtain ⟨u0, d0, d1, v10, v11, v00, v01, uv, q0, q1, lo, hi⟩ := k
  obtain ⟨e, qa, a1, b0, b1⟩ := s
  apply Classical.byContradiction
  intro hn
  have hq : q + 1 ≤ a := by omega
  have h1 : (q + 1) * (v1 * 4294967296 + v0) ≤ a * (v1 * 4294967296 + v0) := Int.mul_le_mul_of_nonneg_right hq (by omega)
  have e1 : a * (v1 * 4294967296 + v0) = a * v1 * 4294967296 + a * v0 := by rw [Int.mul_add, Int.mul_assoc]
  omega
/-- the loop leaves by its break -/
theorem Kn.broke {u d v1 v0 q a b : Int} (k : KnQ u d v1 v0 q) (s : Kn u v1 q a b) (t : 4294967296 ≤ a ∨ 4294967296 * b + d < a * v0) (r : 4294967296 ≤ b + v1) : a - 1 = q := by
  have hl := Kn.less k s t
  obtain ⟨u0, d0, d1, v10, v11, v00, v01, uv, q0, q1, lo, hi⟩ := k
  obtain ⟨e, qa, a1, b0, b1⟩ := s
  apply Classical.byContradiction
  intro hn
  have hq : q + 1 ≤ a - 1 := by omega
  have h1 : (q + 1) * (v1 * 4294967296 + v0) ≤ (a - 1) * (v1 * 4294967296 + v0) := Int.mul_le_mul_of_nonneg_right hq (by omega)
  have e1 : (a - 1) * (v1 * 4294967296 + v0) = (a - 1) * v1 * 4294967296 + (a - 1) * v0 := by rw [Int.mul_add, Int.mul_assoc]
  have e2 : (a - 1) * v1 = a * v1 - v1 := by rw [Int.sub_mul]; omega
  have h3 : (a - 1) * v0 ≤ 4294967296 * 4294967295 := Int.mul_le_mul (by omega) (by omega) v00 (by omega)
  omega
theorem Kn.prod {u d v1 v0 q a b : Int} (k : KnQ u d v1 v0 q) (s : Kn u v1 q a b) (t : a < 4294967296) : 0 ≤ a * v0 ∧ a * v0 ≤ 18446744065119617025 := by
  have a0 := Kn.a0 k s
  have h3 : a * v0 ≤ 4294967295 * 4294967295 := Int.mul_le_mul (by omega) (by have := k.v01; omega) k.v00 (by omega)
  exact ⟨Int.mul_nonneg a0 k.v00, by omega⟩
/-- the rest behind the digit -/
theorem KnQ.rest {u d v1 v0 q : Int} (k : KnQ u d v1 v0 q) : 0 ≤ u * 4294967296 + d - q * (v1 * 4294967296 + v0) ∧ u * 4294967296 + d - q * (v1 * 4294967296 + v0) < v1 * 4294967296 + v0 := by
  have h1 := k.lo
  have h2 := k.hi
  rw [Int.add_mul] at h2
  omega

/-- both digits together -/
theorem kn_all {n y p u un1 un0 v q1 q0 r1 r0 : Int} (hp : 0 < p) (hv : v = y * p) (hy : 0 < y) (hn : n * p = u * 18446744073709551616 + (un1 * 4294967296 + un0))
    (h1 : r1 = u * 4294967296 + un1 - q1 * v) (h2 : r0 = r1 * 4294967296 + un0 - q0 * v) (b0 : 0 ≤ r0) (b1 : r0 < v) :
    q1 * 4294967296 + q0 = n / y ∧ r0 / p = n % y := by
  have e0 : n * p = (q1 * 4294967296 + q0) * y * p + r0 := by
    subst h2 h1 hv
    rw [hn]
    grind
  have e1 : r0 = (n - (q1 * 4294967296 + q0) * y) * p := by rw [Int.sub_mul]; omega
  generalize hq : q1 * 4294967296 + q0 = q at *
  have e2 : 0 ≤ n - q * y := by
    apply Classical.byContradiction
    intro hc
    have : (n - q * y) * p ≤ -1 * p := Int.mul_le_mul_of_nonneg_right (by omega) (by omega)
    omega
  have e3 : n - q * y < y := by
    apply Classical.byContradiction
    intro hc
    have : y * p ≤ (n - q * y) * p := Int.mul_le_mul_of_nonneg_right (by omega) (by omega)
    omega
  have e4 : n = (n - q * y) + y * q := by rw [Int.mul_comm y q]; omega
  have hd : n / y = q := by
    rw [e4, Int.add_mul_ediv_left _ _ (by omega), Int.ediv_eq_zero_of_lt e2 e3]; omega
  have hm : n % y = n - q * y := by
    have := Int.emod_def n y
    rw [hd, Int.mul_comm y q] at this
    exact this
  refine ⟨hd.symm, ?_⟩
  rw [e1, Int.mul_ediv_cancel _ (by omega), hm]
end Go.Proofs.Ytbpmbdnhfkfkhaa
namespace Go.Proofs.Ytbpmbdnhfkfkhaa

theorem blen_aux : ∀ (f x : Nat), x < 2 ^ f → x < 2 ^ Lib.bitLenAux f x ∧ (x ≠ 0 → 2 ^ Lib.bitLenAux f x ≤ 2 * x)
  | 0, x, h => by simp at h; subst h; simp [Lib.bitLenAux]
  | f + 1, x, h => by
    unfold Lib.bitLenAux
    by_cases hx : x = 0
    · subst hx; simp
    · rw [if_neg hx]
      have ih := blen_aux f (x / 2) (by rw [Nat.pow_succ] at h; omega)
      rw [Nat.add_comm 1, Nat.pow_succ]
      refine ⟨by omega, fun _ => ?_⟩
      by_cases h2 : x / 2 = 0
      · have h3 : x = 1 := by omega
        subst h3
        have : Lib.bitLenAux f (1 / 2) = 0 := by cases f <;> simp [Lib.bitLenAux]
        rw [this]; simp
      · have := ih.2 h2
        omega
theorem blen_spec (x : Nat) (h : x < 18446744073709551616) : x < 2 ^ Lib.bitLen x ∧ (x ≠ 0 → 2 ^ Lib.bitLen x ≤ 2 * x) := blen_aux 64 x h
theorem blen_le (x : Nat) (h : x < 18446744073709551616) : Lib.bitLen x ≤ 64 := by
  by_cases hx : x = 0
  · subst hx; decide
  · have h1 := (blen_spec x h).2 hx
    apply Classical.byContradiction
    intro hc
    have : 2 ^ 65 ≤ 2 ^ Lib.bitLen x := Nat.pow_le_pow_right (by omega) (by omega)
    omega
theorem blen_pos (x : Nat) (h : x < 18446744073709551616) (hx : x ≠ 0) : 1 ≤ Lib.bitLen x := by
  have h1 := (blen_spec x h).1
  apply Classical.byContradiction
  intro hc
  have : Lib.bitLen x = 0 := by omega
  rw [this] at h1
  omega

theorem or_shift (A b k : Nat) (hb : b < 2 ^ k) (hA : A * 2 ^ k + b < 18446744073709551616) : bits .or .u64 ((A * 2 ^ k : Nat) : Int) (b : Int) = ((A * 2 ^ k + b : Nat) : Int) := by
  rw [u64_or_nat _ _ (by omega) (by omega)]
  have := Nat.two_pow_add_eq_or_of_lt hb A
  rw [Nat.mul_comm (2 ^ k)] at this
  rw [this]
theorem and_mask32 (a : Int) (h0 : 0 ≤ a) (h1 : a ≤ 18446744073709551615) : bits .and .u64 a 4294967295 = a % 4294967296 := by
  obtain ⟨A, rfl⟩ := Int.eq_ofNat_of_zero_le h0
  have h := bits_and_u64_nat A 4294967295 (by omega) (by omega)
  have e : A &&& 4294967295 = A % 4294967296 := Nat.and_two_pow_sub_one_eq_mod A 32
  rw [e] at h
  rw [show (4294967295 : Int) = ((4294967295 : Nat) : Int) from rfl, h]
  omega
theorem and_one (a : Int) (h0 : 0 ≤ a) (h1 : a ≤ 18446744073709551615) : bits .and .u64 a 1 = a % 2 := by
  obtain ⟨A, rfl⟩ := Int.eq_ofNat_of_zero_le h0
  have h := bits_and_u64_nat A 1 (by omega) (by omega)
  have e : A &&& 1 = A % 2 := Nat.and_two_pow_sub_one_eq_mod A 1
  rw [e] at h
  rw [show (1 : Int) = ((1 : Nat) : Int) from rfl, h]
  omega

/-- all that the normalizing of a division by y lays: k the shift, v the divisor, u, un1, un0 the digits -/
structure Norm (h l y : Int) (k : Nat) (v hh lt u ll : Int) : Prop where
  k1 : k ≤ 63
  v0 : 9223372036854775808 ≤ v
  v1 : v ≤ 18446744073709551615
  ev : v = y * 2 ^ k
  hh0 : 0 ≤ hh
  lt0 : 0 ≤ lt
  u0 : 0 ≤ u
  uv : u < v
  ll0 : 0 ≤ ll
  ll1 : ll ≤ 18446744073709551615
  en : (h * 18446744073709551616 + l) * 2 ^ k = u * 18446744073709551616 + ll

theorem norm_of (h l y : Int) (h0 : 0 ≤ h) (h1 : h < y) (l0 : 0 ≤ l) (l1 : l ≤ 18446744073709551615) (y1 : y ≤ 18446744073709551615) :
    ∃ (k : Nat) (v hh lt u ll : Int), (64 - (Lib.bitLen y.toNat : Int)) = k ∧ IntKind.u64.wrap (y * 2 ^ k) = v ∧ IntKind.u64.wrap (h * 2 ^ k) = hh ∧ l / 2 ^ (64 - k) = lt ∧ bits .or .u64 hh lt = u ∧ IntKind.u64.wrap (l * 2 ^ k) = ll ∧ Norm h l y k v hh lt u ll := by
  obtain ⟨H, rfl⟩ := Int.eq_ofNat_of_zero_le h0
  obtain ⟨L, rfl⟩ := Int.eq_ofNat_of_zero_le l0
  obtain ⟨Y, rfl⟩ := Int.eq_ofNat_of_zero_le (show 0 ≤ y by omega)
  have b1 := blen_spec Y (by omega)
  have b2 := blen_le Y (by omega)
  have b3 := blen_pos Y (by omega) (by omega)
  rw [Int.toNat_natCast]
  obtain ⟨k, hk⟩ : ∃ k : Nat, k + Lib.bitLen Y = 64 := ⟨64 - Lib.bitLen Y, by omega⟩
  have hp : 2 ^ k * 2 ^ Lib.bitLen Y = 18446744073709551616 := by rw [← Nat.pow_add, hk]
  have hq : 2 ^ k * 2 ^ (64 - k) = 18446744073709551616 := by rw [← Nat.pow_add, show k + (64 - k) = 64 by omega]
  have hpos : 0 < 2 ^ k := Nat.two_pow_pos k
  have hqos : 0 < 2 ^ (64 - k) := Nat.two_pow_pos _
  have y2 : Y * 2 ^ k < 18446744073709551616 := by
    rw [← hp, Nat.mul_comm]; exact Nat.mul_lt_mul_of_pos_left b1.1 hpos
  have y3 : 18446744073709551616 ≤ 2 * (Y * 2 ^ k) := by
    have := Nat.mul_le_mul_left (2 ^ k) (b1.2 (by omega))
    rw [hp] at this
    rw [Nat.mul_comm Y, ← Nat.mul_assoc, Nat.mul_comm 2, Nat.mul_assoc]; exact this
  have hh1 : H * 2 ^ k + 2 ^ k ≤ Y * 2 ^ k := by
    have : (H + 1) * 2 ^ k ≤ Y * 2 ^ k := Nat.mul_le_mul_right _ (by omega)
    rw [Nat.add_mul] at this; omega
  have lt1 : L / 2 ^ (64 - k) < 2 ^ k := by
    rw [Nat.div_lt_iff_lt_mul hqos, hq]; omega
  have el : L * 2 ^ k = L / 2 ^ (64 - k) * 18446744073709551616 + L * 2 ^ k % 18446744073709551616 := by
    have e1 : L * 2 ^ k / 18446744073709551616 = L / 2 ^ (64 - k) := by
      rw [← hq, Nat.mul_comm L, Nat.mul_div_mul_left _ _ hpos]
    rw [← e1]; omega
  have c1 : ((2 : Int) ^ k) = ((2 ^ k : Nat) : Int) := by simp
  have c2 : ((2 : Int) ^ (64 - k)) = ((2 ^ (64 - k) : Nat) : Int) := by simp
  refine ⟨k, ((Y * 2 ^ k : Nat) : Int), ((H * 2 ^ k : Nat) : Int), ((L / 2 ^ (64 - k) : Nat) : Int), ((H * 2 ^ k + L / 2 ^ (64 - k) : Nat) : Int), ((L * 2 ^ k % 18446744073709551616 : Nat) : Int), by omega, ?_, ?_, ?_, ?_, ?_, ?_⟩
  · rw [c1, ← Int.natCast_mul, IntKind.wrap_u64]; omega
  · rw [c1, ← Int.natCast_mul, IntKind.wrap_u64]; omega
  · rw [c2]; exact (Int.natCast_ediv _ _).symm
  · exact or_shift H _ k lt1 (by omega)
  · rw [c1, ← Int.natCast_mul, IntKind.wrap_u64]; omega
  · refine ⟨by omega, by omega, by omega, by rw [c1, Int.natCast_mul], by omega, by omega, by omega, by omega, by omega, by omega, ?_⟩
    rw [c1]
    have : (H * 18446744073709551616 + L) * 2 ^ k = (H * 2 ^ k + L / 2 ^ (64 - k)) * 18446744073709551616 + L * 2 ^ k % 18446744073709551616 := by
      rw [Nat.add_mul, Nat.add_mul, Nat.mul_right_comm]; omega
    have h2 := congrArg (fun n : Nat => (n : Int)) this
    simp only [Int.natCast_mul, Int.natCast_add] at h2
    simp only [Int.natCast_add, Int.natCast_mul]
    exact h2

theorem kn_start_w {u d v1 v0 q : Int} (k : KnQ u d v1 v0 q) (u1 : u ≤ 18446744073709551615) :
    ∃ a p b : Int, IntKind.u64.wrap (u.tdiv v1) = a ∧ IntKind.u64.wrap (a * v1) = p ∧ IntKind.u64.wrap (u - p) = b ∧ Kn u v1 q a b := by
  have s := Kn.start k
  have h0 := Kn.a0 k s
  have := k.v10
  have := k.u0
  have ht : u.tdiv v1 = u / v1 := Int.tdiv_eq_ediv_of_nonneg k.u0
  refine ⟨u / v1, u / v1 * v1, u - u / v1 * v1, ?_, ?_, ?_, s⟩
  · rw [ht, IntKind.wrap_u64]; have := s.a1; omega
  · have hm : 0 ≤ u / v1 * v1 := Int.mul_nonneg h0 (by omega)
    rw [IntKind.wrap_u64]; have := s.e; have := s.b0; omega
  · rw [IntKind.wrap_u64]; have := s.b0; have := s.b1; omega
theorem kn_rest_w {u d v q : Int} (k : KnQ u d (v / 4294967296) (v % 4294967296) q) :
    ∃ x1 x2 x3 r : Int, IntKind.u64.wrap (u * 4294967296) = x1 ∧ IntKind.u64.wrap (x1 + d) = x2 ∧ IntKind.u64.wrap (q * v) = x3 ∧ IntKind.u64.wrap (x2 - x3) = r ∧ Go.RowKit.Hid (r = u * 4294967296 + d - q * v) ∧ 0 ≤ r ∧ r < v := by
  have h := k.rest
  rw [show v / 4294967296 * 4294967296 + v % 4294967296 = v by omega] at h
  have hv : v < 18446744073709551616 := by have := k.v11; omega
  refine ⟨_, _, _, u * 4294967296 + d - q * v, rfl, rfl, rfl, ?_, rfl, h.1, h.2⟩
  simp only [IntKind.wrap_u64]
  omega
end Go.Proofs.Ytbpmbdnhfkfkhaa
namespace Go.Proofs.Ytbpmbdnhfkfkhaa

theorem root_ex : ∀ n : Nat, ∃ s : Nat, s * s ≤ n ∧ n < (s + 1) * (s + 1)
  | 0 => ⟨0, by omega, by omega⟩
  | n + 1 => by
    obtain ⟨s, h1, h2⟩ := root_ex n
    by_cases h : (s + 1) * (s + 1) ≤ n + 1
    · refine ⟨s + 1, h, ?_⟩
      have : (s + 1 + 1) * (s + 1 + 1) = (s + 1) * (s + 1) + (2 * s + 3) := by grind
      omega
    · exact ⟨s, by omega, by omega⟩
structure IsRoot (n s : Int) : Prop where
  s0 : 0 ≤ s
  lo : s * s ≤ n
  hi : n < (s + 1) * (s + 1)
theorem isRoot_ex {n : Int} (h : 0 ≤ n) : ∃ s, IsRoot n s := by
  obtain ⟨N, rfl⟩ := Int.eq_ofNat_of_zero_le h
  obtain ⟨s, h1, h2⟩ := root_ex N
  refine ⟨(s : Int), by omega, ?_, ?_⟩
  · have := Int.ofNat_le.2 h1
    rw [Int.natCast_mul] at this
    exact this
  · have := Int.ofNat_lt.2 h2
    rw [Int.natCast_mul, Int.natCast_add] at this
    exact this
open Classical in
/-- the greatest whole number whose square is at most n; 0 below 0 -/
noncomputable def rootI (n : Int) : Int := if h : ∃ s, IsRoot n s then Classical.choose h else 0
theorem rootI_is {n : Int} (h : 0 ≤ n) : IsRoot n (rootI n) := by
  unfold rootI
  rw [dif_pos (isRoot_ex h)]
  exact Classical.choose_spec (isRoot_ex h)
theorem sq_lt {a b : Int} (a0 : 0 ≤ a) (h : a < b) : a * a < b * b := by
  have h1 : a * a ≤ a * b := Int.mul_le_mul_of_nonneg_left (by omega) a0
  have h2 : a * b < b * b := Int.mul_lt_mul_of_pos_right h (by omega)
  omega
theorem sq_le {a b : Int} (a0 : 0 ≤ a) (h : a ≤ b) : a * a ≤ b * b := Int.mul_le_mul h h a0 (by omega)
theorem IsRoot.uniq {n s t : Int} (h : IsRoot n s) (k : IsRoot n t) : s = t := by
  obtain ⟨a, b, c⟩ := h
  obtain ⟨d, e, f⟩ := k
  apply Classical.byContradiction
  intro hn
  rcases Int.lt_or_gt_of_ne hn with g | g
  · have := sq_le (a := s + 1) (b := t) (by omega) (by omega); omega
  · have := sq_le (a := t + 1) (b := s) (by omega) (by omega); omega
theorem rootI_eq {n s : Int} (k : IsRoot n s) : rootI n = s := by
  have : 0 ≤ n := by
    have := k.lo
    have : 0 ≤ s * s := Int.mul_nonneg k.s0 k.s0
    omega
  exact (rootI_is this).uniq k
theorem rootI_neg {n : Int} (h : n ≤ 0) : rootI n = 0 := by
  by_cases h0 : n = 0
  · subst h0; exact rootI_eq ⟨by omega, by omega, by omega⟩
  · unfold rootI
    rw [dif_neg]
    rintro ⟨s, k⟩
    have := k.lo
    have : 0 ≤ s * s := Int.mul_nonneg k.s0 k.s0
    omega
/-- a guess whose square is above lies above -/
theorem IsRoot.lt_of {n s r : Int} (k : IsRoot n s) (r0 : 0 ≤ r) (h : n < r * r) : s < r := by
  apply Classical.byContradiction
  intro hn
  have := sq_le r0 (show r ≤ s by omega)
  have := k.lo
  omega
theorem IsRoot.le_of {n s r : Int} (k : IsRoot n s) (h : r * r ≤ n) : r ≤ s := by
  apply Classical.byContradiction
  intro hn
  have := sq_le (show 0 ≤ s + 1 by have := k.s0; omega) (show s + 1 ≤ r by omega)
  have := k.hi
  omega
/-- Newton's step from above stays above -/
theorem newton {n s r : Int} (k : IsRoot n s) (s1 : 1 ≤ s) (h : s ≤ r) : s ≤ n / r + (r - n / r) / 2 := by
  have hr : 0 < r := by omega
  have e : n = n / r * r + n % r := by have := Int.mul_ediv_add_emod n r; rw [Int.mul_comm]; omega
  have h0 := Int.emod_nonneg n (show r ≠ 0 by omega)
  have h1 := Int.emod_lt_of_pos n hr
  generalize n / r = a at *
  generalize n % r = m at *
  apply Classical.byContradiction
  intro hn
  have hs : a + r ≤ 2 * s - 1 := by omega
  have e1 : s * s ≤ a * r + m := by have := k.lo; omega
  -- (a + 1) r > n >= s s, but a + 1 + r <= 2 s
  have e2 : a * r + m < (a + 1) * r := by rw [Int.add_mul]; omega
  have e3 : (a + 1) * r ≤ (2 * s - r) * r := Int.mul_le_mul_of_nonneg_right (by omega) (by omega)
  have e4 : s * s - (2 * s - r) * r = (s - r) * (s - r) := by grind
  have e5 : 0 ≤ (s - r) * (s - r) := by
    rcases Int.le_total 0 (s - r) with g | g
    · exact Int.mul_nonneg g g
    · exact Int.mul_nonneg_of_nonpos_of_nonpos g g
  omega
theorem newton_end {n s r : Int} (k : IsRoot n s) (s1 : 1 ≤ s) (h : s ≤ r) (q : r ≤ n / r) : r = s := by
  have hr : 0 < r := by omega
  have : r * r ≤ n := by
    have h1 : r * r ≤ n / r * r := Int.mul_le_mul_of_nonneg_right q (by omega)
    have := Int.ediv_mul_le n (show r ≠ 0 by omega)
    omega
  have := k.le_of this
  omega
/-- the upper half of n is below any guess from its root on -/
theorem root_hi {n s h l : Int} (k : IsRoot n s) (s1 : 1 ≤ s) (e : n = h * 18446744073709551616 + l) (l0 : 0 ≤ l) (n1 : n < 170141183460469231731687303715884105728) : h < s := by
  apply Classical.byContradiction
  intro hn
  have s2 : s < 18446744073709551614 := by
    apply Classical.byContradiction
    intro hc
    have := sq_le (a := 18446744073709551614) (b := s) (by omega) (by omega)
    have := k.lo
    omega
  have h1 : s * 18446744073709551616 ≤ h * 18446744073709551616 := Int.mul_le_mul_of_nonneg_right (by omega) (by omega)
  have h2 := k.hi
  have h3 : (s + 1) * (s + 1) = s * (s + 2) + 1 := by grind
  have h4 : s * (s + 2) ≤ s * 18446744073709551615 := Int.mul_le_mul_of_nonneg_left (by omega) (by omega)
  omega
theorem root_pos {n s : Int} (k : IsRoot n s) (h : 1 ≤ n) : 1 ≤ s := k.le_of (r := 1) (by omega)
theorem root_small {n s : Int} (k : IsRoot n s) (h : n < 340282366920938463463374607431768211456) : s ≤ 18446744073709551615 := by
  have := k.lt_of (r := 18446744073709551616) (by omega) (by omega)
  omega
end Go.Proofs.Ytbpmbdnhfkfkhaa
namespace Go.Proofs.Ytbpmbdnhfkfkhaa
def d0 (m : Int) : Int := m % 4294967296
def d1 (m : Int) : Int := m / 4294967296 % 4294967296
def d2 (m : Int) : Int := m / 18446744073709551616 % 4294967296
def d3 (m : Int) : Int := m / 79228162514264337593543950336 % 4294967296
/-- four digits of a number below 2^128 -/
structure IsD (a b c d m : Int) : Prop where
  a0 : 0 ≤ a
  a1 : a ≤ 4294967295
  b0 : 0 ≤ b
  b1 : b ≤ 4294967295
  c0 : 0 ≤ c
  c1 : c ≤ 4294967295
  d0 : 0 ≤ d
  d1 : d ≤ 4294967295
  e : a + b * 4294967296 + c * 18446744073709551616 + d * 79228162514264337593543950336 = m
theorem isD_of {m : Int} (h0 : 0 ≤ m) (h1 : m < 340282366920938463463374607431768211456) : IsD (d0 m) (d1 m) (d2 m) (d3 m) m := by
  refine ⟨?_, ?_, ?_, ?_, ?_, ?_, ?_, ?_, ?_⟩ <;> (try unfold Go.Proofs.Ytbpmbdnhfkfkhaa.d0) <;> (try unfold Go.Proofs.Ytbpmbdnhfkfkhaa.d1) <;> (try unfold Go.Proofs.Ytbpmbdnhfkfkhaa.d2) <;> (try unfold Go.Proofs.Ytbpmbdnhfkfkhaa.d3) <;> omega
theorem IsD.eqs {a b c d m : Int} (k : IsD a b c d m) : a = Go.Proofs.Ytbpmbdnhfkfkhaa.d0 m ∧ b = Go.Proofs.Ytbpmbdnhfkfkhaa.d1 m ∧ c = Go.Proofs.Ytbpmbdnhfkfkhaa.d2 m ∧ d = Go.Proofs.Ytbpmbdnhfkfkhaa.d3 m := by
  obtain ⟨_, _, _, _, _, _, _, _, _⟩ := k
  refine ⟨?_, ?_, ?_, ?_⟩ <;> (try unfold Go.Proofs.Ytbpmbdnhfkfkhaa.d0) <;> (try unfold Go.Proofs.Ytbpmbdnhfkfkhaa.d1) <;> (try unfold Go.Proofs.Ytbpmbdnhfkfkhaa.d2) <;> (try unfold Go.Proofs.Ytbpmbdnhfkfkhaa.d3) <;> omega
theorem IsD.range {a b c d m : Int} (k : IsD a b c d m) : 0 ≤ m ∧ m < 340282366920938463463374607431768211456 := by
  obtain ⟨_, _, _, _, _, _, _, _, _⟩ := k
  omega
theorem isD_zero : IsD 0 0 0 0 0 := ⟨by omega, by omega, by omega, by omega, by omega, by omega, by omega, by omega, by omega⟩
theorem d_bd (m : Int) : (0 ≤ d0 m ∧ d0 m ≤ 4294967295) ∧ (0 ≤ d1 m ∧ d1 m ≤ 4294967295) ∧ (0 ≤ d2 m ∧ d2 m ≤ 4294967295) ∧ (0 ≤ d3 m ∧ d3 m ≤ 4294967295) := by
  unfold d0 d1 d2 d3; omega
/-- a number by its sign and its size -/
def sgnW (neg : Bool) (m : Int) : Int := if neg then -m else m
theorem sgnW_abs (n : Int) : sgnW (decide (n < 0)) n.natAbs = n := by
  unfold sgnW
  by_cases h : n < 0
  · rw [decide_eq_true h, if_pos rfl]; omega
  · rw [decide_eq_false h, if_neg (by decide)]; omega
theorem of_d (n : Int) (h : n ≤ 18446744073709551615) (h0 : 0 ≤ n) : n % 4294967296 = d0 n ∧ n / 4294967296 = d1 n ∧ 0 = d2 n ∧ 0 = d3 n := by
  unfold d0 d1 d2 d3; omega
theorem wide_d {h l n : Int} (h0 : 0 ≤ h) (h1 : h ≤ 18446744073709551615) (l0 : 0 ≤ l) (l1 : l ≤ 18446744073709551615) (e : h * 18446744073709551616 + l = n) : l % 4294967296 = d0 n ∧ l / 4294967296 = d1 n ∧ h % 4294967296 = d2 n ∧ h / 4294967296 = d3 n := by
  unfold d0 d1 d2 d3; omega
theorem d_hi {m : Int} (h0 : 0 ≤ m) (h1 : m < 340282366920938463463374607431768211456) : d3 m * 4294967296 + d2 m = m / 18446744073709551616 ∧ d1 m * 4294967296 + d0 m = m % 18446744073709551616 := by
  unfold d0 d1 d2 d3; omega
end Go.Proofs.Ytbpmbdnhfkfkhaa
namespace Go.Proofs.Ytbpmbdnhfkfkhaa
theorem sgn_u64 : IntKind.u64.signed = false := rfl
theorem xor_max (x : Int) (h0 : 0 ≤ x) (h1 : x ≤ 18446744073709551615) : bits .xor .u64 IntKind.u64.max x = 18446744073709551615 - x := by
  obtain ⟨X, rfl⟩ := Int.eq_ofNat_of_zero_le h0
  have hm : IntKind.u64.max = ((18446744073709551615 : Nat) : Int) := rfl
  rw [hm]
  show IntKind.u64.wrap (((BitVec.ofInt 64 ((18446744073709551615 : Nat) : Int)) ^^^ (BitVec.ofInt 64 (X : Int))).toNat : Int) = _
  have e1 : BitVec.ofInt 64 ((18446744073709551615 : Nat) : Int) = BitVec.allOnes 64 := by decide
  rw [e1, BitVec.allOnes_xor, BitVec.toNat_not, BitVec.ofInt_natCast, BitVec.toNat_ofNat, Nat.mod_eq_of_lt (by omega), IntKind.wrap_u64]
  omega
/-- the opposite of a number of 64 bits without a sign, in Go's words -/
theorem turn_ex (x : Int) (h0 : 0 ≤ x) (h1 : x ≤ 18446744073709551615) : ∃ y : Int, bits .xor .u64 IntKind.u64.max x = y ∧ 0 ≤ y ∧ y ≤ 18446744073709551615 ∧ Go.RowKit.Hid (y = 18446744073709551615 - x) :=
  ⟨_, xor_max x h0 h1, by omega, by omega, rfl⟩
end Go.Proofs.Ytbpmbdnhfkfkhaa
namespace Go.Proofs.Ytbpmbdnhfkfkhaa
open Go.RowKit

def clip64 (n : Int) : Int := if n < -9223372036854775808 then -9223372036854775808 else if 9223372036854775807 < n then 9223372036854775807 else n
def out64 (n : Int) : Bool := decide (n < -9223372036854775808 ∨ 9223372036854775807 < n)
/-- the bound on the side of a sign -/
def satS (s : Int) : Int := if 0 < s then 9223372036854775807 else if s < 0 then -9223372036854775808 else 0
/-- the rounded quotient, unbounded -/
def rq (a b : Int) : Int := if (decide (a < 0) != decide (b < 0)) = true then -rndN a.natAbs b.natAbs else rndN a.natAbs b.natAbs
def quoF (a b : Int) : Int := if b = 0 then satS a else clip64 (rq a b)
def quoO (a b : Int) : Bool := if b = 0 then true else out64 (rq a b)
def addF (a b : Int) : Int := clip64 (a + b)
def addO (a b : Int) : Bool := out64 (a + b)
def subF (a b : Int) : Int := clip64 (a - b)
def subO (a b : Int) : Bool := out64 (a - b)
def mulF (a b : Int) : Int := quoF (a * b) 4294967296
def mulO (a b : Int) : Bool := quoO (a * b) 4294967296
def divF (a b : Int) : Int := quoF (a * 4294967296) b
def divO (a b : Int) : Bool := quoO (a * 4294967296) b
def ofF (a : Int) : Int := clip64 (a * 4294967296)
def ofO (a : Int) : Bool := out64 (a * 4294967296)
def absF (a : Int) : Int := if a < 0 then subF 0 a else a
def absO (a : Int) : Bool := if a < 0 then subO 0 a else false
def mixF (a b t : Int) : Int := addF a (mulF (subF b a) t)
def mixO (a b t : Int) : Bool := (subO b a || mulO (subF b a) t) || addO a (mulF (subF b a) t)

def In64 (n : Int) : Prop := -9223372036854775808 ≤ n ∧ n ≤ 9223372036854775807
theorem clip64_in (n : Int) : In64 (clip64 n) := by
  unfold In64 clip64
  by_cases p : n < -9223372036854775808
  · rw [if_pos p]; omega
  · rw [if_neg p]
    by_cases q : 9223372036854775807 < n
    · rw [if_pos q]; omega
    · rw [if_neg q]; omega
theorem satS_in (n : Int) : In64 (satS n) := by
  unfold In64 satS
  by_cases p : 0 < n
  · rw [if_pos p]; omega
  · rw [if_neg p]
    by_cases q : n < 0
    · rw [if_pos q]; omega
    · rw [if_neg q]; omega
theorem quoF_in (a b : Int) : In64 (quoF a b) := by
  unfold quoF
  by_cases p : b = 0
  · rw [if_pos p]; exact satS_in a
  · rw [if_neg p]; exact clip64_in _
theorem addF_in (a b : Int) : In64 (addF a b) := clip64_in _
theorem subF_in (a b : Int) : In64 (subF a b) := clip64_in _
theorem mulF_in (a b : Int) : In64 (mulF a b) := quoF_in _ _
theorem divF_in (a b : Int) : In64 (divF a b) := quoF_in _ _
theorem ofF_in (a : Int) : In64 (ofF a) := clip64_in _
theorem mixF_in (a b t : Int) : In64 (mixF a b t) := clip64_in _
theorem absF_in {a : Int} (h : In64 a) : In64 (absF a) := by
  unfold absF
  by_cases p : a < 0
  · rw [if_pos p]; exact subF_in _ _
  · rw [if_neg p]; exact h
theorem clip64_of {n : Int} (h : In64 n) : clip64 n = n ∧ out64 n = false := by
  obtain ⟨h0, h1⟩ := h
  refine ⟨by unfold clip64; rw [if_neg (by omega), if_neg (by omega)], ?_⟩
  unfold out64; rw [decide_eq_false_iff_not]; omega
theorem clip64_out {n : Int} (h : ¬ In64 n) : clip64 n = satS n ∧ out64 n = true := by
  unfold In64 at h
  refine ⟨?_, by unfold out64; rw [decide_eq_true_iff]; omega⟩
  unfold clip64 satS
  by_cases p : n < -9223372036854775808
  · rw [if_pos p, if_neg (by omega), if_pos (by omega)]
  · rw [if_neg p, if_pos (by omega), if_pos (by omega)]
theorem satS_cmp (n : Int) : satS (cmpI n 0) = satS n := by
  unfold cmpI
  by_cases p : n = 0
  · rw [if_pos p, p]
  · rw [if_neg p]
    by_cases q : n < 0
    · rw [if_pos q]; unfold satS; rw [if_neg (by omega), if_pos (by omega), if_neg (by omega), if_pos (by omega)]
    · rw [if_neg q]; unfold satS; rw [if_pos (by omega), if_pos (by omega)]
/-- what the low half says of whether a wide number is one of 64 bits -/
theorem low64 {n x : Int} (hx : x = (loW n + 9223372036854775808) % 18446744073709551616 - 9223372036854775808) : In64 x ∧ (In64 n → x = n) ∧ (¬ In64 n → x ≠ n) := by
  have : In64 x := by unfold In64; omega
  refine ⟨this, fun h => ?_, fun h e => h (e ▸ this)⟩
  unfold In64 at h; unfold loW at hx; omega
theorem hilo_eq {n m : Int} (h : hiW n = hiW m) (l : loW n = loW m) : n = m := by
  unfold hiW at h; unfold loW at l; omega
theorem rndN_nn {n d : Int} (h : 0 ≤ n) (k : 0 < d) : 0 ≤ rndN n d := by
  have := rnd_ge n d
  have := Int.ediv_nonneg h (by omega : (0 : Int) ≤ d)
  omega
theorem div_fit {a b : Int} (hb : b ≠ 0) : (divB a b = true ↔ In64 (rq a b)) ∧ (divB a b = true → divI a b = rq a b) := by
  have nn := rndN_nn (n := (a.natAbs : Int)) (d := (b.natAbs : Int)) (by omega) (by omega)
  unfold divB divI
  rw [if_neg hb, if_neg hb]
  unfold rq sgnB sgnI In64
  by_cases s : (decide (a < 0) != decide (b < 0)) = true
  · simp only [s, if_true]
    constructor
    · rw [decide_eq_true_iff]; omega
    · intro h; rw [decide_eq_true_iff] at h; rw [if_pos h]
  · simp only [s]
    constructor
    · simp; omega
    · intro h; simp at h; simp [h]
theorem rq_sign {a b : Int} (hb : b ≠ 0) (h : ¬ In64 (rq a b)) : satS (rq a b) = if b < 0 then satS (-(cmpI a 0)) else satS (cmpI a 0) := by
  have nn := rndN_nn (n := (a.natAbs : Int)) (d := (b.natAbs : Int)) (by omega) (by omega)
  have az : a ≠ 0 := by
    intro e; subst e
    apply h
    unfold rq
    have e : rndN ((0 : Int).natAbs : Int) (b.natAbs : Int) = 0 := by unfold rndN; simp
    rw [e]
    unfold In64
    by_cases s : (decide ((0 : Int) < 0) != decide (b < 0)) = true
    · rw [if_pos s]; omega
    · rw [if_neg s]; omega
  unfold In64 at h
  generalize hr : rndN (a.natAbs : Int) (b.natAbs : Int) = r at *
  unfold rq at h ⊢
  rw [hr] at h ⊢
  unfold cmpI
  rw [if_neg az]
  by_cases p : a < 0 <;> by_cases q : b < 0 <;> simp [p, q] at h ⊢ <;> unfold satS <;> (repeat (first | rw [if_pos (by omega)] | rw [if_neg (by omega)]))
end Go.Proofs.Ytbpmbdnhfkfkhaa
namespace Go.Proofs.Ytbpmbdnhfkfkhaa
open Go.RowKit

theorem rndN_near {n d : Int} (_h : 0 ≤ n) (k : 0 < d) : -d ≤ 2 * (rndN n d * d - n) ∧ 2 * (rndN n d * d - n) ≤ d := by
  have e := Int.mul_ediv_add_emod n d
  have r0 := Int.emod_nonneg n (by omega : d ≠ 0)
  have r1 := Int.emod_lt_of_pos n k
  unfold rndN
  generalize n / d = q at *
  generalize n % d = r at *
  have c : d * q = q * d := Int.mul_comm _ _
  by_cases p : d < 2 * r ∨ 2 * r = d ∧ q % 2 = 1
  · rw [if_pos p]
    have : (q + 1) * d = q * d + d := by rw [Int.add_mul, Int.one_mul]
    omega
  · rw [if_neg p]
    omega
theorem rq_near {a b : Int} (hb : 0 < b) : -b ≤ 2 * (rq a b * b - a) ∧ 2 * (rq a b * b - a) ≤ b := by
  have := rndN_near (n := (a.natAbs : Int)) (d := (b.natAbs : Int)) (by omega) (by omega)
  have eb : (b.natAbs : Int) = b := by omega
  rw [eb] at this
  unfold rq
  rw [eb]
  generalize rndN (a.natAbs : Int) b = q at *
  have nb : decide (b < 0) = false := by rw [decide_eq_false_iff_not]; omega
  rw [nb]
  by_cases p : a < 0
  · have e : -q * b = -(q * b) := Int.neg_mul _ _
    rw [if_pos (by simp [p])]
    omega
  · rw [if_neg (by simp [p])]
    omega
theorem rq_mono {a b d : Int} (hd : 0 < d) (h : a ≤ b) : rq a d ≤ rq b d := by
  have A := rq_near (a := a) hd
  have B := rq_near (a := b) hd
  rcases Int.lt_or_le (rq b d) (rq a d) with c | c
  · have h1 : (rq b d + 1) * d ≤ rq a d * d := Int.mul_le_mul_of_nonneg_right (by omega) (by omega)
    have h2 : (rq b d + 1) * d = rq b d * d + d := by rw [Int.add_mul, Int.one_mul]
    have : a = b := by omega
    rw [this]; exact Int.le_refl _
  · exact c
theorem clip64_mono {a b : Int} (h : a ≤ b) : clip64 a ≤ clip64 b := by
  unfold clip64
  split <;> split <;> (try split) <;> (try split) <;> omega
theorem quoF_mono {a b d : Int} (hd : 0 < d) (h : a ≤ b) : quoF a d ≤ quoF b d := by
  unfold quoF
  rw [if_neg (by omega), if_neg (by omega)]
  exact clip64_mono (rq_mono hd h)
theorem mulF_mono {a b c : Int} (hc : 0 ≤ c) (h : a ≤ b) : mulF a c ≤ mulF b c :=
  quoF_mono (by omega) (Int.mul_le_mul_of_nonneg_right h hc)
theorem divF_mono {a b c : Int} (hc : 0 < c) (h : a ≤ b) : divF a c ≤ divF b c :=
  quoF_mono hc (Int.mul_le_mul_of_nonneg_right h (by omega))
theorem mulF_near {a b : Int} (h : mulO a b = false) : -2147483648 ≤ a * b + -(mulF a b * 4294967296) ∧ a * b + -(mulF a b * 4294967296) ≤ 2147483648 := by
  unfold mulO quoO at h
  rw [if_neg (by omega)] at h
  have i : In64 (rq (a * b) 4294967296) := by
    unfold out64 at h; rw [decide_eq_false_iff_not] at h; unfold In64; omega
  unfold mulF quoF
  rw [if_neg (by omega), (clip64_of i).1]
  have := rq_near (a := a * b) (show (0 : Int) < 4294967296 by omega)
  omega
end Go.Proofs.Ytbpmbdnhfkfkhaa
namespace Go.Proofs.Ytbpmbdnhfkfkhaa
open Go.RowKit

theorem halves_mul {X Y x1 x0 y1 y0 A B C D : Int} (hX : X = x1 * 4294967296 + x0) (hY : Y = y1 * 4294967296 + y0) (hA : x1 * y1 = A) (hB : x1 * y0 = B) (hC : x0 * y1 = C) (hD : x0 * y0 = D) :
    X * Y = (A * 4294967296 + B + C) * 4294967296 + D := by
  subst hX hY hA hB hC hD
  grind
theorem rq_mul (x y : Int) : rq (x * y) 4294967296 = sgnW (decide (x < 0) != decide (y < 0)) (rndN ((x.natAbs : Int) * y.natAbs) 4294967296) := by
  have e : ((x * y).natAbs : Int) = (x.natAbs : Int) * y.natAbs := by rw [Int.natAbs_mul]; push_cast; rfl
  unfold rq
  rw [e]
  have z : x * y = 0 → rndN ((x.natAbs : Int) * y.natAbs) 4294967296 = 0 := by
    intro h; rw [← e, h]; decide
  have e2 : ((4294967296 : Int).natAbs : Int) = 4294967296 := by decide
  rw [e2]
  generalize rndN ((x.natAbs : Int) * y.natAbs) 4294967296 = R at *
  unfold sgnW
  by_cases p : x < 0 <;> by_cases q : y < 0
  · have : ¬ x * y < 0 := by have := Int.mul_pos_of_neg_of_neg p q; omega
    simp [p, q, this]
  · by_cases yz : y = 0
    · have h0 : R = 0 := z (by rw [yz, Int.mul_zero])
      simp [h0]
    · have : x * y < 0 := Int.mul_neg_of_neg_of_pos p (by omega)
      simp [p, q, this]
  · by_cases xz : x = 0
    · have h0 : R = 0 := z (by rw [xz, Int.zero_mul])
      simp [h0]
    · have : x * y < 0 := Int.mul_neg_of_pos_of_neg (by omega) q
      simp [p, q, this]
  · have : ¬ x * y < 0 := by have := Int.mul_nonneg (show 0 ≤ x by omega) (show 0 ≤ y by omega); omega
    simp [p, q, this]
theorem mulF_eq (x y : Int) : mulF x y = clip64 (sgnW (decide (x < 0) != decide (y < 0)) (rndN ((x.natAbs : Int) * y.natAbs) 4294967296)) ∧ mulO x y = out64 (sgnW (decide (x < 0) != decide (y < 0)) (rndN ((x.natAbs : Int) * y.natAbs) 4294967296)) := by
  unfold mulF mulO quoF quoO
  rw [if_neg (by decide), if_neg (by decide), rq_mul]
  exact ⟨rfl, rfl⟩
/-- the factors' halves, the products of them, what they bound -/
structure Halves (X Y x1 x0 y1 y0 A B C D R : Int) : Prop where
  x1' : 0 ≤ x1 ∧ x1 ≤ 2147483648
  x0' : 0 ≤ x0 ∧ x0 ≤ 4294967295
  y1' : 0 ≤ y1 ∧ y1 ≤ 2147483648
  y0' : 0 ≤ y0 ∧ y0 ≤ 4294967295
  a : x1 * y1 = A
  b : x1 * y0 = B
  c : x0 * y1 = C
  d : x0 * y0 = D
  a' : 0 ≤ A ∧ A ≤ 4611686018427387904
  b' : 0 ≤ B ∧ B ≤ 9223372036854775808
  c' : 0 ≤ C ∧ C ≤ 9223372036854775808
  d' : 0 ≤ D ∧ D ≤ 18446744065119617025
  r : R = if 4294967296 < 2 * (D % 4294967296) ∨ 2 * (D % 4294967296) = 4294967296 ∧ (A * 4294967296 + B + C + D / 4294967296) % 2 = 1 then A * 4294967296 + B + C + D / 4294967296 + 1 else A * 4294967296 + B + C + D / 4294967296
theorem prod_bd {x y m n : Int} (x0 : 0 ≤ x) (xm : x ≤ m) (y0 : 0 ≤ y) (yn : y ≤ n) : 0 ≤ x * y ∧ x * y ≤ m * n :=
  ⟨Int.mul_nonneg x0 y0, Int.mul_le_mul xm yn y0 (by omega)⟩
theorem halves_of {X Y : Int} (X0 : 0 ≤ X) (X1 : X ≤ 9223372036854775808) (Y0 : 0 ≤ Y) (Y1 : Y ≤ 9223372036854775808) :
    ∃ x1 x0 y1 y0 A B C D R : Int, X / 4294967296 = x1 ∧ X % 4294967296 = x0 ∧ Y / 4294967296 = y1 ∧ Y % 4294967296 = y0 ∧ rndN (X * Y) 4294967296 = R ∧ Halves X Y x1 x0 y1 y0 A B C D R := by
  refine ⟨X / 4294967296, X % 4294967296, Y / 4294967296, Y % 4294967296, _, _, _, _, _, rfl, rfl, rfl, rfl, rfl, ⟨by omega, by omega, by omega, by omega, rfl, rfl, rfl, rfl, ?_, ?_, ?_, ?_, ?_⟩⟩
  · have := prod_bd (x := X / 4294967296) (y := Y / 4294967296) (m := 2147483648) (n := 2147483648) (by omega) (by omega) (by omega) (by omega); omega
  · have := prod_bd (x := X / 4294967296) (y := Y % 4294967296) (m := 2147483648) (n := 4294967295) (by omega) (by omega) (by omega) (by omega); omega
  · have := prod_bd (x := X % 4294967296) (y := Y / 4294967296) (m := 4294967295) (n := 2147483648) (by omega) (by omega) (by omega) (by omega); omega
  · have := prod_bd (x := X % 4294967296) (y := Y % 4294967296) (m := 4294967295) (n := 4294967295) (by omega) (by omega) (by omega) (by omega); omega
  · have e := halves_mul (X := X) (Y := Y) (x1 := X / 4294967296) (x0 := X % 4294967296) (y1 := Y / 4294967296) (y0 := Y % 4294967296) (by omega) (by omega) rfl rfl rfl rfl
    generalize X / 4294967296 * (Y / 4294967296) = A at *
    generalize X / 4294967296 * (Y % 4294967296) = B at *
    generalize X % 4294967296 * (Y / 4294967296) = C at *
    generalize X % 4294967296 * (Y % 4294967296) = D at *
    unfold rndN
    rw [e]
    have e1 : ((A * 4294967296 + B + C) * 4294967296 + D) / 4294967296 = A * 4294967296 + B + C + D / 4294967296 := by omega
    have e2 : ((A * 4294967296 + B + C) * 4294967296 + D) % 4294967296 = D % 4294967296 := by omega
    rw [e1, e2]
end Go.Proofs.Ytbpmbdnhfkfkhaa
namespace Go.Proofs.Ytbpmbdnhfkfkhaa
open Go.RowKit

/-- the upper bits of a number, from bit v + 1 on -/
def ovS (N v : Int) : Int := N / ((2 ^ (v + 1).toNat : Nat) : Int)
/-- bit v -/
def ovBit (N v : Int) : Int := N / ((2 ^ v.toNat : Nat) : Int) % 2
theorem ovS_step (N v : Int) (hv : 0 ≤ v) : ovS N (v - 1) = 2 * ovS N v + ovBit N v := by
  unfold ovS ovBit
  have e1 : (v - 1 + 1).toNat = v.toNat := by omega
  have e2 : (v + 1).toNat = v.toNat + 1 := by omega
  rw [e1, e2, Nat.pow_succ, Int.natCast_mul, ← Int.ediv_ediv_of_nonneg (Int.natCast_nonneg _)]
  omega
theorem ovS_end (N : Int) : ovS N (-1) = N := by unfold ovS; simp
theorem ovS_start {N : Int} (N0 : 0 ≤ N) (N1 : N < 79228162514264337593543950336) : ovS N 95 = 0 := by
  unfold ovS
  exact Int.ediv_eq_zero_of_lt N0 (by have : ((2 ^ ((95 : Int) + 1).toNat : Nat) : Int) = 79228162514264337593543950336 := by decide
                                      omega)
theorem ovS_le (N v : Int) (N0 : 0 ≤ N) (hv : 0 ≤ v) : 2 * ovS N v ≤ N := by
  unfold ovS
  have e2 : (v + 1).toNat = v.toNat + 1 := by omega
  rw [e2]
  have p : (1 : Int) ≤ ((2 ^ v.toNat : Nat) : Int) := by have := Nat.one_le_two_pow (n := v.toNat); omega
  have e3 : ((2 ^ (v.toNat + 1) : Nat) : Int) = 2 * ((2 ^ v.toNat : Nat) : Int) := by rw [Nat.pow_succ]; omega
  rw [e3]
  generalize ((2 ^ v.toNat : Nat) : Int) = P at *
  have h := Int.ediv_mul_le N (show (2 * P) ≠ 0 by omega)
  have q0 := Int.ediv_nonneg N0 (show 0 ≤ 2 * P by omega)
  have : N / (2 * P) * 2 ≤ N / (2 * P) * (2 * P) := Int.mul_le_mul_of_nonneg_left (by omega) q0
  omega
theorem ovBit_bd (N v : Int) : 0 ≤ ovBit N v ∧ ovBit N v ≤ 1 := by unfold ovBit; omega
theorem ovBit_high (x : Int) (s : Nat) : x / ((2 ^ s : Nat) : Int) % 2 = ovBit (x * 4294967296) (s + 32) := by
  unfold ovBit
  have e : ((s : Int) + 32).toNat = 32 + s := by omega
  rw [e, Nat.pow_add, Int.natCast_mul]
  have e2 : ((2 ^ 32 : Nat) : Int) = 4294967296 := by decide
  rw [e2, ← Int.ediv_ediv_of_nonneg (by omega), Int.mul_ediv_cancel _ (by omega)]
theorem ovBit_low (x v : Int) (h0 : 0 ≤ v) (h : v < 32) : (0 : Int) = ovBit (x * 4294967296) v := by
  unfold ovBit
  obtain ⟨s, rfl⟩ := Int.eq_ofNat_of_zero_le h0
  obtain ⟨t, ht⟩ : ∃ t, s + (t + 1) = 32 := ⟨31 - s, by omega⟩
  have e : (4294967296 : Int) = 2 * ((2 ^ t : Nat) : Int) * ((2 ^ s : Nat) : Int) := by
    have : (2 ^ 32 : Nat) = 2 * 2 ^ t * 2 ^ s := by rw [← ht, Nat.pow_add, Nat.pow_succ]; grind
    have h2 := congrArg (fun n : Nat => (n : Int)) this
    simp only [Int.natCast_mul] at h2
    exact h2
  have p : (1 : Int) ≤ ((2 ^ s : Nat) : Int) := by have := Nat.one_le_two_pow (n := s); omega
  have e3 : ((s : Int)).toNat = s := by omega
  rw [e3, e, ← Int.mul_assoc, Int.mul_ediv_cancel _ (by omega)]
  have : x * (2 * ((2 ^ t : Nat) : Int)) = 2 * (x * ((2 ^ t : Nat) : Int)) := by grind
  rw [this]; omega
/-- what the loop knows: quotient and rest of the upper bits -/
structure OvR (N y v q r : Int) : Prop where
  v0 : -1 ≤ v
  v1 : v ≤ 95
  q0 : 0 ≤ q
  q1 : q ≤ 18446744073709551615
  r0 : 0 ≤ r
  r1 : r < y
  e : ovS N v = q * y + r
theorem OvR.start {N y : Int} (N0 : 0 ≤ N) (N1 : N < 79228162514264337593543950336) (y0 : 0 < y) : OvR N y 95 0 0 :=
  ⟨by omega, by omega, by omega, by omega, by omega, y0, by rw [ovS_start N0 N1]; omega⟩
theorem OvR.lo {N y v q r bit : Int} (k : OvR N y v q r) (hv : 0 ≤ v) (hq : q < 9223372036854775808) (hb : bit = ovBit N v) (h : 2 * r + bit < y) : OvR N y (v - 1) (2 * q) (2 * r + bit) := by
  have bb := ovBit_bd N v
  have := k.v1; have := k.q0; have := k.r0
  refine ⟨by omega, by omega, by omega, by omega, by omega, h, ?_⟩
  rw [ovS_step N v hv, k.e, hb]; grind
theorem OvR.hi {N y v q r bit : Int} (k : OvR N y v q r) (hv : 0 ≤ v) (hq : q < 9223372036854775808) (hb : bit = ovBit N v) (h : ¬ 2 * r + bit < y) : OvR N y (v - 1) (2 * q + 1) (2 * r + bit - y) := by
  have bb := ovBit_bd N v
  have := k.v1; have := k.q0; have := k.r0; have := k.r1
  refine ⟨by omega, by omega, by omega, by omega, by omega, by omega, ?_⟩
  rw [ovS_step N v hv, k.e, hb]; grind
theorem OvR.no {N y v q r : Int} (k : OvR N y v q r) (N0 : 0 ≤ N) (hv : 0 ≤ v) (hq : 9223372036854775808 ≤ q) : 18446744073709551615 < rndN N y := by
  have y0 : 0 < y := by have := k.r0; have := k.r1; omega
  have h1 := ovS_le N v N0 hv
  have h2 : 18446744073709551616 * y ≤ N := by
    have : 9223372036854775808 * y ≤ q * y := Int.mul_le_mul_of_nonneg_right hq (by omega)
    have := k.e; have := k.r0; omega
  have h3 : 18446744073709551616 ≤ N / y := Int.le_ediv_of_mul_le y0 h2
  have := rnd_ge N y
  omega
theorem OvR.done {N y q r : Int} (k : OvR N y (-1) q r) : N / y = q ∧ N % y = r := by
  have y0 : 0 < y := by have := k.r0; have := k.r1; omega
  have e := k.e
  rw [ovS_end] at e
  have := k.r0; have := k.r1
  constructor
  · rw [e, Int.add_comm, Int.add_mul_ediv_right _ _ (by omega), Int.ediv_eq_zero_of_lt (by omega) (by omega)]; omega
  · rw [e, Int.add_comm, Int.add_mul_emod_self_right, Int.emod_eq_of_lt (by omega) (by omega)]
/-- what over tells: a rounded quotient of 64 bits -/
def ovQ (N y : Int) : Int := if rndN N y ≤ 18446744073709551615 then rndN N y else 0
def ovB (N y : Int) : Bool := decide (rndN N y ≤ 18446744073709551615)
theorem ov_no {N y : Int} (h : 18446744073709551615 < rndN N y) : 0 = ovQ N y ∧ false = ovB N y := by
  refine ⟨by unfold ovQ; rw [if_neg (by omega)], by unfold ovB; symm; rw [decide_eq_false_iff_not]; omega⟩
theorem ov_yes {N y q : Int} (h : q = rndN N y) (h1 : q ≤ 18446744073709551615) : q = ovQ N y ∧ true = ovB N y := by
  refine ⟨by unfold ovQ; rw [if_pos (by omega)]; exact h, by unfold ovB; symm; rw [decide_eq_true_iff]; omega⟩
theorem rq_div (x y : Int) : rq (x * 4294967296) y = sgnW (decide (x < 0) != decide (y < 0)) (rndN ((x.natAbs : Int) * 4294967296) y.natAbs) := by
  have e : ((x * 4294967296).natAbs : Int) = (x.natAbs : Int) * 4294967296 := by rw [Int.natAbs_mul, Int.natCast_mul]; rfl
  have e2 : decide (x * 4294967296 < 0) = decide (x < 0) := by rw [decide_eq_decide]; omega
  unfold rq sgnW
  rw [e, e2]
end Go.Proofs.Ytbpmbdnhfkfkhaa
namespace Go.Proofs.Ytbpmbdnhfkfkhaa
open Go.RowKit

theorem ovS_bd {N : Int} (N0 : 0 ≤ N) (v : Int) : 0 ≤ ovS N v ∧ ovS N v ≤ N := by
  unfold ovS
  have p : (1 : Int) ≤ ((2 ^ (v + 1).toNat : Nat) : Int) := by have := Nat.one_le_two_pow (n := (v + 1).toNat); omega
  refine ⟨Int.ediv_nonneg N0 (by omega), Int.ediv_le_self _ N0⟩
structure OvW (N y v q r : Int) : Prop where
  v0 : -1 ≤ v
  v1 : v ≤ 127
  q0 : 0 ≤ q
  r0 : 0 ≤ r
  r1 : r < y
  e : ovS N v = q * y + r
theorem OvW.q1 {N y v q r : Int} (k : OvW N y v q r) (y0 : 0 < y) : q ≤ ovS N v := by
  have := k.e; have := k.r0; have := k.q0
  have : q * 1 ≤ q * y := Int.mul_le_mul_of_nonneg_left (by omega) k.q0
  omega
theorem OvW.start {N y : Int} (N0 : 0 ≤ N) (N1 : N < 340282366920938463463374607431768211456) (y0 : 0 < y) : OvW N y 127 0 0 := by
  refine ⟨by omega, by omega, by omega, by omega, y0, ?_⟩
  have : ovS N 127 = 0 := by
    unfold ovS
    exact Int.ediv_eq_zero_of_lt N0 (by have : ((2 ^ ((127 : Int) + 1).toNat : Nat) : Int) = 340282366920938463463374607431768211456 := by decide
                                        omega)
  rw [this]; omega
theorem OvW.lo {N y v q r bit : Int} (k : OvW N y v q r) (hv : 0 ≤ v) (hb : bit = ovBit N v) (h : 2 * r + bit < y) : OvW N y (v - 1) (2 * q) (2 * r + bit) := by
  have bb := ovBit_bd N v
  have := k.v1; have := k.q0; have := k.r0
  refine ⟨by omega, by omega, by omega, by omega, h, ?_⟩
  rw [ovS_step N v hv, k.e, hb]; grind
theorem OvW.hi {N y v q r bit : Int} (k : OvW N y v q r) (hv : 0 ≤ v) (hb : bit = ovBit N v) (h : ¬ 2 * r + bit < y) : OvW N y (v - 1) (2 * q + 1) (2 * r + bit - y) := by
  have bb := ovBit_bd N v
  have := k.v1; have := k.q0; have := k.r0; have := k.r1
  refine ⟨by omega, by omega, by omega, by omega, by omega, ?_⟩
  rw [ovS_step N v hv, k.e, hb]; grind
/-- twice the quotient, and one more, have no more bits than the number -/
theorem OvW.q2 {N y v q r : Int} (k : OvW N y v q r) (N0 : 0 ≤ N) (hv : 0 ≤ v) : 2 * q + 1 ≤ N + 1 := by
  have y0 : 0 < y := by have := k.r0; have := k.r1; omega
  have h1 := ovS_le N v N0 hv
  have h2 := k.q1 y0
  omega
theorem OvW.done {N y q r : Int} (k : OvW N y (-1) q r) : N / y = q ∧ N % y = r := by
  have y0 : 0 < y := by have := k.r0; have := k.r1; omega
  have e := k.e
  rw [ovS_end] at e
  have := k.r0; have := k.r1
  constructor
  · rw [e, Int.add_comm, Int.add_mul_ediv_right _ _ (by omega), Int.ediv_eq_zero_of_lt (by omega) (by omega)]; omega
  · rw [e, Int.add_comm, Int.add_mul_emod_self_right, Int.emod_eq_of_lt (by omega) (by omega)]
/-- the lowest digit of an even number, raised by one -/
theorem d_up (q : Int) : d0 (2 * q) + 1 = d0 (2 * q + 1) ∧ d1 (2 * q) = d1 (2 * q + 1) ∧ d2 (2 * q) = d2 (2 * q + 1) ∧ d3 (2 * q) = d3 (2 * q + 1) ∧ d0 (2 * q) ≤ 4294967294 := by
  unfold d0 d1 d2 d3; omega
theorem ovBit_nat (m : Int) (i : Nat) : m / 2 ^ i % 2 = ovBit m i := by
  unfold ovBit
  have : ((i : Int)).toNat = i := by omega
  rw [this]; simp
end Go.Proofs.Ytbpmbdnhfkfkhaa
namespace Go.Proofs.Ytbpmbdnhfkfkhaa

/-- four digits x, and c at place t, make v -/
structure Acc (t : Nat) (x0 x1 x2 x3 c v : Int) : Prop where
  a0 : 0 ≤ x0
  a1 : x0 ≤ 4294967295
  b0 : 0 ≤ x1
  b1 : x1 ≤ 4294967295
  c0 : 0 ≤ x2
  c1 : x2 ≤ 4294967295
  d0 : 0 ≤ x3
  d1 : x3 ≤ 4294967295
  k0 : 0 ≤ c
  k1 : c ≤ 18446744073709551615
  t4 : t ≤ 4
  e : x0 + x1 * 4294967296 + x2 * 18446744073709551616 + x3 * 79228162514264337593543950336 + c * (if t = 0 then 1 else if t = 1 then 4294967296 else if t = 2 then 18446744073709551616 else if t = 3 then 79228162514264337593543950336 else 340282366920938463463374607431768211456) = v
theorem Acc.done {t : Nat} {x0 x1 x2 x3 c v : Int} (k : Acc t x0 x1 x2 x3 c v) (h : c = 0 ∨ t = 4) (hv : v < 340282366920938463463374607431768211456) : IsD x0 x1 x2 x3 v := by
  obtain ⟨_, _, _, _, _, _, _, _, k0, _, _, e⟩ := k
  have hc : c = 0 := by
    rcases h with h | h
    · exact h
    · subst h
      simp at e
      omega
  subst hc
  exact ⟨by omega, by omega, by omega, by omega, by omega, by omega, by omega, by omega, by omega⟩
theorem Acc.s0 {x0 x1 x2 x3 c v : Int} (k : Acc 0 x0 x1 x2 x3 c v) : Acc 1 ((x0 + c) % 4294967296) x1 x2 x3 (c / 4294967296 + (x0 + c % 4294967296) / 4294967296) v := by
  obtain ⟨_, _, _, _, _, _, _, _, _, _, _, e⟩ := k
  refine ⟨by omega, by omega, by omega, by omega, by omega, by omega, by omega, by omega, by omega, by omega, by omega, ?_⟩
  simp at e ⊢; omega
theorem Acc.s1 {x0 x1 x2 x3 c v : Int} (k : Acc 1 x0 x1 x2 x3 c v) : Acc 2 x0 ((x1 + c) % 4294967296) x2 x3 (c / 4294967296 + (x1 + c % 4294967296) / 4294967296) v := by
  obtain ⟨_, _, _, _, _, _, _, _, _, _, _, e⟩ := k
  refine ⟨by omega, by omega, by omega, by omega, by omega, by omega, by omega, by omega, by omega, by omega, by omega, ?_⟩
  simp at e ⊢; omega
theorem Acc.s2 {x0 x1 x2 x3 c v : Int} (k : Acc 2 x0 x1 x2 x3 c v) : Acc 3 x0 x1 ((x2 + c) % 4294967296) x3 (c / 4294967296 + (x2 + c % 4294967296) / 4294967296) v := by
  obtain ⟨_, _, _, _, _, _, _, _, _, _, _, e⟩ := k
  refine ⟨by omega, by omega, by omega, by omega, by omega, by omega, by omega, by omega, by omega, by omega, by omega, ?_⟩
  simp at e ⊢; omega
theorem Acc.s3 {x0 x1 x2 x3 c v : Int} (k : Acc 3 x0 x1 x2 x3 c v) : Acc 4 x0 x1 x2 ((x3 + c) % 4294967296) (c / 4294967296 + (x3 + c % 4294967296) / 4294967296) v := by
  obtain ⟨_, _, _, _, _, _, _, _, _, _, _, e⟩ := k
  refine ⟨by omega, by omega, by omega, by omega, by omega, by omega, by omega, by omega, by omega, by omega, by omega, ?_⟩
  simp at e ⊢; omega
theorem Acc.start {t : Nat} {x0 x1 x2 x3 u c : Int} (k : IsD x0 x1 x2 x3 u) (c0 : 0 ≤ c) (c1 : c ≤ 18446744073709551615) (t4 : t ≤ 4) : Acc t x0 x1 x2 x3 c (u + c * (if t = 0 then 1 else if t = 1 then 4294967296 else if t = 2 then 18446744073709551616 else if t = 3 then 79228162514264337593543950336 else 340282366920938463463374607431768211456)) := by
  obtain ⟨_, _, _, _, _, _, _, _, e⟩ := k
  exact ⟨by omega, by omega, by omega, by omega, by omega, by omega, by omega, by omega, c0, c1, t4, by rw [e]⟩
/-- the sum of the first products of digits: i whole rows, k of the next -/
def psum (l0 l1 m0 m1 : Int) (i k : Nat) : Int :=
  (if 1 ≤ i ∨ 1 ≤ k then l0 * m0 else 0) + (if 1 ≤ i ∨ 2 ≤ k then l0 * m1 * 4294967296 else 0) + (if 2 ≤ i ∨ i = 1 ∧ 1 ≤ k then l1 * m0 * 4294967296 else 0) + (if 2 ≤ i ∨ i = 1 ∧ 2 ≤ k then l1 * m1 * 18446744073709551616 else 0)
theorem dig_prod {a b : Int} (a0 : 0 ≤ a) (a1 : a ≤ 4294967295) (b0 : 0 ≤ b) (b1 : b ≤ 4294967295) : 0 ≤ a * b ∧ a * b ≤ 18446744065119617025 := by
  refine ⟨Int.mul_nonneg a0 b0, ?_⟩
  have := Int.mul_le_mul a1 b1 b0 (by omega : (0 : Int) ≤ 4294967295)
  omega
theorem psum_all (l0 l1 m0 m1 : Int) : psum l0 l1 m0 m1 2 0 = (l0 + l1 * 4294967296) * (m0 + m1 * 4294967296) := by
  unfold psum; simp; grind
end Go.Proofs.Ytbpmbdnhfkfkhaa
namespace Go.Proofs.Ytbpmbdnhfkfkhaa
open Go.RowKit

noncomputable def sqrtF (a : Int) : Int := rootI (a * 4294967296)
/-- the length whose square is S, rounded down; and whether it does not fit -/
noncomputable def lenF (S : Int) : Int := if S < 85070591730234615865843651857942052864 then rootI S else 9223372036854775807
def lenO (S : Int) : Bool := decide (85070591730234615865843651857942052864 ≤ S)
/-- the sum of the squares -/
def sqs : List Int → Int
  | [] => 0
  | x :: l => x * x + sqs l
theorem sq_nn (x : Int) : 0 ≤ x * x := by
  rcases Int.le_total 0 x with h | h
  · exact Int.mul_nonneg h h
  · exact Int.mul_nonneg_of_nonpos_of_nonpos h h
theorem sq_max {x : Int} (h : In64 x) : x * x ≤ 85070591730234615865843651857942052864 := by
  unfold In64 at h
  rcases Int.le_total 0 x with g | g
  · have := Int.mul_le_mul h.2 h.2 g (by omega : (0 : Int) ≤ 9223372036854775807); omega
  · have h1 : -x ≤ 9223372036854775808 := by omega
    have := Int.mul_le_mul h1 h1 (by omega) (by omega : (0 : Int) ≤ 9223372036854775808)
    rw [Int.neg_mul_neg] at this; omega
theorem sqs_nn : ∀ l, 0 ≤ sqs l
  | [] => by unfold sqs; omega
  | x :: l => by have := sq_nn x; have := sqs_nn l; unfold sqs; omega
theorem sqs_app (l m : List Int) : sqs (l ++ m) = sqs l + sqs m := by
  induction l with
  | nil => simp [sqs]
  | cons x l ih => simp only [List.cons_append, sqs, ih]; omega
theorem sqs_take {l : List Int} {k : Nat} (h : k < l.length) : sqs (l.take (k + 1)) = sqs (l.take k) + l.getD k 0 * l.getD k 0 := by
  rw [List.take_add_one, sqs_app, List.getD_eq_getElem?_getD, List.getElem?_eq_getElem h]
  simp [sqs]
theorem sqs_le (l : List Int) (k : Nat) : sqs (l.take k) ≤ sqs l := by
  have h := congrArg sqs (List.take_append_drop k l)
  rw [sqs_app] at h
  have := sqs_nn (l.drop k)
  omega
theorem rootI_nn (n : Int) : 0 ≤ rootI n := by
  rcases Int.le_total n 0 with h | h
  · rw [rootI_neg h]; omega
  · exact (rootI_is h).s0
theorem rootI_lt {n r : Int} (r0 : 0 < r) (h : n < r * r) : rootI n < r := by
  rcases Int.le_total n 0 with g | g
  · rw [rootI_neg g]; exact r0
  · exact (rootI_is g).lt_of (by omega) h
theorem rootI_ge {n r : Int} (h : r * r ≤ n) : r ≤ rootI n := by
  have := sq_nn r
  exact (rootI_is (by omega)).le_of h
theorem rootI_le {n m : Int} (h : n ≤ m) : rootI n ≤ rootI m := by
  rcases Int.le_total n 0 with g | g
  · rw [rootI_neg g]; exact rootI_nn m
  · have := (rootI_is g).lo
    exact rootI_ge (by omega)
theorem sqrtF_in {a : Int} (h : In64 a) : 0 ≤ sqrtF a ∧ sqrtF a < 281474976710656 := by
  unfold sqrtF In64 at *
  exact ⟨rootI_nn _, rootI_lt (by omega) (by omega)⟩
theorem lenF_in (S : Int) : 0 ≤ lenF S ∧ lenF S ≤ 9223372036854775807 := by
  unfold lenF
  split
  · have := rootI_nn S
    have := rootI_lt (n := S) (r := 9223372036854775808) (by omega) (by omega)
    omega
  · omega
theorem len_fit {S : Int} (h : S < 85070591730234615865843651857942052864) : rootI S ≤ 9223372036854775807 ∧ lenF S = rootI S ∧ lenO S = false := by
  have := rootI_lt (n := S) (r := 9223372036854775808) (by omega) (by omega)
  refine ⟨by omega, ?_, ?_⟩
  · unfold lenF; rw [if_pos h]
  · unfold lenO; rw [decide_eq_false_iff_not]; omega
theorem len_far {S : Int} (h : 85070591730234615865843651857942052864 ≤ S) : ¬ rootI S ≤ 9223372036854775807 ∧ lenF S = 9223372036854775807 ∧ lenO S = true := by
  have := rootI_ge (n := S) (r := 9223372036854775808) (by omega)
  refine ⟨by omega, ?_, ?_⟩
  · unfold lenF; rw [if_neg (by omega)]
  · unfold lenO; rw [decide_eq_true_iff]; exact h
theorem rootI_64 {n : Int} (h : In128 n) : 0 ≤ rootI n ∧ rootI n ≤ 18446744073709551615 := by
  unfold In128 at h
  have := rootI_lt (n := n) (r := 18446744073709551616) (by omega) (by omega)
  exact ⟨rootI_nn n, by omega⟩
end Go.Proofs.Ytbpmbdnhfkfkhaa
namespace Go.Proofs.Ytbpmbdnhfkfkhaa
open Go.RowKit

theorem mul_abs_le {a b x y : Int} (x0 : -a ≤ x) (x1 : x ≤ a) (y0 : -b ≤ y) (y1 : y ≤ b) : -(a * b) ≤ x * y ∧ x * y ≤ a * b := by
  have h1 : 0 ≤ (a - x) * (b + y) := Int.mul_nonneg (by omega) (by omega)
  have h2 : 0 ≤ (a + x) * (b - y) := Int.mul_nonneg (by omega) (by omega)
  have h3 : 0 ≤ (a - x) * (b - y) := Int.mul_nonneg (by omega) (by omega)
  have h4 : 0 ≤ (a + x) * (b + y) := Int.mul_nonneg (by omega) (by omega)
  have e1 : (a - x) * (b + y) = a * b + a * y - x * b - x * y := by grind
  have e2 : (a + x) * (b - y) = a * b - a * y + x * b - x * y := by grind
  have e3 : (a - x) * (b - y) = a * b - a * y - x * b + x * y := by grind
  have e4 : (a + x) * (b + y) = a * b + a * y + x * b + x * y := by grind
  omega
theorem abs_nat {x : Int} (x0 : -9223372036854775807 ≤ x) (x1 : x ≤ 9223372036854775807) : absF x = x.natAbs ∧ absO x = false := by
  unfold absF absO subF subO
  by_cases p : x < 0
  · rw [if_pos p, if_pos p]
    have c := clip64_of (n := 0 - x) ⟨by omega, by omega⟩
    exact ⟨by rw [c.1]; omega, c.2⟩
  · rw [if_neg p, if_neg p]
    exact ⟨by omega, rfl⟩
theorem nat_sq (x : Int) : (x.natAbs : Int) * x.natAbs = x * x := by
  have := Int.natAbs_mul_self (a := x)
  rw [← this]; simp
structure VParts (x y z n : Int) : Prop where
  fit : lenF (x * x + y * y + z * z) = n
  ok : lenO (x * x + y * y + z * z) = false
  fit2 : lenF (x * x + y * y) ≤ n
  ok2 : lenO (x * x + y * y) = false
  root : IsRoot (x * x + y * y + z * z) n
  px : (x.natAbs : Int) ≤ n
  py : (y.natAbs : Int) ≤ n
  pz : (z.natAbs : Int) ≤ n
  sum : n ≤ x.natAbs + y.natAbs + z.natAbs
theorem sq_60 {x : Int} (x0 : -1152921504606846976 ≤ x) (x1 : x ≤ 1152921504606846976) : x * x ≤ 1329227995784915872903807060280344576 := by
  have := (mul_abs_le x0 x1 x0 x1).2; omega
theorem parts_of {x y z : Int} (x0 : -1152921504606846976 ≤ x) (x1 : x ≤ 1152921504606846976) (y0 : -1152921504606846976 ≤ y) (y1 : y ≤ 1152921504606846976) (z0 : -1152921504606846976 ≤ z) (z1 : z ≤ 1152921504606846976) :
    VParts x y z (lenF (x * x + y * y + z * z)) := by
  have sx := sq_60 x0 x1
  have sy := sq_60 y0 y1
  have sz := sq_60 z0 z1
  have nx := sq_nn x
  have ny := sq_nn y
  have nz := sq_nn z
  have L3 := len_fit (S := x * x + y * y + z * z) (by omega)
  have L2 := len_fit (S := x * x + y * y) (by omega)
  have R := rootI_is (n := x * x + y * y + z * z) (by omega)
  have ex := nat_sq x
  have ey := nat_sq y
  have ez := nat_sq z
  refine ⟨rfl, L3.2.2, ?_, L2.2.2, ?_, ?_, ?_, ?_, ?_⟩
  · rw [L3.2.1, L2.2.1]; exact rootI_le (by omega)
  · rw [L3.2.1]; exact R
  · rw [L3.2.1]; exact rootI_ge (by omega)
  · rw [L3.2.1]; exact rootI_ge (by omega)
  · rw [L3.2.1]; exact rootI_ge (by omega)
  · rw [L3.2.1]
    have X0 : (0 : Int) ≤ x.natAbs := by omega
    have Y0 : (0 : Int) ≤ y.natAbs := by omega
    have Z0 : (0 : Int) ≤ z.natAbs := by omega
    generalize (x.natAbs : Int) = X at *
    generalize (y.natAbs : Int) = Y at *
    generalize (z.natAbs : Int) = Z at *
    have p1 := Int.mul_nonneg X0 Y0
    have p2 := Int.mul_nonneg X0 Z0
    have p3 := Int.mul_nonneg Y0 Z0
    have e : (X + Y + Z + 1) * (X + Y + Z + 1) = X * X + Y * Y + Z * Z + 2 * (X * Y) + 2 * (X * Z) + 2 * (Y * Z) + 2 * X + 2 * Y + 2 * Z + 1 := by grind
    have := rootI_lt (n := x * x + y * y + z * z) (r := X + Y + Z + 1) (by omega) (by omega)
    omega
/-- a part of a direction: within half a part, and no more than 1 -/
theorem unit_part {x n : Int} (n0 : 4294967296 ≤ n) (h0 : -n ≤ x) (h1 : x ≤ n) :
    -4294967296 ≤ divF x n ∧ divF x n ≤ 4294967296 ∧ divO x n = false ∧ -n ≤ 2 * (divF x n * n - x * 4294967296) ∧ 2 * (divF x n * n - x * 4294967296) ≤ n := by
  have K := rq_near (a := x * 4294967296) (b := n) (by omega)
  obtain ⟨X, hX⟩ : ∃ X, rq (x * 4294967296) n = X := ⟨_, rfl⟩
  rw [hX] at K
  have up : X ≤ 4294967296 := by
    apply Classical.byContradiction
    intro h
    have := Int.mul_le_mul_of_nonneg_right (show (4294967297 : Int) ≤ X by omega) (show 0 ≤ n by omega)
    omega
  have lo : -4294967296 ≤ X := by
    apply Classical.byContradiction
    intro h
    have := Int.mul_le_mul_of_nonneg_right (show X ≤ (-4294967297 : Int) by omega) (show 0 ≤ n by omega)
    omega
  have c := clip64_of (n := X) ⟨by omega, by omega⟩
  have e1 : divF x n = X := by unfold divF quoF; rw [if_neg (by omega), hX, c.1]
  have e2 : divO x n = false := by unfold divO quoO; rw [if_neg (by omega), hX, c.2]
  rw [e1]
  exact ⟨lo, up, e2, K.1, K.2⟩
theorem one_sum {x y z n X Y Z : Int} (R : IsRoot (x * x + y * y + z * z) n) (n0 : 4294967296 ≤ n)
    (hx : -n ≤ x ∧ x ≤ n) (hy : -n ≤ y ∧ y ≤ n) (hz : -n ≤ z ∧ z ≤ n)
    (kx : -n ≤ 2 * (X * n - x * 4294967296) ∧ 2 * (X * n - x * 4294967296) ≤ n) (ky : -n ≤ 2 * (Y * n - y * 4294967296) ∧ 2 * (Y * n - y * 4294967296) ≤ n) (kz : -n ≤ 2 * (Z * n - z * 4294967296) ∧ 2 * (Z * n - z * 4294967296) ≤ n) :
    18446744073709551616 - 3 * 4294967296 ≤ X * X + Y * Y + Z * Z ∧ X * X + Y * Y + Z * Z ≤ 18446744073709551616 + 5 * 4294967296 + 1 := by
  have part : ∀ {x X : Int}, (-n ≤ x ∧ x ≤ n) → (-n ≤ 2 * (X * n - x * 4294967296) ∧ 2 * (X * n - x * 4294967296) ≤ n) → ∃ a b : Int, X * X * (n * n) = 18446744073709551616 * (x * x) + 4294967296 * a + b ∧ -(n * n) ≤ a ∧ a ≤ n * n ∧ 0 ≤ b ∧ 4 * b ≤ n * n := by
    intro x X hx kx
    obtain ⟨e, he⟩ : ∃ e, X * n - x * 4294967296 = e := ⟨_, rfl⟩
    rw [he] at kx
    have h1 : X * n = x * 4294967296 + e := by omega
    have b1 := mul_abs_le (a := n) (b := n) hx.1 hx.2 kx.1 kx.2
    have b2 := mul_abs_le (a := n) (b := n) kx.1 kx.2 kx.1 kx.2
    have e3 := sq_nn e
    refine ⟨x * (2 * e), e * e, ?_, b1.1, b1.2, e3, ?_⟩
    · have : X * X * (n * n) = (X * n) * (X * n) := by grind
      rw [this, h1]; grind
    · have : 2 * e * (2 * e) = 4 * (e * e) := by grind
      omega
  obtain ⟨a1, b1, q1, q2, q3, q4, q5⟩ := part hx kx
  obtain ⟨a2, b2, r1, r2, r3, r4, r5⟩ := part hy ky
  obtain ⟨a3, b3, s1, s2, s3, s4, s5⟩ := part hz kz
  have lo := R.lo
  have hi := R.hi
  have e9 : (n + 1) * (n + 1) = n * n + 2 * n + 1 := by grind
  have nn := Int.mul_le_mul_of_nonneg_left n0 (show 0 ≤ n by omega)
  have d : (X * X + Y * Y + Z * Z) * (n * n) = X * X * (n * n) + Y * Y * (n * n) + Z * Z * (n * n) := by grind
  obtain ⟨T, eT⟩ : ∃ T, X * X + Y * Y + Z * Z = T := ⟨_, rfl⟩
  rw [eT] at d ⊢
  obtain ⟨S, eS⟩ : ∃ S, x * x + y * y + z * z = S := ⟨_, rfl⟩
  rw [eS] at lo hi
  have hS : 18446744073709551616 * (x * x) + 18446744073709551616 * (y * y) + 18446744073709551616 * (z * z) = 18446744073709551616 * S := by omega
  generalize n * n = P at *
  have P0 : 0 < P := by omega
  constructor
  · apply Classical.byContradiction
    intro h
    have := Int.mul_le_mul_of_nonneg_right (show T ≤ 18446744073709551616 - 3 * 4294967296 - 1 by omega) (show 0 ≤ P by omega)
    omega
  · apply Classical.byContradiction
    intro h
    have := Int.mul_le_mul_of_nonneg_right (show 18446744073709551616 + 5 * 4294967296 + 2 ≤ T by omega) (show 0 ≤ P by omega)
    omega
structure OneOf (x y z n X Y Z : Int) : Prop where
  ox : divO x n = false
  oy : divO y n = false
  oz : divO z n = false
  ok : lenO (X * X + Y * Y + Z * Z) = false
  lo : 4294967288 ≤ lenF (X * X + Y * Y + Z * Z)
  hi : lenF (X * X + Y * Y + Z * Z) ≤ 4294967304
theorem one_of {x y z n : Int} (P : VParts x y z n) (n0 : 4294967296 ≤ n) : OneOf x y z n (divF x n) (divF y n) (divF z n) := by
  have px := P.px
  have py := P.py
  have pz := P.pz
  have ux := unit_part n0 (x := x) (by omega) (by omega)
  have uy := unit_part n0 (x := y) (by omega) (by omega)
  have uz := unit_part n0 (x := z) (by omega) (by omega)
  have T := one_sum P.root n0 ⟨by omega, by omega⟩ ⟨by omega, by omega⟩ ⟨by omega, by omega⟩ ux.2.2.2 uy.2.2.2 uz.2.2.2
  generalize divF x n = X at *
  generalize divF y n = Y at *
  generalize divF z n = Z at *
  have L := len_fit (S := X * X + Y * Y + Z * Z) (by omega)
  refine ⟨ux.2.2.1, uy.2.2.1, uz.2.2.1, L.2.2, ?_, ?_⟩
  · rw [L.2.1]; exact rootI_ge (by omega)
  · rw [L.2.1]
    have := rootI_lt (n := X * X + Y * Y + Z * Z) (r := 4294967305) (by omega) (by omega)
    omega
end Go.Proofs.Ytbpmbdnhfkfkhaa
