/- The arithmetic of a long division by two digits of 32 bits each. No program in sight. -/
namespace Go.Proofs.Ytmdcfnifbkpedaa

/-- one digit: u times 2^32 and d, by v1 times 2^32 and v0; q is the true digit -/
structure KnQ (u d v1 v0 q : Int) : Prop where
  u0 : 0 ≤ u
  d0 : 0 ≤ d
  d1 : d < 4294967296
  v10 : 2147483648 ≤ v1
  v11 : v1 < 4294967296
  v00 : 0 ≤ v0
  v01 : v0 < 4294967296
  uv : u < v1 * 4294967296 + v0
  q0 : 0 ≤ q
  q1 : q < 4294967296
  lo : q * (v1 * 4294967296 + v0) ≤ u * 4294967296 + d
  hi : u * 4294967296 + d < (q + 1) * (v1 * 4294967296 + v0)

theorem KnQ.mk' {u d v1 v0 : Int} (u0 : 0 ≤ u) (d0 : 0 ≤ d) (d1 : d < 4294967296) (v10 : 2147483648 ≤ v1) (v11 : v1 < 4294967296) (v00 : 0 ≤ v0) (v01 : v0 < 4294967296) (uv : u < v1 * 4294967296 + v0) :
    KnQ u d v1 v0 ((u * 4294967296 + d) / (v1 * 4294967296 + v0)) := by
  have hv : 0 < v1 * 4294967296 + v0 := by omega
  refine ⟨u0, d0, d1, v10, v11, v00, v01, uv, Int.ediv_nonneg (by omega) (by omega), ?_, Int.ediv_mul_le _ (by omega), ?_⟩
  · apply Int.ediv_lt_of_lt_mul hv; omega
  · have := Int.lt_ediv_add_one_mul_self (u * 4294967296 + d) hv
    exact this

/-- the guess a with its rest b, at the loop's head -/
structure Kn (u v1 q a b : Int) : Prop where
  e : a * v1 + b = u
  qa : q ≤ a
  a1 : a ≤ 4294967297
  b0 : 0 ≤ b
  b1 : b < 4294967296

theorem Kn.start {u d v1 v0 q : Int} (k : KnQ u d v1 v0 q) : Kn u v1 q (u / v1) (u - u / v1 * v1) := by
  obtain ⟨u0, d0, d1, v10, v11, v00, v01, uv, q0, q1, lo, hi⟩ := k
  have h1 := Int.ediv_mul_le u (show v1 ≠ 0 by omega)
  have h2 := Int.lt_ediv_add_one_mul_self u (show 0 < v1 by omega)
  rw [Int.add_mul] at h2
  refine ⟨by omega, ?_, ?_, by omega, by omega⟩
  · apply Int.le_ediv_of_mul_le (by omega)
    have e1 : q * (v1 * 4294967296 + v0) = q * v1 * 4294967296 + q * v0 := by rw [Int.mul_add, Int.mul_assoc]
    have e2 : 0 ≤ q * v0 := Int.mul_nonneg q0 v00
    omega
  · have : u / v1 < 4294967298 := by
      apply Int.ediv_lt_of_lt_mul (by omega); omega
    omega

theorem Kn.a0 {u d v1 v0 q a b : Int} (k : KnQ u d v1 v0 q) (s : Kn u v1 q a b) : 0 ≤ a := by have := k.q0; have := s.qa; omega

/-- the test asks for one less: the true digit is less -/
theorem Kn.less {u d v1 v0 q a b : Int} (k : KnQ u d v1 v0 q) (s : Kn u v1 q a b) (t : 4294967296 ≤ a ∨ 4294967296 * b + d < a * v0) : q ≤ a - 1 := by
  obtain ⟨u0, d0, d1, v10, v11, v00, v01, uv, q0, q1, lo, hi⟩ := k
  obtain ⟨e, qa, a1, b0, b1⟩ := s
  rcases t with t | t
  · omega
  · apply Classical.byContradiction
    intro hn
    have hq : q = a := by omega
    subst hq
    have e1 : q * (v1 * 4294967296 + v0) = q * v1 * 4294967296 + q * v0 := by rw [Int.mul_add, Int.mul_assoc]
    omega
/-- the next round's guess -/
theorem Kn.next {u d v1 v0 q a b : Int} (k : KnQ u d v1 v0 q) (s : Kn u v1 q a b) (t : 4294967296 ≤ a ∨ 4294967296 * b + d < a * v0) (r : b + v1 < 4294967296) : Kn u v1 q (a - 1) (b + v1) := by
  have hq := Kn.less k s t
  have := k.v10
  obtain ⟨e, qa, a1, b0, b1⟩ := s
  refine ⟨by rw [Int.sub_mul]; omega, hq, by omega, by omega, r⟩
/-- the loop leaves by its test -/
theorem Kn.done {u d v1 v0 q a b : Int} (k : KnQ u d v1 v0 q) (s : Kn u v1 q a b) (t : a * v0 ≤ 4294967296 * b + d) : a = q := by
  obtain ⟨u0, d0, d1, v10, v11, v00, v01, uv, q0, q1, lo, hi⟩ := k
  obtain ⟨e, qa, a1, b0, b1⟩ := s
  apply Classical.byContradiction
  intro hn
  have hq : q + 1 ≤ a := by omega
  have h1 : (q + 1) * (v1 * 4294967296 + v0) ≤ a * (v1 * 4294967296 + v0) := Int.mul_le_mul_of_nonneg_right hq (by omega)
  have e1 : a * (v1 * 4294967296 + v0) = a * v1 * 4294967296 + a * v0 := by rw [Int.mul_add, Int.mul_assoc]
  omega
/-- the loop leaves by its break -/
theorem Kn.broke {u d v1 v0 q a b : Int} (k : KnQ u d v1 v0 q) (s : Kn u v1 q a b) (t : 4294967296 ≤ a ∨ 4294967296 * b + d < a * v0) (r : 4294967296 ≤ b + v1) : a - 1 = q := by
  have hl := Kn.less k s t
  obtain ⟨u0, d0, d1, v10, v11, v00, v01, uv, q0, q1, lo, hi⟩ := k
  obtain ⟨e, qa, a1, b0, b1⟩ := s
  apply Classical.byContradiction
  intro hn
  have hq : q + 1 ≤ a - 1 := by omega
  have h1 : (q + 1) * (v1 * 4294967296 + v0) ≤ (a - 1) * (v1 * 4294967296 + v0) := Int.mul_le_mul_of_nonneg_right hq (by omega)
  have e1 : (a - 1) * (v1 * 4294967296 + v0) = (a - 1) * v1 * 4294967296 + (a - 1) * v0 := by rw [Int.mul_add, Int.mul_assoc]
  have e2 : (a - 1) * v1 = a * v1 - v1 := by rw [Int.sub_mul]; omega
  have h3 : (a - 1) * v0 ≤ 4294967296 * 4294967295 := Int.mul_le_mul (by omega) (by omega) v00 (by omega)
  omega
theorem Kn.prod {u d v1 v0 q a b : Int} (k : KnQ u d v1 v0 q) (s : Kn u v1 q a b) (t : a < 4294967296) : 0 ≤ a * v0 ∧ a * v0 ≤ 18446744065119617025 := by
  have a0 := Kn.a0 k s
  have h3 : a * v0 ≤ 4294967295 * 4294967295 := Int.mul_le_mul (by omega) (by have := k.v01; omega) k.v00 (by omega)
  exact ⟨Int.mul_nonneg a0 k.v00, by omega⟩
/-- the rest behind the digit -/
theorem KnQ.rest {u d v1 v0 q : Int} (k : KnQ u d v1 v0 q) : 0 ≤ u * 4294967296 + d - q * (v1 * 4294967296 + v0) ∧ u * 4294967296 + d - q * (v1 * 4294967296 + v0) < v1 * 4294967296 + v0 := by
  have h1 := k.lo
  have h2 := k.hi
  rw [Int.add_mul] at h2
  omega

/-- both digits together -/
theorem kn_all {n y p u un1 un0 v q1 q0 r1 r0 : Int} (hp : 0 < p) (hv : v = y * p) (hy : 0 < y) (hn : n * p = u * 18446744073709551616 + (un1 * 4294967296 + un0))
    (h1 : r1 = u * 4294967296 + un1 - q1 * v) (h2 : r0 = r1 * 4294967296 + un0 - q0 * v) (b0 : 0 ≤ r0) (b1 : r0 < v) :
    q1 * 4294967296 + q0 = n / y ∧ r0 / p = n % y := by
  have e0 : n * p = (q1 * 4294967296 + q0) * y * p + r0 := by
    subst h2 h1 hv
    rw [hn]
    grind
  have e1 : r0 = (n - (q1 * 4294967296 + q0) * y) * p := by rw [Int.sub_mul]; omega
  generalize hq : q1 * 4294967296 + q0 = q at *
  have e2 : 0 ≤ n - q * y := by
    apply Classical.byContradiction
    intro hc
    have : (n - q * y) * p ≤ -1 * p := Int.mul_le_mul_of_nonneg_right (by omega) (by omega)
    omega
  have e3 : n - q * y < y := by
    apply Classical.byContradiction
    intro hc
    have : y * p ≤ (n - q * y) * p := Int.mul_le_mul_of_nonneg_right (by omega) (by omega)
    omega
  have e4 : n = (n - q * y) + y * q := by rw [Int.mul_comm y q]; omega
  have hd : n / y = q := by
    rw [e4, Int.add_mul_ediv_left _ _ (by omega), Int.ediv_eq_zero_of_lt e2 e3]; omega
  have hm : n % y = n - q * y := by
    have := Int.emod_def n y
    rw [hd, Int.mul_comm y q] at this
    exact this
  refine ⟨hd.symm, ?_⟩
  rw [e1, Int.mul_ediv_cancel _ (by omega), hm]
end Go.Proofs.Ytmdcfnifbkpedaa
