/- Roots of whole numbers, and Newton's steps towards them. No program in sight. -/
namespace Go.Proofs.Ytmdcfnifbkpedaa

theorem root_ex : ∀ n : Nat, ∃ s : Nat, s * s ≤ n ∧ n < (s + 1) * (s + 1)
  | 0 => ⟨0, by omega, by omega⟩
  | n + 1 => by
    obtain ⟨s, h1, h2⟩ := root_ex n
    by_cases h : (s + 1) * (s + 1) ≤ n + 1
    · refine ⟨s + 1, h, ?_⟩
      have : (s + 1 + 1) * (s + 1 + 1) = (s + 1) * (s + 1) + (2 * s + 3) := by grind
      omega
    · exact ⟨s, by omega, by omega⟩
structure IsRoot (n s : Int) : Prop where
  s0 : 0 ≤ s
  lo : s * s ≤ n
  hi : n < (s + 1) * (s + 1)
theorem isRoot_ex {n : Int} (h : 0 ≤ n) : ∃ s, IsRoot n s := by
  obtain ⟨N, rfl⟩ := Int.eq_ofNat_of_zero_le h
  obtain ⟨s, h1, h2⟩ := root_ex N
  refine ⟨(s : Int), by omega, ?_, ?_⟩
  · have := Int.ofNat_le.2 h1
    rw [Int.natCast_mul] at this
    exact this
  · have := Int.ofNat_lt.2 h2
    rw [Int.natCast_mul, Int.natCast_add] at this
    exact this
open Classical in
/-- the greatest whole number whose square is at most n; 0 below 0 -/
noncomputable def rootI (n : Int) : Int := if h : ∃ s, IsRoot n s then Classical.choose h else 0
theorem rootI_is {n : Int} (h : 0 ≤ n) : IsRoot n (rootI n) := by
  unfold rootI
  rw [dif_pos (isRoot_ex h)]
  exact Classical.choose_spec (isRoot_ex h)
theorem sq_lt {a b : Int} (a0 : 0 ≤ a) (h : a < b) : a * a < b * b := by
  have h1 : a * a ≤ a * b := Int.mul_le_mul_of_nonneg_left (by omega) a0
  have h2 : a * b < b * b := Int.mul_lt_mul_of_pos_right h (by omega)
  omega
theorem sq_le {a b : Int} (a0 : 0 ≤ a) (h : a ≤ b) : a * a ≤ b * b := Int.mul_le_mul h h a0 (by omega)
theorem IsRoot.uniq {n s t : Int} (h : IsRoot n s) (k : IsRoot n t) : s = t := by
  obtain ⟨a, b, c⟩ := h
  obtain ⟨d, e, f⟩ := k
  apply Classical.byContradiction
  intro hn
  rcases Int.lt_or_gt_of_ne hn with g | g
  · have := sq_le (a := s + 1) (b := t) (by omega) (by omega); omega
  · have := sq_le (a := t + 1) (b := s) (by omega) (by omega); omega
theorem rootI_eq {n s : Int} (k : IsRoot n s) : rootI n = s := by
  have : 0 ≤ n := by
    have := k.lo
    have : 0 ≤ s * s := Int.mul_nonneg k.s0 k.s0
    omega
  exact (rootI_is this).uniq k
theorem rootI_neg {n : Int} (h : n ≤ 0) : rootI n = 0 := by
  by_cases h0 : n = 0
  · subst h0; exact rootI_eq ⟨by omega, by omega, by omega⟩
  · unfold rootI
    rw [dif_neg]
    rintro ⟨s, k⟩
    have := k.lo
    have : 0 ≤ s * s := Int.mul_nonneg k.s0 k.s0
    omega
/-- a guess whose square is above lies above -/
theorem IsRoot.lt_of {n s r : Int} (k : IsRoot n s) (r0 : 0 ≤ r) (h : n < r * r) : s < r := by
  apply Classical.byContradiction
  intro hn
  have := sq_le r0 (show r ≤ s by omega)
  have := k.lo
  omega
theorem IsRoot.le_of {n s r : Int} (k : IsRoot n s) (h : r * r ≤ n) : r ≤ s := by
  apply Classical.byContradiction
  intro hn
  have := sq_le (show 0 ≤ s + 1 by have := k.s0; omega) (show s + 1 ≤ r by omega)
  have := k.hi
  omega
/-- Newton's step from above stays above -/
theorem newton {n s r : Int} (k : IsRoot n s) (s1 : 1 ≤ s) (h : s ≤ r) : s ≤ n / r + (r - n / r) / 2 := by
  have hr : 0 < r := by omega
  have e : n = n / r * r + n % r := by have := Int.mul_ediv_add_emod n r; rw [Int.mul_comm]; omega
  have h0 := Int.emod_nonneg n (show r ≠ 0 by omega)
  have h1 := Int.emod_lt_of_pos n hr
  generalize n / r = a at *
  generalize n % r = m at *
  apply Classical.byContradiction
  intro hn
  have hs : a + r ≤ 2 * s - 1 := by omega
  have e1 : s * s ≤ a * r + m := by have := k.lo; omega
  -- (a + 1) r > n >= s s, but a + 1 + r <= 2 s
  have e2 : a * r + m < (a + 1) * r := by rw [Int.add_mul]; omega
  have e3 : (a + 1) * r ≤ (2 * s - r) * r := Int.mul_le_mul_of_nonneg_right (by omega) (by omega)
  have e4 : s * s - (2 * s - r) * r = (s - r) * (s - r) := by grind
  have e5 : 0 ≤ (s - r) * (s - r) := by
    rcases Int.le_total 0 (s - r) with g | g
    · exact Int.mul_nonneg g g
    · exact Int.mul_nonneg_of_nonpos_of_nonpos g g
  omega
theorem newton_end {n s r : Int} (k : IsRoot n s) (s1 : 1 ≤ s) (h : s ≤ r) (q : r ≤ n / r) : r = s := by
  have hr : 0 < r := by omega
  have : r * r ≤ n := by
    have h1 : r * r ≤ n / r * r := Int.mul_le_mul_of_nonneg_right q (by omega)
    have := Int.ediv_mul_le n (show r ≠ 0 by omega)
    omega
  have := k.le_of this
  omega
/-- the upper half of n is below any guess from its root on -/
theorem root_hi {n s h l : Int} (k : IsRoot n s) (s1 : 1 ≤ s) (e : n = h * 18446744073709551616 + l) (l0 : 0 ≤ l) (n1 : n < 170141183460469231731687303715884105728) : h < s := by
  apply Classical.byContradiction
  intro hn
  have s2 : s < 18446744073709551614 := by
    apply Classical.byContradiction
    intro hc
    have := sq_le (a := 18446744073709551614) (b := s) (by omega) (by omega)
    have := k.lo
    omega
  have h1 : s * 18446744073709551616 ≤ h * 18446744073709551616 := Int.mul_le_mul_of_nonneg_right (by omega) (by omega)
  have h2 := k.hi
  have h3 : (s + 1) * (s + 1) = s * (s + 2) + 1 := by grind
  have h4 : s * (s + 2) ≤ s * 18446744073709551615 := Int.mul_le_mul_of_nonneg_left (by omega) (by omega)
  omega
theorem root_pos {n s : Int} (k : IsRoot n s) (h : 1 ≤ n) : 1 ≤ s := k.le_of (r := 1) (by omega)
theorem root_small {n s : Int} (k : IsRoot n s) (h : n < 340282366920938463463374607431768211456) : s ≤ 18446744073709551615 := by
  have := k.lt_of (r := 18446744073709551616) (by omega) (by omega)
  omega
end Go.Proofs.Ytmdcfnifbkpedaa
