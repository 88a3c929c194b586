/- Products digit by digit: the arithmetic. No program in sight. -/
import Derived.Test.YtmdcfnifbkpedaaFm
namespace Go.Proofs.Ytmdcfnifbkpedaa

/-- four digits x, and c at place t, make v -/
structure Acc (t : Nat) (x0 x1 x2 x3 c v : Int) : Prop where
  a0 : 0 ≤ x0
  a1 : x0 ≤ 4294967295
  b0 : 0 ≤ x1
  b1 : x1 ≤ 4294967295
  c0 : 0 ≤ x2
  c1 : x2 ≤ 4294967295
  d0 : 0 ≤ x3
  d1 : x3 ≤ 4294967295
  k0 : 0 ≤ c
  k1 : c ≤ 18446744073709551615
  t4 : t ≤ 4
  e : x0 + x1 * 4294967296 + x2 * 18446744073709551616 + x3 * 79228162514264337593543950336 + c * (if t = 0 then 1 else if t = 1 then 4294967296 else if t = 2 then 18446744073709551616 else if t = 3 then 79228162514264337593543950336 else 340282366920938463463374607431768211456) = v
theorem Acc.done {t : Nat} {x0 x1 x2 x3 c v : Int} (k : Acc t x0 x1 x2 x3 c v) (h : c = 0 ∨ t = 4) (hv : v < 340282366920938463463374607431768211456) : IsD x0 x1 x2 x3 v := by
  obtain ⟨_, _, _, _, _, _, _, _, k0, _, _, e⟩ := k
  have hc : c = 0 := by
    rcases h with h | h
    · exact h
    · subst h
      simp at e
      omega
  subst hc
  exact ⟨by omega, by omega, by omega, by omega, by omega, by omega, by omega, by omega, by omega⟩
theorem Acc.s0 {x0 x1 x2 x3 c v : Int} (k : Acc 0 x0 x1 x2 x3 c v) : Acc 1 ((x0 + c) % 4294967296) x1 x2 x3 (c / 4294967296 + (x0 + c % 4294967296) / 4294967296) v := by
  obtain ⟨_, _, _, _, _, _, _, _, _, _, _, e⟩ := k
  refine ⟨by omega, by omega, by omega, by omega, by omega, by omega, by omega, by omega, by omega, by omega, by omega, ?_⟩
  simp at e ⊢; omega
theorem Acc.s1 {x0 x1 x2 x3 c v : Int} (k : Acc 1 x0 x1 x2 x3 c v) : Acc 2 x0 ((x1 + c) % 4294967296) x2 x3 (c / 4294967296 + (x1 + c % 4294967296) / 4294967296) v := by
  obtain ⟨_, _, _, _, _, _, _, _, _, _, _, e⟩ := k
  refine ⟨by omega, by omega, by omega, by omega, by omega, by omega, by omega, by omega, by omega, by omega, by omega, ?_⟩
  simp at e ⊢; omega
theorem Acc.s2 {x0 x1 x2 x3 c v : Int} (k : Acc 2 x0 x1 x2 x3 c v) : Acc 3 x0 x1 ((x2 + c) % 4294967296) x3 (c / 4294967296 + (x2 + c % 4294967296) / 4294967296) v := by
  obtain ⟨_, _, _, _, _, _, _, _, _, _, _, e⟩ := k
  refine ⟨by omega, by omega, by omega, by omega, by omega, by omega, by omega, by omega, by omega, by omega, by omega, ?_⟩
  simp at e ⊢; omega
theorem Acc.s3 {x0 x1 x2 x3 c v : Int} (k : Acc 3 x0 x1 x2 x3 c v) : Acc 4 x0 x1 x2 ((x3 + c) % 4294967296) (c / 4294967296 + (x3 + c % 4294967296) / 4294967296) v := by
  obtain ⟨_, _, _, _, _, _, _, _, _, _, _, e⟩ := k
  refine ⟨by omega, by omega, by omega, by omega, by omega, by omega, by omega, by omega, by omega, by omega, by omega, ?_⟩
  simp at e ⊢; omega
theorem Acc.start {t : Nat} {x0 x1 x2 x3 u c : Int} (k : IsD x0 x1 x2 x3 u) (c0 : 0 ≤ c) (c1 : c ≤ 18446744073709551615) (t4 : t ≤ 4) : Acc t x0 x1 x2 x3 c (u + c * (if t = 0 then 1 else if t = 1 then 4294967296 else if t = 2 then 18446744073709551616 else if t = 3 then 79228162514264337593543950336 else 340282366920938463463374607431768211456)) := by
  obtain ⟨_, _, _, _, _, _, _, _, e⟩ := k
  exact ⟨by omega, by omega, by omega, by omega, by omega, by omega, by omega, by omega, c0, c1, t4, by rw [e]⟩
/-- the sum of the first products of digits: i whole rows, k of the next -/
def psum (l0 l1 m0 m1 : Int) (i k : Nat) : Int :=
  (if 1 ≤ i ∨ 1 ≤ k then l0 * m0 else 0) + (if 1 ≤ i ∨ 2 ≤ k then l0 * m1 * 4294967296 else 0) + (if 2 ≤ i ∨ i = 1 ∧ 1 ≤ k then l1 * m0 * 4294967296 else 0) + (if 2 ≤ i ∨ i = 1 ∧ 2 ≤ k then l1 * m1 * 18446744073709551616 else 0)
theorem dig_prod {a b : Int} (a0 : 0 ≤ a) (a1 : a ≤ 4294967295) (b0 : 0 ≤ b) (b1 : b ≤ 4294967295) : 0 ≤ a * b ∧ a * b ≤ 18446744065119617025 := by
  refine ⟨Int.mul_nonneg a0 b0, ?_⟩
  have := Int.mul_le_mul a1 b1 b0 (by omega : (0 : Int) ≤ 4294967295)
  omega
theorem psum_all (l0 l1 m0 m1 : Int) : psum l0 l1 m0 m1 2 0 = (l0 + l1 * 4294967296) * (m0 + m1 * 4294967296) := by
  unfold psum; simp; grind
end Go.Proofs.Ytmdcfnifbkpedaa
