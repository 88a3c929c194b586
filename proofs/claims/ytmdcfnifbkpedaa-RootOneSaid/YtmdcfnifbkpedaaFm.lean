/- Numbers of 128 bits by four digits of 32 bits. No program in sight. -/
import Derived.Test.YtmdcfnifbkpedaaWm
namespace Go.Proofs.Ytmdcfnifbkpedaa
def d0 (m : Int) : Int := m % 4294967296
def d1 (m : Int) : Int := m / 4294967296 % 4294967296
def d2 (m : Int) : Int := m / 18446744073709551616 % 4294967296
def d3 (m : Int) : Int := m / 79228162514264337593543950336 % 4294967296
/-- four digits of a number below 2^128 -/
structure IsD (a b c d m : Int) : Prop where
  a0 : 0 ≤ a
  a1 : a ≤ 4294967295
  b0 : 0 ≤ b
  b1 : b ≤ 4294967295
  c0 : 0 ≤ c
  c1 : c ≤ 4294967295
  d0 : 0 ≤ d
  d1 : d ≤ 4294967295
  e : a + b * 4294967296 + c * 18446744073709551616 + d * 79228162514264337593543950336 = m
theorem isD_of {m : Int} (h0 : 0 ≤ m) (h1 : m < 340282366920938463463374607431768211456) : IsD (d0 m) (d1 m) (d2 m) (d3 m) m := by
  refine ⟨?_, ?_, ?_, ?_, ?_, ?_, ?_, ?_, ?_⟩ <;> (try unfold Go.Proofs.Ytmdcfnifbkpedaa.d0) <;> (try unfold Go.Proofs.Ytmdcfnifbkpedaa.d1) <;> (try unfold Go.Proofs.Ytmdcfnifbkpedaa.d2) <;> (try unfold Go.Proofs.Ytmdcfnifbkpedaa.d3) <;> omega
theorem IsD.eqs {a b c d m : Int} (k : IsD a b c d m) : a = Go.Proofs.Ytmdcfnifbkpedaa.d0 m ∧ b = Go.Proofs.Ytmdcfnifbkpedaa.d1 m ∧ c = Go.Proofs.Ytmdcfnifbkpedaa.d2 m ∧ d = Go.Proofs.Ytmdcfnifbkpedaa.d3 m := by
  obtain ⟨_, _, _, _, _, _, _, _, _⟩ := k
  refine ⟨?_, ?_, ?_, ?_⟩ <;> (try unfold Go.Proofs.Ytmdcfnifbkpedaa.d0) <;> (try unfold Go.Proofs.Ytmdcfnifbkpedaa.d1) <;> (try unfold Go.Proofs.Ytmdcfnifbkpedaa.d2) <;> (try unfold Go.Proofs.Ytmdcfnifbkpedaa.d3) <;> omega
theorem IsD.range {a b c d m : Int} (k : IsD a b c d m) : 0 ≤ m ∧ m < 340282366920938463463374607431768211456 := by
  obtain ⟨_, _, _, _, _, _, _, _, _⟩ := k
  omega
theorem isD_zero : IsD 0 0 0 0 0 := ⟨by omega, by omega, by omega, by omega, by omega, by omega, by omega, by omega, by omega⟩
theorem d_bd (m : Int) : (0 ≤ d0 m ∧ d0 m ≤ 4294967295) ∧ (0 ≤ d1 m ∧ d1 m ≤ 4294967295) ∧ (0 ≤ d2 m ∧ d2 m ≤ 4294967295) ∧ (0 ≤ d3 m ∧ d3 m ≤ 4294967295) := by
  unfold d0 d1 d2 d3; omega
/-- a number by its sign and its size -/
def sgnW (neg : Bool) (m : Int) : Int := if neg then -m else m
theorem sgnW_abs (n : Int) : sgnW (decide (n < 0)) n.natAbs = n := by
  unfold sgnW
  by_cases h : n < 0
  · rw [decide_eq_true h, if_pos rfl]; omega
  · rw [decide_eq_false h, if_neg (by decide)]; omega
theorem of_d (n : Int) (h : n ≤ 18446744073709551615) (h0 : 0 ≤ n) : n % 4294967296 = d0 n ∧ n / 4294967296 = d1 n ∧ 0 = d2 n ∧ 0 = d3 n := by
  unfold d0 d1 d2 d3; omega
theorem wide_d {h l n : Int} (h0 : 0 ≤ h) (h1 : h ≤ 18446744073709551615) (l0 : 0 ≤ l) (l1 : l ≤ 18446744073709551615) (e : h * 18446744073709551616 + l = n) : l % 4294967296 = d0 n ∧ l / 4294967296 = d1 n ∧ h % 4294967296 = d2 n ∧ h / 4294967296 = d3 n := by
  unfold d0 d1 d2 d3; omega
theorem d_hi {m : Int} (h0 : 0 ≤ m) (h1 : m < 340282366920938463463374607431768211456) : d3 m * 4294967296 + d2 m = m / 18446744073709551616 ∧ d1 m * 4294967296 + d0 m = m % 18446744073709551616 := by
  unfold d0 d1 d2 d3; omega
end Go.Proofs.Ytmdcfnifbkpedaa
