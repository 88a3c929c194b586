/- Products of vectors: numbers alone (VecSquare). No program in sight. -/
import Derived.Test.YtjdhjabbojceeaaBn
namespace Go.Proofs.Ytjdhjabbojceeaa
open Go.RowKit
set_option linter.unusedVariables false

theorem rq_exact32 (a : Int) : rq (a * 4294967296) 4294967296 = a := by
  have := rq_near (a := a * 4294967296) (b := 4294967296) (by omega)
  omega
/-- a product that is small fits, and is as small -/
theorem mul_small {a b M : Int} (M1 : M ≤ 4611686018427387904) (h0 : -(M * 4294967296) ≤ a * b) (h1 : a * b ≤ M * 4294967296) :
    mulO a b = false ∧ -M ≤ mulF a b ∧ mulF a b ≤ M ∧ -2147483648 ≤ a * b - mulF a b * 4294967296 ∧ a * b - mulF a b * 4294967296 ≤ 2147483648 := by
  have l := rq_mono (a := -M * 4294967296) (b := a * b) (d := 4294967296) (by omega) (by omega)
  have u := rq_mono (a := a * b) (b := M * 4294967296) (d := 4294967296) (by omega) h1
  rw [rq_exact32] at l u
  have n := rq_near (a := a * b) (b := 4294967296) (by omega)
  have c := clip64_of (n := rq (a * b) 4294967296) ⟨by omega, by omega⟩
  have e : mulF a b = rq (a * b) 4294967296 := by unfold mulF quoF; rw [if_neg (by omega), c.1]
  refine ⟨by unfold mulO quoO; rw [if_neg (by omega), c.2], ?_⟩
  rw [e]
  omega
theorem add_small {a b : Int} (h0 : -9223372036854775807 ≤ a + b) (h1 : a + b ≤ 9223372036854775807) : addF a b = a + b ∧ addO a b = false := by
  have c := clip64_of (n := a + b) ⟨by omega, by omega⟩
  exact ⟨c.1, c.2⟩
theorem sub_small {a b : Int} (h0 : -9223372036854775807 ≤ a - b) (h1 : a - b ≤ 9223372036854775807) : subF a b = a - b ∧ subO a b = false := by
  have c := clip64_of (n := a - b) ⟨by omega, by omega⟩
  exact ⟨c.1, c.2⟩
theorem mulF_comm (a b : Int) : mulF a b = mulF b a ∧ mulO a b = mulO b a := by
  unfold mulF mulO; rw [Int.mul_comm a b]; exact ⟨rfl, rfl⟩
/-- a part of a cross product, of parts of 2^9 at most -/
def crossF (p q r s : Int) : Int := subF (mulF p q) (mulF r s)
def crossO (p q r s : Int) : Bool := mulO p q || mulO r s || subO (mulF p q) (mulF r s)
def dotF (a1 a2 a3 b1 b2 b3 : Int) : Int := addF (addF (mulF a1 b1) (mulF a2 b2)) (mulF a3 b3)
def Sm (x : Int) : Prop := -2199023255552 ≤ x ∧ x ≤ 2199023255552
theorem cross_small {p q r s : Int} (hp : Sm p) (hq : Sm q) (hr : Sm r) (hs : Sm s) :
    crossF p q r s = mulF p q - mulF r s ∧ mulO p q = false ∧ mulO r s = false ∧ subO (mulF p q) (mulF r s) = false ∧ -2251799813685248 ≤ crossF p q r s ∧ crossF p q r s ≤ 2251799813685248 ∧
    -4294967296 ≤ (p * q - r * s) - crossF p q r s * 4294967296 ∧ (p * q - r * s) - crossF p q r s * 4294967296 ≤ 4294967296 ∧ crossF q p s r = crossF p q r s ∧ crossF r s p q = -crossF p q r s ∧ subO (mulF r s) (mulF p q) = false := by
  unfold Sm at *
  have e1 := mul_abs_le hp.1 hp.2 hq.1 hq.2
  have e2 := mul_abs_le hr.1 hr.2 hs.1 hs.2
  have m1 := mul_small (a := p) (b := q) (M := 1125899906842624) (by omega) (by omega) (by omega)
  have m2 := mul_small (a := r) (b := s) (M := 1125899906842624) (by omega) (by omega) (by omega)
  have d := sub_small (a := mulF p q) (b := mulF r s) (by omega) (by omega)
  have d2 := sub_small (a := mulF r s) (b := mulF p q) (by omega) (by omega)
  unfold crossF
  rw [(mulF_comm q p).1, (mulF_comm s r).1, d.1, d2.1]
  exact ⟨rfl, m1.1, m2.1, d.2, by omega, by omega, by omega, by omega, rfl, by omega, d2.2⟩
theorem dot_small {c1 c2 c3 a1 a2 a3 : Int} (h1 : -2251799813685248 ≤ c1 ∧ c1 ≤ 2251799813685248) (h2 : -2251799813685248 ≤ c2 ∧ c2 ≤ 2251799813685248) (h3 : -2251799813685248 ≤ c3 ∧ c3 ≤ 2251799813685248) (k1 : Sm a1) (k2 : Sm a2) (k3 : Sm a3) :
    dotF c1 c2 c3 a1 a2 a3 = mulF c1 a1 + mulF c2 a2 + mulF c3 a3 ∧ (mulO c1 a1 = false ∧ mulO c2 a2 = false ∧ addO (mulF c1 a1) (mulF c2 a2) = false ∧ mulO c3 a3 = false ∧ addO (addF (mulF c1 a1) (mulF c2 a2)) (mulF c3 a3) = false) ∧
    -6442450944 ≤ (c1 * a1 + c2 * a2 + c3 * a3) - dotF c1 c2 c3 a1 a2 a3 * 4294967296 ∧ (c1 * a1 + c2 * a2 + c3 * a3) - dotF c1 c2 c3 a1 a2 a3 * 4294967296 ≤ 6442450944 := by
  unfold Sm at *
  have e1 := mul_abs_le h1.1 h1.2 k1.1 k1.2
  have e2 := mul_abs_le h2.1 h2.2 k2.1 k2.2
  have e3 := mul_abs_le h3.1 h3.2 k3.1 k3.2
  have m1 := mul_small (a := c1) (b := a1) (M := 1152921504606846976) (by omega) (by omega) (by omega)
  have m2 := mul_small (a := c2) (b := a2) (M := 1152921504606846976) (by omega) (by omega) (by omega)
  have m3 := mul_small (a := c3) (b := a3) (M := 1152921504606846976) (by omega) (by omega) (by omega)
  have s1 := add_small (a := mulF c1 a1) (b := mulF c2 a2) (by omega) (by omega)
  have s2 := add_small (a := mulF c1 a1 + mulF c2 a2) (b := mulF c3 a3) (by omega) (by omega)
  unfold dotF
  rw [s1.1, s2.1]
  exact ⟨rfl, ⟨m1.1, m2.1, s1.2, m3.1, s2.2⟩, by omega, by omega⟩
/-- a cross product is square to a factor, but for 2^-20 -/
theorem square_to {a1 a2 a3 b1 b2 b3 c1 c2 c3 : Int} (k1 : Sm a1) (k2 : Sm a2) (k3 : Sm a3)
    (e1 : -4294967296 ≤ (a2 * b3 - a3 * b2) - c1 * 4294967296 ∧ (a2 * b3 - a3 * b2) - c1 * 4294967296 ≤ 4294967296)
    (e2 : -4294967296 ≤ (a3 * b1 - a1 * b3) - c2 * 4294967296 ∧ (a3 * b1 - a1 * b3) - c2 * 4294967296 ≤ 4294967296)
    (e3 : -4294967296 ≤ (a1 * b2 - a2 * b1) - c3 * 4294967296 ∧ (a1 * b2 - a2 * b1) - c3 * 4294967296 ≤ 4294967296) :
    -6597069766656 ≤ c1 * a1 + c2 * a2 + c3 * a3 ∧ c1 * a1 + c2 * a2 + c3 * a3 ≤ 6597069766656 := by
  unfold Sm at *
  have f1 := mul_abs_le e1.1 e1.2 k1.1 k1.2
  have f2 := mul_abs_le e2.1 e2.2 k2.1 k2.2
  have f3 := mul_abs_le e3.1 e3.2 k3.1 k3.2
  have key : ((a2 * b3 - a3 * b2) - c1 * 4294967296) * a1 + ((a3 * b1 - a1 * b3) - c2 * 4294967296) * a2 + ((a1 * b2 - a2 * b1) - c3 * 4294967296) * a3 = -(4294967296 * (c1 * a1 + c2 * a2 + c3 * a3)) := by grind
  omega
theorem square_to' {a1 a2 a3 b1 b2 b3 c1 c2 c3 : Int} (k1 : Sm b1) (k2 : Sm b2) (k3 : Sm b3)
    (e1 : -4294967296 ≤ (a2 * b3 - a3 * b2) - c1 * 4294967296 ∧ (a2 * b3 - a3 * b2) - c1 * 4294967296 ≤ 4294967296)
    (e2 : -4294967296 ≤ (a3 * b1 - a1 * b3) - c2 * 4294967296 ∧ (a3 * b1 - a1 * b3) - c2 * 4294967296 ≤ 4294967296)
    (e3 : -4294967296 ≤ (a1 * b2 - a2 * b1) - c3 * 4294967296 ∧ (a1 * b2 - a2 * b1) - c3 * 4294967296 ≤ 4294967296) :
    -6597069766656 ≤ c1 * b1 + c2 * b2 + c3 * b3 ∧ c1 * b1 + c2 * b2 + c3 * b3 ≤ 6597069766656 := by
  unfold Sm at *
  have f1 := mul_abs_le e1.1 e1.2 k1.1 k1.2
  have f2 := mul_abs_le e2.1 e2.2 k2.1 k2.2
  have f3 := mul_abs_le e3.1 e3.2 k3.1 k3.2
  have key : ((a2 * b3 - a3 * b2) - c1 * 4294967296) * b1 + ((a3 * b1 - a1 * b3) - c2 * 4294967296) * b2 + ((a1 * b2 - a2 * b1) - c3 * 4294967296) * b3 = -(4294967296 * (c1 * b1 + c2 * b2 + c3 * b3)) := by grind
  omega
end Go.Proofs.Ytjdhjabbojceeaa
