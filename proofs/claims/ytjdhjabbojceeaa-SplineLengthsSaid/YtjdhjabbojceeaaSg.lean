/- The square of the example of curves, as numbers: its samples, how long, which is nearest. No program in sight. -/
import Derived.Test.YtjdhjabbojceeaaSa
namespace Go.Proofs.Ytjdhjabbojceeaa
open Go.RowKit
set_option linter.unusedVariables false

/-- a root by its bits -/
def isq (n : Nat) : Nat → Nat → Nat
  | 0, r => r
  | b + 1, r => if (r + 2 ^ b) * (r + 2 ^ b) ≤ n then isq n b (r + 2 ^ b) else isq n b r
theorem isq_is (n : Nat) : ∀ b r, r * r ≤ n → n < (r + 2 ^ b) * (r + 2 ^ b) → isq n b r * isq n b r ≤ n ∧ n < (isq n b r + 1) * (isq n b r + 1)
  | 0, r, h, k => ⟨h, k⟩
  | b + 1, r, h, k => by
    unfold isq
    by_cases c : (r + 2 ^ b) * (r + 2 ^ b) ≤ n
    · rw [if_pos c]
      refine isq_is n b _ c ?_
      have e : r + 2 ^ b + 2 ^ b = r + 2 ^ (b + 1) := by rw [Nat.pow_succ]; omega
      rw [e]; exact k
    · rw [if_neg c]
      exact isq_is n b r h (by omega)
theorem root_isq {S : Int} (h0 : 0 ≤ S) (h1 : S < 4722366482869645213696) : rootI S = (isq S.toNat 36 0 : Nat) ∧ 0 ≤ rootI S ∧ rootI S < 68719476736 := by
  have hS : S < (0 + 68719476736) * (0 + 68719476736) := by omega
  obtain ⟨a, b⟩ := isq_is S.toNat 36 0 (by omega) (by show S.toNat < (0 + 68719476736) * (0 + 68719476736); omega)
  generalize isq S.toNat 36 0 = s at *
  have a' : ((s : Int) * s) ≤ S := by have : ((s * s : Nat) : Int) ≤ (S.toNat : Int) := Int.ofNat_le.mpr a
                                      rw [Int.toNat_of_nonneg h0] at this; rwa [Int.natCast_mul] at this
  have b' : S < ((s : Int) + 1) * (s + 1) := by
    have : (S.toNat : Int) < (((s + 1) * (s + 1) : Nat) : Int) := Int.ofNat_lt.mpr b
    rw [Int.toNat_of_nonneg h0, Int.natCast_mul] at this; exact this
  have e := rootI_eq (n := S) (s := (s : Int)) ⟨by omega, a', b'⟩
  refine ⟨e, by rw [e]; omega, ?_⟩
  rw [e]
  apply Classical.byContradiction; intro c
  have := Int.mul_le_mul (show (68719476736 : Int) ≤ s by omega) (show (68719476736 : Int) ≤ s by omega) (by omega) (by omega)
  omega
def sqX (i : Nat) : Int := if i = 0 then 0 else if i = 1 then 34359738368 else if i = 2 then 34359738368 else 0
def sqY (i : Nat) : Int := if i = 0 then 0 else if i = 1 then 0 else if i = 2 then 34359738368 else 34359738368
def qS (i : Nat) : Int := (sampX 4 sqX ((i + 1) % 32) - sampX 4 sqX i) * (sampX 4 sqX ((i + 1) % 32) - sampX 4 sqX i) + (sampX 4 sqY ((i + 1) % 32) - sampX 4 sqY i) * (sampX 4 sqY ((i + 1) % 32) - sampX 4 sqY i)
/-- lengths by roots of bits -/
def lenT : Nat → Int
  | 0 => 0
  | i + 1 => lenT i + (isq (qS i).toNat 36 0 : Nat)
theorem q_ev : lineR 4 sqX sqY = 0 ∧ sampO 4 sqX sqY 32 = false ∧ (∀ i, i < 32 → (-1099511627776 ≤ sampX 4 sqX i ∧ sampX 4 sqX i ≤ 1099511627776) ∧ -1099511627776 ≤ sampX 4 sqY i ∧ sampX 4 sqY i ≤ 1099511627776) ∧ (∀ i, i < 32 → 0 ≤ qS i ∧ qS i < 4722366482869645213696) ∧ 137438953472 < lenT 32 := by decide +kernel
theorem q_near : ∀ i, i < 32 → dSq (sampX 4 sqX) (sampX 4 sqY) 38654705664 (-4294967296) 8 ≤ dSq (sampX 4 sqX) (sampX 4 sqY) 38654705664 (-4294967296) i ∧ (i < 8 → dSq (sampX 4 sqX) (sampX 4 sqY) 38654705664 (-4294967296) 8 < dSq (sampX 4 sqX) (sampX 4 sqY) 38654705664 (-4294967296) i) := by decide +kernel
theorem q_nearest : nearestI 32 (sampX 4 sqX) (sampX 4 sqY) 38654705664 (-4294967296) = 8 := by
  have R : nearN 32 (sampX 4 sqX) (sampX 4 sqY) := fun i hi => by
    have := q_ev.2.2.1 i hi
    unfold Rg; omega
  unfold nearestI
  rw [if_pos ⟨R, by unfold Rg; omega, by unfold Rg; omega⟩]
  obtain ⟨a, b, c, d⟩ := nrU_is (sampX 4 sqX) (sampX 4 sqY) 38654705664 (-4294967296) 32 (by omega)
  generalize nrU (sampX 4 sqX) (sampX 4 sqY) 38654705664 (-4294967296) 32 = r at *
  have h1 := c 8 (by omega)
  have h2 := q_near r.toNat (by omega)
  rcases Int.lt_trichotomy r 8 with l | l | l
  · have := h2.2 (by omega); omega
  · exact l
  · have := d 8 (by omega); omega
theorem q_len : ∀ i, i ≤ 32 → lenS 32 (sampX 4 sqX) (sampX 4 sqY) i = lenT i ∧ lenSO 32 (sampX 4 sqX) (sampX 4 sqY) i = false ∧ 0 ≤ lenT i ∧ lenT i ≤ (i : Int) * 68719476736
  | 0, _ => ⟨rfl, rfl, Int.le_refl _, by show (0 : Int) ≤ _; omega⟩
  | i + 1, h => by
    obtain ⟨e1, e2, e3, e4⟩ := q_len i (by omega)
    have hm : (i + 1) % 32 < 32 := Nat.mod_lt _ (by omega)
    obtain ⟨⟨x0, x1⟩, y0, y1⟩ := q_ev.2.2.1 i (by omega)
    obtain ⟨⟨x2, x3⟩, y2, y3⟩ := q_ev.2.2.1 _ hm
    obtain ⟨s0, s1⟩ := q_ev.2.2.2.1 i (by omega)
    have w1 : wayX 32 (sampX 4 sqX) i = sampX 4 sqX ((i + 1) % 32) - sampX 4 sqX i ∧ subO (sampX 4 sqX ((i + 1) % 32)) (sampX 4 sqX i) = false := clip64_of (by unfold In64; omega)
    have w2 : wayX 32 (sampX 4 sqY) i = sampX 4 sqY ((i + 1) % 32) - sampX 4 sqY i ∧ subO (sampX 4 sqY ((i + 1) % 32)) (sampX 4 sqY i) = false := clip64_of (by unfold In64; omega)
    have eS : wayX 32 (sampX 4 sqX) i * wayX 32 (sampX 4 sqX) i + wayX 32 (sampX 4 sqY) i * wayX 32 (sampX 4 sqY) i = qS i := by rw [w1.1, w2.1]; rfl
    obtain ⟨r0, r1, r2⟩ := root_isq s0 s1
    obtain ⟨-, l1, l2⟩ := len_fit (S := qS i) (by omega)
    have L : lenS 32 (sampX 4 sqX) (sampX 4 sqY) (i + 1) = addF (lenT i) (rootI (qS i)) := by
      show addF (lenS 32 (sampX 4 sqX) (sampX 4 sqY) i) (lenF _) = _
      rw [eS, e1, l1]
    have A := sadd_fit (x := lenT i) (y := rootI (qS i)) (by unfold In64; omega)
    have T : lenT (i + 1) = lenT i + rootI (qS i) := by rw [r0]; rfl
    refine ⟨by rw [L, A.1, T], ?_, by rw [T]; omega, by rw [T]; push_cast; omega⟩
    show (lenSO 32 (sampX 4 sqX) (sampX 4 sqY) i || (subO _ _ || subO _ _ || lenO _ || addO (lenS 32 (sampX 4 sqX) (sampX 4 sqY) i) (lenF _))) = false
    rw [e2, w1.2, w2.2, eS, l2, e1, l1, A.2]; rfl
end Go.Proofs.Ytjdhjabbojceeaa
