/- Curves through points as numbers: places, samples, lengths, the nearest. No program in sight. -/
import Derived.Test.YtjdhjabbojceeaaOa
import Derived.Test.YtjdhjabbojceeaaNa
import Derived.Test.YtjdhjabbojceeaaBn
namespace Go.Proofs.Ytjdhjabbojceeaa
open Go.RowKit
set_option linter.unusedVariables false

def nearN (n : Nat) (X Y : Nat → Int) : Prop := ∀ i, i < n → Rg (X i) ∧ Rg (Y i)
instance (n : Nat) (X Y : Nat → Int) : Decidable (nearN n X Y) := by unfold nearN; exact inferInstance
def lineR (n : Nat) (X Y : Nat → Int) : Int := if n < 3 ∨ 64 < n then 42 else if nearN n X Y then 0 else 40
theorem lineR_ok {n : Nat} {X Y : Nat → Int} (h : lineR n X Y = 0) : 3 ≤ n ∧ n ≤ 64 ∧ nearN n X Y := by
  unfold lineR at h
  by_cases a : n < 3 ∨ 64 < n
  · rw [if_pos a] at h; omega
  · rw [if_neg a] at h
    by_cases b : nearN n X Y
    · exact ⟨by omega, by omega, b⟩
    · rw [if_neg b] at h; omega
/-- one coordinate of a place -/
def oneF (p0 p1 p2 p3 t : Int) : Int :=
  mulF (addF (2 * p1) (mulF (addF (p2 - p0) (mulF (addF (2 * p0 - 5 * p1 + 4 * p2 - p3) (mulF (3 * p1 - p0 - 3 * p2 + p3) t)) t)) t)) 2147483648
def oneO (p0 p1 p2 p3 t : Int) : Bool :=
  mulO (3 * p1 - p0 - 3 * p2 + p3) t || addO (2 * p0 - 5 * p1 + 4 * p2 - p3) (mulF (3 * p1 - p0 - 3 * p2 + p3) t) ||
  mulO (addF (2 * p0 - 5 * p1 + 4 * p2 - p3) (mulF (3 * p1 - p0 - 3 * p2 + p3) t)) t || addO (p2 - p0) (mulF (addF (2 * p0 - 5 * p1 + 4 * p2 - p3) (mulF (3 * p1 - p0 - 3 * p2 + p3) t)) t) ||
  mulO (addF (p2 - p0) (mulF (addF (2 * p0 - 5 * p1 + 4 * p2 - p3) (mulF (3 * p1 - p0 - 3 * p2 + p3) t)) t)) t || addO (2 * p1) (mulF (addF (p2 - p0) (mulF (addF (2 * p0 - 5 * p1 + 4 * p2 - p3) (mulF (3 * p1 - p0 - 3 * p2 + p3) t)) t)) t) ||
  mulO (addF (2 * p1) (mulF (addF (p2 - p0) (mulF (addF (2 * p0 - 5 * p1 + 4 * p2 - p3) (mulF (3 * p1 - p0 - 3 * p2 + p3) t)) t)) t)) 2147483648
/-- a piece's number, gone round -/
def kOf (n : Nat) (i : Int) : Nat := (i % (n : Int)).toNat
theorem kOf_lt {n : Nat} (h : 0 < n) (i : Int) : kOf n i < n := by
  unfold kOf
  have := Int.emod_nonneg i (show (n : Int) ≠ 0 by omega)
  have := Int.emod_lt_of_pos i (show (0 : Int) < n by omega)
  omega
theorem kOf_at {n k : Nat} (h : k < n) : kOf n (k : Int) = k := by
  unfold kOf
  rw [Int.emod_eq_of_lt (by omega) (by omega)]; rfl
def atSp (n : Nat) (X : Nat → Int) (k : Nat) (t : Int) : Int := oneF (X ((k + n - 1) % n)) (X k) (X ((k + 1) % n)) (X ((k + 2) % n)) t
def atO (n : Nat) (X : Nat → Int) (k : Nat) (t : Int) : Bool := oneO (X ((k + n - 1) % n)) (X k) (X ((k + 1) % n)) (X ((k + 2) % n)) t
/-- a place, of any line, of any piece -/
def placeX (n : Nat) (X Y : Nat → Int) (i t : Int) : Int := if lineR n X Y = 0 then atSp n X (kOf n i) t else 0
def placeY (n : Nat) (X Y : Nat → Int) (i t : Int) : Int := if lineR n X Y = 0 then atSp n Y (kOf n i) t else 0
def placeO (n : Nat) (X Y : Nat → Int) (i t : Int) : Bool := if lineR n X Y = 0 then atO n X (kOf n i) t || atO n Y (kOf n i) t else false
/-- samples: how many, where, and whether all fits up to one -/
def sampN (n : Nat) (X Y : Nat → Int) : Nat := if lineR n X Y = 0 then n * 8 else 0
def sampX (n : Nat) (X : Nat → Int) (s : Nat) : Int := atSp n X (s / 8) (((s % 8 : Nat) : Int) * 536870912)
def sampO (n : Nat) (X Y : Nat → Int) : Nat → Bool
  | 0 => false
  | s + 1 => sampO n X Y s || (atO n X (s / 8) (((s % 8 : Nat) : Int) * 536870912) || atO n Y (s / 8) (((s % 8 : Nat) : Int) * 536870912))
/-- how far along a sample is -/
def wayX (n : Nat) (X : Nat → Int) (i : Nat) : Int := subF (X ((i + 1) % n)) (X i)
noncomputable def lenS (n : Nat) (X Y : Nat → Int) : Nat → Int
  | 0 => 0
  | i + 1 => addF (lenS n X Y i) (lenF (wayX n X i * wayX n X i + wayX n Y i * wayX n Y i))
noncomputable def lenSO (n : Nat) (X Y : Nat → Int) : Nat → Bool
  | 0 => false
  | i + 1 => lenSO n X Y i || (subO (X ((i + 1) % n)) (X i) || subO (Y ((i + 1) % n)) (Y i) || lenO (wayX n X i * wayX n X i + wayX n Y i * wayX n Y i) || addO (lenS n X Y i) (lenF (wayX n X i * wayX n X i + wayX n Y i * wayX n Y i)))
/-- exact squares of distances; the first of the nearest -/
def dSq (X Y : Nat → Int) (px py : Int) (i : Nat) : Int := (X i - px) * (X i - px) + (Y i - py) * (Y i - py)
def nrU (X Y : Nat → Int) (px py : Int) : Nat → Int
  | 0 => -1
  | k + 1 => if nrU X Y px py k < 0 ∨ dSq X Y px py k < dSq X Y px py (nrU X Y px py k).toNat then (k : Int) else nrU X Y px py k
def nearestI (n : Nat) (X Y : Nat → Int) (px py : Int) : Int := if nearN n X Y ∧ Rg px ∧ Rg py then nrU X Y px py n else -1
theorem nrU_is (X Y : Nat → Int) (px py : Int) : ∀ k, 0 < k → 0 ≤ nrU X Y px py k ∧ nrU X Y px py k < (k : Int) ∧ (∀ i, i < k → dSq X Y px py (nrU X Y px py k).toNat ≤ dSq X Y px py i) ∧ ∀ i, i < (nrU X Y px py k).toNat → dSq X Y px py (nrU X Y px py k).toNat < dSq X Y px py i
  | 0, h => absurd h (by omega)
  | k + 1, _ => by
    by_cases h0 : k = 0
    · subst h0
      have e : nrU X Y px py 1 = 0 := by show (if nrU X Y px py 0 < 0 ∨ _ then ((0 : Nat) : Int) else _) = 0; rw [if_pos (Or.inl (by show (-1 : Int) < 0; omega))]; rfl
      rw [e]
      refine ⟨by omega, by omega, fun i hi => ?_, fun i hi => absurd hi (by show ¬ i < 0; omega)⟩
      have e2 : i = 0 := by omega
      subst e2; exact Int.le_refl _
    · obtain ⟨a, b, c, d⟩ := nrU_is X Y px py k (by omega)
      by_cases h : nrU X Y px py k < 0 ∨ dSq X Y px py k < dSq X Y px py (nrU X Y px py k).toNat
      · have e : nrU X Y px py (k + 1) = (k : Int) := if_pos h
        rw [e, show ((k : Int)).toNat = k from rfl]
        have hk : dSq X Y px py k < dSq X Y px py (nrU X Y px py k).toNat := by rcases h with h | h; omega; exact h
        refine ⟨by omega, by omega, fun i hi => ?_, fun i hi => ?_⟩
        · rcases Nat.lt_or_ge i k with l | l
          · have := c i l; omega
          · have e2 : i = k := by omega
            subst e2; exact Int.le_refl _
        · have := c i hi; omega
      · have e : nrU X Y px py (k + 1) = nrU X Y px py k := if_neg h
        rw [e]
        refine ⟨a, by omega, fun i hi => ?_, d⟩
        rcases Nat.lt_or_ge i k with l | l
        · exact c i l
        · have e2 : i = k := by omega
          subst e2; omega
/-! ### Each piece begins at its point -/
theorem mul_zero' (c : Int) : mulF c 0 = 0 ∧ mulO c 0 = false := by
  have e : rq 0 4294967296 = 0 := rq_zero (by omega)
  have h : In64 (rq 0 4294967296) := by rw [e]; unfold In64; omega
  unfold mulF mulO quoF quoO
  rw [Int.mul_zero, if_neg (by omega), if_neg (by omega)]
  have := clip64_of h
  rw [this.1, this.2]; exact ⟨e, rfl⟩
theorem mul_by {x t m : Int} (h : x * t = m * 4294967296) (hm : In64 m) : mulF x t = m ∧ mulO x t = false := by
  have e : rq (m * 4294967296) 4294967296 = m := rq_even (by omega)
  unfold mulF mulO quoF quoO
  rw [h, if_neg (by omega), if_neg (by omega), e]
  exact clip64_of hm
theorem sadd_fit {x y : Int} (h : In64 (x + y)) : addF x y = x + y ∧ addO x y = false := clip64_of h
theorem one_begins {p0 p1 p2 p3 : Int} (h0 : Rg p0) (h1 : Rg p1) (h2 : Rg p2) (h3 : Rg p3) : oneF p0 p1 p2 p3 0 = p1 ∧ oneO p0 p1 p2 p3 0 = false := by
  unfold Rg at *
  have z := fun c => (mul_zero' c)
  have a1 := sadd_fit (x := 2 * p0 - 5 * p1 + 4 * p2 - p3) (y := 0) (by unfold In64; omega)
  have a2 := sadd_fit (x := p2 - p0) (y := 0) (by unfold In64; omega)
  have a3 := sadd_fit (x := 2 * p1) (y := 0) (by unfold In64; omega)
  have m := mul_by (x := 2 * p1) (t := 2147483648) (m := p1) (by omega) (by unfold In64; omega)
  rw [Int.add_zero] at a1 a2 a3
  unfold oneF oneO
  simp only [(z _).1, (z _).2, a1.1, a1.2, a2.1, a2.2, a3.1, a3.2, m.1, m.2, Bool.or_self]
  exact ⟨trivial, trivial⟩
theorem one_ends {p0 p1 p2 p3 : Int} (h0 : Rg p0) (h1 : Rg p1) (h2 : Rg p2) (h3 : Rg p3) : oneF p0 p1 p2 p3 4294967296 = p2 ∧ oneO p0 p1 p2 p3 4294967296 = false := by
  unfold Rg at *
  have i := fun x (h : In64 x) => mul_by (x := x) (t := 4294967296) (m := x) rfl h
  have m1 := i (3 * p1 - p0 - 3 * p2 + p3) (by unfold In64; omega)
  have a1 := sadd_fit (x := 2 * p0 - 5 * p1 + 4 * p2 - p3) (y := 3 * p1 - p0 - 3 * p2 + p3) (by unfold In64; omega)
  have m2 := i (2 * p0 - 5 * p1 + 4 * p2 - p3 + (3 * p1 - p0 - 3 * p2 + p3)) (by unfold In64; omega)
  have a2 := sadd_fit (x := p2 - p0) (y := 2 * p0 - 5 * p1 + 4 * p2 - p3 + (3 * p1 - p0 - 3 * p2 + p3)) (by unfold In64; omega)
  have m3 := i (p2 - p0 + (2 * p0 - 5 * p1 + 4 * p2 - p3 + (3 * p1 - p0 - 3 * p2 + p3))) (by unfold In64; omega)
  have a3 := sadd_fit (x := 2 * p1) (y := p2 - p0 + (2 * p0 - 5 * p1 + 4 * p2 - p3 + (3 * p1 - p0 - 3 * p2 + p3))) (by unfold In64; omega)
  have m := mul_by (x := 2 * p1 + (p2 - p0 + (2 * p0 - 5 * p1 + 4 * p2 - p3 + (3 * p1 - p0 - 3 * p2 + p3)))) (t := 2147483648) (m := p2) (by omega) (by unfold In64; omega)
  unfold oneF oneO
  simp only [m1.1, m1.2, a1.1, a1.2, m2.1, m2.2, a2.1, a2.2, m3.1, m3.2, a3.1, a3.2, m.1, m.2, Bool.or_self]
  exact ⟨trivial, trivial⟩
theorem place_ends {n : Nat} {X Y : Nat → Int} (h : lineR n X Y = 0) {k : Nat} (hk : k < n) :
    (placeX n X Y (k : Int) 0 = X k ∧ placeY n X Y (k : Int) 0 = Y k ∧ placeO n X Y (k : Int) 0 = false) ∧
    (placeX n X Y (k : Int) 4294967296 = X ((k + 1) % n) ∧ placeY n X Y (k : Int) 4294967296 = Y ((k + 1) % n) ∧ placeO n X Y (k : Int) 4294967296 = false) := by
  obtain ⟨l0, l1, l2⟩ := lineR_ok h
  have m : ∀ j, j % n < n := fun j => Nat.mod_lt _ (by omega)
  have x0 := one_begins (l2 _ (m (k + n - 1))).1 (l2 _ hk).1 (l2 _ (m (k + 1))).1 (l2 _ (m (k + 2))).1
  have y0 := one_begins (l2 _ (m (k + n - 1))).2 (l2 _ hk).2 (l2 _ (m (k + 1))).2 (l2 _ (m (k + 2))).2
  have x1 := one_ends (l2 _ (m (k + n - 1))).1 (l2 _ hk).1 (l2 _ (m (k + 1))).1 (l2 _ (m (k + 2))).1
  have y1 := one_ends (l2 _ (m (k + n - 1))).2 (l2 _ hk).2 (l2 _ (m (k + 1))).2 (l2 _ (m (k + 2))).2
  unfold placeX placeY placeO atSp atO
  rw [if_pos h, if_pos h, if_pos h, if_pos h, if_pos h, if_pos h, kOf_at hk]
  exact ⟨⟨x0.1, y0.1, by rw [x0.2, y0.2]; rfl⟩, x1.1, y1.1, by rw [x1.2, y1.2]; rfl⟩
end Go.Proofs.Ytjdhjabbojceeaa
