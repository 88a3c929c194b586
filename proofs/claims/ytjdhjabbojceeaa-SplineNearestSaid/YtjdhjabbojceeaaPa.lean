/- Panes as numbers: what is wrong first, what is told, between which bounds. No program in sight. -/
import Derived.Test.YtjdhjabbojceeaaOa
namespace Go.Proofs.Ytjdhjabbojceeaa
open Go.RowKit
set_option linter.unusedVariables false

/-- a slice of numbers: where it lies, and what it reads as -/
structure Sl where
  a : Option Addr
  n : Nat
  c : Nat
  v : Nat → Int
/-- a pane: columns, rows' places, and the rows -/
structure Pn where
  x : Sl
  y : Sl
  a : Option Addr
  n : Nat
  c : Nat
  r : Nat → Sl
def inS (s : Sl) : Prop := ∀ i, i < s.n → inT (s.v i)
def upS (s : Sl) : Prop := ∀ i, i < s.n → 0 < i → s.v (i - 1) < s.v i
instance (n : Int) : Decidable (inT n) := by unfold inT; exact inferInstance
instance (s : Sl) : Decidable (inS s) := by unfold inS; exact inferInstance
instance (s : Sl) : Decidable (upS s) := by unfold upS; exact inferInstance
def shapeP (p : Pn) : Prop := (2 ≤ p.x.n ∧ p.x.n ≤ 32 ∧ 2 ≤ p.y.n ∧ p.y.n ≤ 32 ∧ p.n = p.y.n) ∧ ∀ i, i < p.n → (p.r i).n = p.x.n
def rangeP (p : Pn) : Prop := (inS p.x ∧ inS p.y) ∧ ∀ i, i < p.n → inS (p.r i)
def orderP (p : Pn) : Prop := upS p.x ∧ upS p.y
instance (p : Pn) : Decidable (shapeP p) := by unfold shapeP; exact inferInstance
instance (p : Pn) : Decidable (rangeP p) := by unfold rangeP; exact inferInstance
instance (p : Pn) : Decidable (orderP p) := by unfold orderP; exact inferInstance
def paneR (p : Pn) : Int := if shapeP p then (if rangeP p then (if orderP p then 0 else 41) else 40) else 42
theorem paneR_ok {p : Pn} (h : paneR p = 0) : shapeP p ∧ rangeP p ∧ orderP p := by
  unfold paneR at h
  by_cases s : shapeP p
  · rw [if_pos s] at h
    by_cases r : rangeP p
    · rw [if_pos r] at h
      by_cases o : orderP p
      · exact ⟨s, r, o⟩
      · rw [if_neg o] at h; omega
    · rw [if_neg r] at h; omega
  · rw [if_neg s] at h; omega
/-- how many points a row has -/
def rowN (p : Pn) (i : Nat) : Nat := if i < p.n then min p.x.n (p.r i).n else 0
/-- what each row tells at x -/
def rowV (p : Pn) (x : Int) (i : Nat) : Int := evalN p.x.n p.x.v (p.r i).v x
def evalP (p : Pn) (x y : Int) : Int := if paneR p = 0 then evalN p.y.n p.y.v (rowV p x) y else 0
def minV (v : Nat → Int) (a : Int) : Nat → Int
  | 0 => a
  | k + 1 => min (minV v a k) (v k)
def maxV (v : Nat → Int) (a : Int) : Nat → Int
  | 0 => a
  | k + 1 => max (maxV v a k) (v k)
def minR (r : Nat → Sl) (a : Int) : Nat → Int
  | 0 => a
  | i + 1 => minV (r i).v (minR r a i) (r i).n
def maxR (r : Nat → Sl) (a : Int) : Nat → Int
  | 0 => a
  | i + 1 => maxV (r i).v (maxR r a i) (r i).n
def lowP (p : Pn) : Int := if paneR p = 0 then minR p.r ((p.r 0).v 0) p.n else 0
def highP (p : Pn) : Int := if paneR p = 0 then maxR p.r ((p.r 0).v 0) p.n else 0
theorem minV_le (v : Nat → Int) (a : Int) : ∀ n, minV v a n ≤ a ∧ ∀ k, k < n → minV v a n ≤ v k
  | 0 => ⟨Int.le_refl _, fun k h => absurd h (by omega)⟩
  | n + 1 => by
    obtain ⟨h1, h2⟩ := minV_le v a n
    unfold minV
    refine ⟨by omega, fun k hk => ?_⟩
    rcases Nat.lt_or_ge k n with l | l
    · have := h2 k l; omega
    · have e : k = n := by omega
      subst e; omega
theorem maxV_ge (v : Nat → Int) (a : Int) : ∀ n, a ≤ maxV v a n ∧ ∀ k, k < n → v k ≤ maxV v a n
  | 0 => ⟨Int.le_refl _, fun k h => absurd h (by omega)⟩
  | n + 1 => by
    obtain ⟨h1, h2⟩ := maxV_ge v a n
    unfold maxV
    refine ⟨by omega, fun k hk => ?_⟩
    rcases Nat.lt_or_ge k n with l | l
    · have := h2 k l; omega
    · have e : k = n := by omega
      subst e; omega
theorem minR_le (r : Nat → Sl) (a : Int) : ∀ n, minR r a n ≤ a ∧ ∀ i, i < n → ∀ k, k < (r i).n → minR r a n ≤ (r i).v k
  | 0 => ⟨Int.le_refl _, fun k h => absurd h (by omega)⟩
  | n + 1 => by
    obtain ⟨h1, h2⟩ := minR_le r a n
    obtain ⟨g1, g2⟩ := minV_le (r n).v (minR r a n) (r n).n
    unfold minR
    refine ⟨by omega, fun i hi k hk => ?_⟩
    rcases Nat.lt_or_ge i n with l | l
    · have := h2 i l k hk; omega
    · have e : i = n := by omega
      subst e; exact g2 k hk
theorem maxR_ge (r : Nat → Sl) (a : Int) : ∀ n, a ≤ maxR r a n ∧ ∀ i, i < n → ∀ k, k < (r i).n → (r i).v k ≤ maxR r a n
  | 0 => ⟨Int.le_refl _, fun k h => absurd h (by omega)⟩
  | n + 1 => by
    obtain ⟨h1, h2⟩ := maxR_ge r a n
    obtain ⟨g1, g2⟩ := maxV_ge (r n).v (maxR r a n) (r n).n
    unfold maxR
    refine ⟨by omega, fun i hi k hk => ?_⟩
    rcases Nat.lt_or_ge i n with l | l
    · have := h2 i l k hk; omega
    · have e : i = n := by omega
      subst e; exact g2 k hk
/-- the least and the greatest, whoever reckons them -/
theorem low_is {p : Pn} (h : paneR p = 0) : (∀ i, i < p.n → ∀ k, k < p.x.n → lowP p ≤ (p.r i).v k ∧ (p.r i).v k ≤ highP p) := by
  obtain ⟨⟨_, s⟩, _⟩ := paneR_ok h
  unfold lowP highP
  rw [if_pos h, if_pos h]
  exact fun i hi k hk => ⟨(minR_le p.r _ p.n).2 i hi k (by rw [s i hi]; exact hk), (maxR_ge p.r _ p.n).2 i hi k (by rw [s i hi]; exact hk)⟩
theorem row_right {p : Pn} (h : paneR p = 0) {i : Nat} (hi : i < p.n) : RightT p.x.n p.x.v (p.r i).v := by
  obtain ⟨⟨s1, s2⟩, ⟨⟨r1, r2⟩, r3⟩, o1, o2⟩ := paneR_ok h
  exact ⟨s1.1, s1.2.1, r1, fun k hk => r3 i hi k (by rw [s2 i hi]; exact hk), fun k h0 hk => o1 k hk h0⟩
theorem rowV_in {p : Pn} (h : paneR p = 0) (x : Int) {i : Nat} (hi : i < p.n) : lowP p ≤ rowV p x i ∧ rowV p x i ≤ highP p := by
  have R := row_right h hi
  obtain ⟨e1, e2⟩ := eval_between R x
  have c := (eval_cases R x).1
  have a := low_is h i hi (cellUp p.x.v x (p.x.n - 1)) (by omega)
  have b := low_is h i hi (cellUp p.x.v x (p.x.n - 1) + 1) c
  unfold rowV
  omega
theorem rowV_inT {p : Pn} (h : paneR p = 0) (x : Int) {i : Nat} (hi : i < p.n) : inT (rowV p x i) := by
  have R := row_right h hi
  obtain ⟨e1, e2⟩ := eval_between R x
  have c := (eval_cases R x).1
  have a := R.y (cellUp p.x.v x (p.x.n - 1)) (by omega)
  have b := R.y (cellUp p.x.v x (p.x.n - 1) + 1) c
  unfold rowV inT at *
  omega
theorem col_right {p : Pn} (h : paneR p = 0) (x : Int) : RightT p.y.n p.y.v (rowV p x) := by
  obtain ⟨⟨s1, s2⟩, ⟨⟨r1, r2⟩, r3⟩, o1, o2⟩ := paneR_ok h
  exact ⟨s1.2.2.1, s1.2.2.2.1, r2, fun i hi => rowV_inT h x (by omega), fun k h0 hk => o2 k hk h0⟩
theorem pane_between {p : Pn} (h : paneR p = 0) (x y : Int) : lowP p ≤ evalP p x y ∧ evalP p x y ≤ highP p := by
  have R := col_right h x
  obtain ⟨⟨s1, s2⟩, _⟩ := paneR_ok h
  obtain ⟨e1, e2⟩ := eval_between R y
  have c := (eval_cases R y).1
  have a := rowV_in h x (i := cellUp p.y.v y (p.y.n - 1)) (by omega)
  have b := rowV_in h x (i := cellUp p.y.v y (p.y.n - 1) + 1) (by omega)
  unfold evalP
  rw [if_pos h]
  omega
theorem pane_point {p : Pn} (h : paneR p = 0) {i k : Nat} (hi : i < p.n) (hk : k < p.x.n) : evalP p (p.x.v k) (p.y.v i) = (p.r i).v k := by
  obtain ⟨⟨s1, s2⟩, _⟩ := paneR_ok h
  unfold evalP
  rw [if_pos h, eval_point (col_right h _) (by omega)]
  exact eval_point (row_right h hi) hk
/-- nothing of a right pane is beyond a number's bounds -/
theorem pane_fits {p : Pn} (h : paneR p = 0) (x y : Int) : (∀ i, i < p.n → evalO p.x.n p.x.v (p.r i).v x = false) ∧ evalO p.y.n p.y.v (rowV p x) y = false :=
  ⟨fun i hi => (eval_cases (row_right h hi) x).2.1, (eval_cases (col_right h x) y).2.1⟩
end Go.Proofs.Ytjdhjabbojceeaa
