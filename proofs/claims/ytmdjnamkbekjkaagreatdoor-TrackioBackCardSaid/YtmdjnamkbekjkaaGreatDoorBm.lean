/- -/
import Derived.Test.YtmdjnamkbekjkaaGreatDoorBn
import Derived.WalkKit
import Derived.Lib.Hide
namespace Go.Proofs.YtmdjnamkbekjkaaGreatDoor
open Go.RowKit
set_option linter.unusedVariables false
set_option linter.unusedSimpArgs false
def Sm (x : Int) : Prop := -2199023255552 ≤ x ∧ x ≤ 2199023255552
structure Pt where
 x : Int
 y : Int
def Rg (x : Int) : Prop := -281474976710656 ≤ x ∧ x ≤ 281474976710656
def Pt.near (p : Pt) : Prop := Rg p.x ∧ Rg p.y
instance (x : Int) : Decidable (Rg x) := by unfold Rg; exact inferInstance
instance (p : Pt) : Decidable p.near := by unfold Pt.near; exact inferInstance
def area (a b p : Pt) : Int := (b.x - a.x) * (p.y - a.y) - (b.y - a.y) * (p.x - a.x)
def sgnA (n : Int) : Int := if n < 0 then -1 else if 0 < n then 1 else 0
def sideP (a b p : Pt) : Int := if a.near ∧ b.near ∧ p.near then sgnA (area a b p) else 0
def inT (n : Int) : Prop := -4503599627370496 ≤ n ∧ n ≤ 4503599627370496
instance (n : Int) : Decidable (inT n) := by unfold inT; exact inferInstance
structure RightT (n : Nat) (X Y : Nat → Int) : Prop where
 lo : 2 ≤ n
 hi : n ≤ 32
 x : ∀ i, i < n → inT (X i)
 y : ∀ i, i < n → inT (Y i)
 up : ∀ i, 0 < i → i < n → X (i - 1) < X i
theorem RightT.lt {n : Nat} {X Y : Nat → Int} (R : RightT n X Y) : ∀ (d i : Nat), i + d + 1 < n → X i < X (i + d + 1)
 | 0, i, h => by have := R.up (i + 1) (by omega) (by omega); simpa using this
 | d + 1, i, h => by
  have h1 := RightT.lt R d i (by omega)
  have h2 := R.up (i + d + 1 + 1) (by omega) (by omega)
  have e : i + d + 1 + 1 - 1 = i + d + 1 := by omega
  rw [e] at h2
  have e2 : i + (d + 1) + 1 = i + d + 1 + 1 := by omega
  rw [e2]; omega
theorem RightT.mono {n : Nat} {X Y : Nat → Int} (R : RightT n X Y) {i j : Nat} (h : i < j) (hj : j < n) : X i < X j := by
 have := R.lt (j - i - 1) i (by omega)
 have e : i + (j - i - 1) + 1 = j := by omega
 rwa [e] at this
theorem RightT.le {n : Nat} {X Y : Nat → Int} (R : RightT n X Y) {i j : Nat} (h : i ≤ j) (hj : j < n) : X i ≤ X j := by
 by_cases e : i = j
 ·rw [e]; omega
 ·have := R.mono (show i < j by omega) hj; omega
structure Sl where
 a : Option Addr
 n : Nat
 c : Nat
 v : Nat → Int
structure Pn where
 x : Sl
 y : Sl
 a : Option Addr
 n : Nat
 c : Nat
 r : Nat → Sl
def inS (s : Sl) : Prop := ∀ i, i < s.n → inT (s.v i)
def upS (s : Sl) : Prop := ∀ i, i < s.n → 0 < i → s.v (i - 1) < s.v i
instance (n : Int) : Decidable (inT n) := by unfold inT; exact inferInstance
instance (s : Sl) : Decidable (inS s) := by unfold inS; exact inferInstance
instance (s : Sl) : Decidable (upS s) := by unfold upS; exact inferInstance
def shapeP (p : Pn) : Prop := (2 ≤ p.x.n ∧ p.x.n ≤ 32 ∧ 2 ≤ p.y.n ∧ p.y.n ≤ 32 ∧ p.n = p.y.n) ∧ ∀ i, i < p.n → (p.r i).n = p.x.n
def rangeP (p : Pn) : Prop := (inS p.x ∧ inS p.y) ∧ ∀ i, i < p.n → inS (p.r i)
def orderP (p : Pn) : Prop := upS p.x ∧ upS p.y
instance (p : Pn) : Decidable (shapeP p) := by unfold shapeP; exact inferInstance
instance (p : Pn) : Decidable (rangeP p) := by unfold rangeP; exact inferInstance
instance (p : Pn) : Decidable (orderP p) := by unfold orderP; exact inferInstance
def nearN (n : Nat) (X Y : Nat → Int) : Prop := ∀ i, i < n → Rg (X i) ∧ Rg (Y i)
instance (n : Nat) (X Y : Nat → Int) : Decidable (nearN n X Y) := by unfold nearN; exact inferInstance
def lineR (n : Nat) (X Y : Nat → Int) : Int := if n < 3 ∨ 64 < n then 42 else if nearN n X Y then 0 else 40
theorem lineR_ok {n : Nat} {X Y : Nat → Int} (h : lineR n X Y = 0) : 3 ≤ n ∧ n ≤ 64 ∧ nearN n X Y := by
 unfold lineR at h
 by_cases a : n < 3 ∨ 64 < n
 ·rw [if_pos a] at h; omega
 ·rw [if_neg a] at h
  by_cases b : nearN n X Y
  ·exact ⟨by omega, by omega, b⟩
  ·rw [if_neg b] at h; omega
def oneF (p0 p1 p2 p3 t : Int) : Int :=
 mulF (addF (2 * p1) (mulF (addF (p2 - p0) (mulF (addF (2 * p0 - 5 * p1 + 4 * p2 - p3) (mulF (3 * p1 - p0 - 3 * p2 + p3) t)) t)) t)) 2147483648
def atSp (n : Nat) (X : Nat → Int) (k : Nat) (t : Int) : Int := oneF (X ((k + n - 1) % n)) (X k) (X ((k + 1) % n)) (X ((k + 2) % n)) t
def sampX (n : Nat) (X : Nat → Int) (s : Nat) : Int := atSp n X (s / 8) (((s % 8 : Nat) : Int) * 536870912)
def wayX (n : Nat) (X : Nat → Int) (i : Nat) : Int := subF (X ((i + 1) % n)) (X i)
noncomputable def lenS (n : Nat) (X Y : Nat → Int) : Nat → Int
 | 0 => 0
 | i + 1 => addF (lenS n X Y i) (lenF (wayX n X i * wayX n X i + wayX n Y i * wayX n Y i))
/-! ### Each piece begins at its point -/
def sqX (i : Nat) : Int := if i = 0 then 0 else if i = 1 then 34359738368 else if i = 2 then 34359738368 else 0
def sqY (i : Nat) : Int := if i = 0 then 0 else if i = 1 then 0 else if i = 2 then 34359738368 else 34359738368
def slA (cell h00 h10 h01 h11 : Int) (up : Bool) : Int := if up then divF (h11 - h01) cell else divF (h10 - h00) cell
def slB (cell h00 h10 h01 h11 : Int) (up : Bool) : Int := if up then divF (h01 - h00) cell else divF (h11 - h10) cell
noncomputable def upN (a b : Int) : Int := lenF (subF 0 a * subF 0 a + subF 0 b * subF 0 b + 4294967296 * 4294967296)
def axK (d cell : Int) (many : Nat) : Nat := if d < 0 then 0 else min (d / cell).toNat (many - 1)
def axD (d cell : Int) (many : Nat) : Int := d - (axK d cell many : Int) * cell
end Go.Proofs.YtmdjnamkbekjkaaGreatDoor
