/- Places and lines as numbers. No program in sight. -/
import Derived.Test.YtjdhjabbojceeaaBn
import Derived.WalkKit
import Derived.Lib.Hide
namespace Go.Proofs.Ytjdhjabbojceeaa
open Go.RowKit
set_option linter.unusedVariables false

/-- a place -/
structure Pt where
  x : Int
  y : Int
def Rg (x : Int) : Prop := -281474976710656 ≤ x ∧ x ≤ 281474976710656
def Pt.near (p : Pt) : Prop := Rg p.x ∧ Rg p.y
instance (x : Int) : Decidable (Rg x) := by unfold Rg; exact inferInstance
instance (p : Pt) : Decidable p.near := by unfold Pt.near; exact inferInstance
/-- the signed area -/
def area (a b p : Pt) : Int := (b.x - a.x) * (p.y - a.y) - (b.y - a.y) * (p.x - a.x)
/-- between two numbers, in either order -/
def btw (n a b : Int) : Bool := decide (min a b ≤ n ∧ n ≤ max a b)
def onB (a b p : Pt) : Bool := btw p.x a.x b.x && btw p.y a.y b.y
def sgnA (n : Int) : Int := if n < 0 then -1 else if 0 < n then 1 else 0
def sideP (a b p : Pt) : Int := if a.near ∧ b.near ∧ p.near then sgnA (area a b p) else 0
def crossP (a b p q : Pt) : Bool := decide ((a.near ∧ b.near ∧ p.near ∧ q.near) ∧ area a b p ≤ 0 ∧ 0 < area a b q ∧ 0 ≤ area p q a ∧ area p q b < 0)
def meetsP (a b p q : Pt) : Bool := decide (a.near ∧ b.near ∧ p.near ∧ q.near) && ((decide (area a b p * area a b q < 0) && decide (area p q a * area p q b < 0)) ||
  ((((decide (area a b p = 0) && onB a b p) || (decide (area a b q = 0) && onB a b q)) || (decide (area p q a = 0) && onB p q a)) || (decide (area p q b = 0) && onB p q b)))
theorem area_turn (a b p : Pt) : area b a p = -area a b p := by unfold area; grind
theorem area_ring (a b p : Pt) : area b p a = area a b p := by unfold area; grind
theorem sgnA_neg (n : Int) : sgnA (-n) = -sgnA n := by
  unfold sgnA; split <;> split <;> (try split) <;> (try split) <;> omega
theorem side_turn (a b p : Pt) : sideP b a p = -sideP a b p := by
  unfold sideP
  by_cases h : a.near ∧ b.near ∧ p.near
  · rw [if_pos h, if_pos ⟨h.2.1, h.1, h.2.2⟩, area_turn, sgnA_neg]
  · rw [if_neg h, if_neg (fun k => h ⟨k.2.1, k.1, k.2.2⟩)]; rfl
theorem side_ring (a b p : Pt) : sideP b p a = sideP a b p := by
  unfold sideP
  by_cases h : a.near ∧ b.near ∧ p.near
  · rw [if_pos h, if_pos ⟨h.2.1, h.2.2, h.1⟩, area_ring]
  · rw [if_neg h, if_neg (fun k => h ⟨k.2.2, k.1, k.2.1⟩)]
theorem area_meet (a b p q : Pt) : area p q a - area p q b = area a b q - area a b p ∧
    (area a b q - area a b p) * (p.x - a.x) = area p q a * (b.x - a.x) + area a b p * (q.x - p.x) ∧
    (area a b q - area a b p) * (p.y - a.y) = area p q a * (b.y - a.y) + area a b p * (q.y - p.y) := by
  unfold area
  exact ⟨by grind, by grind, by grind⟩
/-- what is a part of a way lies on it -/
theorem btw_part {n a b t e : Int} (ht : 0 < t) (h : t * (n - a) = e * (b - a)) (e0 : 0 ≤ e) (e1 : e ≤ t) : btw n a b = true := by
  unfold btw
  rw [decide_eq_true_iff]
  rcases Int.le_total a b with k | k
  · have l1 : 0 ≤ e * (b - a) := Int.mul_nonneg e0 (by omega)
    have l2 : e * (b - a) ≤ t * (b - a) := Int.mul_le_mul_of_nonneg_right e1 (by omega)
    have n0 : 0 ≤ n - a := by
      apply Classical.byContradiction; intro c
      have := Int.mul_lt_mul_of_pos_left (show n - a < 0 by omega) ht
      omega
    have n1 : n - a ≤ b - a := by
      apply Classical.byContradiction; intro c
      have := Int.mul_lt_mul_of_pos_left (show b - a < n - a by omega) ht
      omega
    omega
  · have l1 : e * (b - a) ≤ 0 := by
      have := Int.mul_nonneg e0 (show 0 ≤ a - b by omega)
      have e2 : e * (b - a) = -(e * (a - b)) := by grind
      omega
    have l2 : t * (b - a) ≤ e * (b - a) := by
      have := Int.mul_le_mul_of_nonneg_right e1 (show 0 ≤ a - b by omega)
      have e2 : e * (b - a) = -(e * (a - b)) := by grind
      have e3 : t * (b - a) = -(t * (a - b)) := by grind
      omega
    have n0 : n - a ≤ 0 := by
      apply Classical.byContradiction; intro c
      have := Int.mul_lt_mul_of_pos_left (show 0 < n - a by omega) ht
      omega
    have n1 : b - a ≤ n - a := by
      apply Classical.byContradiction; intro c
      have := Int.mul_lt_mul_of_pos_left (show n - a < b - a by omega) ht
      omega
    omega
/-- a gate that is crossed ahead is met -/
theorem cross_meets {a b p q : Pt} (h : crossP a b p q = true) : meetsP a b p q = true := by
  unfold crossP at h
  rw [decide_eq_true_iff] at h
  obtain ⟨hn, c, d, e, f⟩ := h
  obtain ⟨M, X, Y⟩ := area_meet a b p q
  unfold meetsP onB
  simp only [Bool.and_eq_true, Bool.or_eq_true, decide_eq_true_iff]
  refine ⟨hn, ?_⟩
  generalize area a b p = C at *
  generalize area a b q = D at *
  generalize area p q a = E at *
  generalize area p q b = F at *
  by_cases c0 : C = 0
  · subst c0
    refine Or.inr (Or.inl (Or.inl (Or.inl ⟨rfl, ?_, ?_⟩)))
    · exact btw_part (t := D - 0) (e := E) (by omega) (by omega) e (by omega)
    · exact btw_part (t := D - 0) (e := E) (by omega) (by omega) e (by omega)
  · by_cases e0 : E = 0
    · subst e0
      refine Or.inr (Or.inl (Or.inr ⟨rfl, ?_, ?_⟩))
      · exact btw_part (t := D - C) (e := -C) (by omega) (by
          have e1 : (D - C) * (a.x - p.x) = -((D - C) * (p.x - a.x)) := by grind
          have e2 : -C * (q.x - p.x) = -(C * (q.x - p.x)) := by grind
          omega) (by omega) (by omega)
      · exact btw_part (t := D - C) (e := -C) (by omega) (by
          have e1 : (D - C) * (a.y - p.y) = -((D - C) * (p.y - a.y)) := by grind
          have e2 : -C * (q.y - p.y) = -(C * (q.y - p.y)) := by grind
          omega) (by omega) (by omega)
    · refine Or.inl ⟨?_, ?_⟩
      · exact Int.mul_neg_of_neg_of_pos (by omega) d
      · exact Int.mul_neg_of_pos_of_neg (by omega) f
theorem btw_swap (n a b : Int) : btw n b a = btw n a b := by
  unfold btw
  rw [decide_eq_decide]; omega
theorem onB_swap (a b p : Pt) : onB b a p = onB a b p := by
  unfold onB; rw [btw_swap, btw_swap p.y]
/-- stretches meet in any order -/
theorem meets_turn (a b p q : Pt) : meetsP p q b a = meetsP a b p q := by
  unfold meetsP
  rw [area_turn a b p, area_turn a b q, onB_swap a b p, onB_swap a b q]
  have e1 : decide (p.near ∧ q.near ∧ b.near ∧ a.near) = decide (a.near ∧ b.near ∧ p.near ∧ q.near) := by
    rw [decide_eq_decide]; exact ⟨fun h => ⟨h.2.2.2, h.2.2.1, h.1, h.2.1⟩, fun h => ⟨h.2.2.1, h.2.2.2, h.2.1, h.1⟩⟩
  have e2 : area p q b * area p q a = area p q a * area p q b := Int.mul_comm _ _
  have e3 : -area a b p * -area a b q = area a b p * area a b q := by grind
  have e4 : decide (-area a b p = 0) = decide (area a b p = 0) := by rw [decide_eq_decide]; omega
  have e5 : decide (-area a b q = 0) = decide (area a b q = 0) := by rw [decide_eq_decide]; omega
  rw [e1, e2, e3, e4, e5]
  generalize decide (a.near ∧ b.near ∧ p.near ∧ q.near) = n
  generalize decide (area a b p * area a b q < 0) = x1
  generalize decide (area p q a * area p q b < 0) = x2
  generalize (decide (area a b p = 0) && onB a b p) = y1
  generalize (decide (area a b q = 0) && onB a b q) = y2
  generalize (decide (area p q a = 0) && onB p q a) = y3
  generalize (decide (area p q b = 0) && onB p q b) = y4
  cases n <;> cases x1 <;> cases x2 <;> cases y1 <;> cases y2 <;> cases y3 <;> cases y4 <;> rfl
/-- a move of small parts, cut at a third -/
theorem cross_cut {a b p w : Pt} (ha : a.near) (hb : b.near) (hp : p.near) (hm : Pt.near ⟨p.x + w.x, p.y + w.y⟩) (hq : Pt.near ⟨p.x + 3 * w.x, p.y + 3 * w.y⟩) :
    (crossP a b p ⟨p.x + w.x, p.y + w.y⟩ && crossP a b ⟨p.x + w.x, p.y + w.y⟩ ⟨p.x + 3 * w.x, p.y + 3 * w.y⟩) = false ∧
    crossP a b p ⟨p.x + 3 * w.x, p.y + 3 * w.y⟩ = (crossP a b p ⟨p.x + w.x, p.y + w.y⟩ || crossP a b ⟨p.x + w.x, p.y + w.y⟩ ⟨p.x + 3 * w.x, p.y + 3 * w.y⟩) := by
  obtain ⟨s, hs⟩ : ∃ s, area a b p = s := ⟨_, rfl⟩
  obtain ⟨d, hd⟩ : ∃ d, (b.x - a.x) * w.y - (b.y - a.y) * w.x = d := ⟨_, rfl⟩
  obtain ⟨E, hE⟩ : ∃ e, w.x * (a.y - p.y) - w.y * (a.x - p.x) = e := ⟨_, rfl⟩
  obtain ⟨F, hF⟩ : ∃ e, w.x * (b.y - p.y) - w.y * (b.x - p.x) = e := ⟨_, rfl⟩
  have m1 : area a b ⟨p.x + w.x, p.y + w.y⟩ = s + d := by rw [← hs, ← hd]; unfold area; grind
  have m2 : area a b ⟨p.x + 3 * w.x, p.y + 3 * w.y⟩ = s + 3 * d := by rw [← hs, ← hd]; unfold area; grind
  have a1 : area p ⟨p.x + w.x, p.y + w.y⟩ a = E := by rw [← hE]; unfold area; grind
  have a2 : area p ⟨p.x + 3 * w.x, p.y + 3 * w.y⟩ a = 3 * E := by rw [← hE]; unfold area; grind
  have a3 : area ⟨p.x + w.x, p.y + w.y⟩ ⟨p.x + 3 * w.x, p.y + 3 * w.y⟩ a = 2 * E := by rw [← hE]; unfold area; grind
  have b1 : area p ⟨p.x + w.x, p.y + w.y⟩ b = F := by rw [← hF]; unfold area; grind
  have b2 : area p ⟨p.x + 3 * w.x, p.y + 3 * w.y⟩ b = 3 * F := by rw [← hF]; unfold area; grind
  have b3 : area ⟨p.x + w.x, p.y + w.y⟩ ⟨p.x + 3 * w.x, p.y + 3 * w.y⟩ b = 2 * F := by rw [← hF]; unfold area; grind
  unfold crossP
  rw [m1, m2, a1, a2, a3, b1, b2, b3, hs]
  simp only [ha, hb, hp, hm, hq, true_and]
  rw [← Bool.decide_and, ← Bool.decide_or]
  refine ⟨?_, ?_⟩
  · rw [decide_eq_false_iff_not]; omega
  · rw [decide_eq_decide]; omega
end Go.Proofs.Ytjdhjabbojceeaa
