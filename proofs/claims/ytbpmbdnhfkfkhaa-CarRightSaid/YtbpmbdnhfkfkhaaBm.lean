/- Products of vectors: numbers alone (VecSquare). No program in sight. -/
import Derived.Test.YtbpmbdnhfkfkhaaBn
import Derived.WalkKit
import Derived.Lib.Hide
namespace Go.Proofs.Ytbpmbdnhfkfkhaa
open Go.RowKit
set_option linter.unusedVariables false

theorem rq_exact32 (a : Int) : rq (a * 4294967296) 4294967296 = a := by
  have := rq_near (a := a * 4294967296) (b := 4294967296) (by omega)
  omega
/-- a product that is small fits, and is as small -/
theorem mul_small {a b M : Int} (M1 : M ≤ 4611686018427387904) (h0 : -(M * 4294967296) ≤ a * b) (h1 : a * b ≤ M * 4294967296) :
    mulO a b = false ∧ -M ≤ mulF a b ∧ mulF a b ≤ M ∧ -2147483648 ≤ a * b - mulF a b * 4294967296 ∧ a * b - mulF a b * 4294967296 ≤ 2147483648 := by
  have l := rq_mono (a := -M * 4294967296) (b := a * b) (d := 4294967296) (by omega) (by omega)
  have u := rq_mono (a := a * b) (b := M * 4294967296) (d := 4294967296) (by omega) h1
  rw [rq_exact32] at l u
  have n := rq_near (a := a * b) (b := 4294967296) (by omega)
  have c := clip64_of (n := rq (a * b) 4294967296) ⟨by omega, by omega⟩
  have e : mulF a b = rq (a * b) 4294967296 := by unfold mulF quoF; rw [if_neg (by omega), c.1]
  refine ⟨by unfold mulO quoO; rw [if_neg (by omega), c.2], ?_⟩
  rw [e]
  omega
theorem add_small {a b : Int} (h0 : -9223372036854775807 ≤ a + b) (h1 : a + b ≤ 9223372036854775807) : addF a b = a + b ∧ addO a b = false := by
  have c := clip64_of (n := a + b) ⟨by omega, by omega⟩
  exact ⟨c.1, c.2⟩
theorem sub_small {a b : Int} (h0 : -9223372036854775807 ≤ a - b) (h1 : a - b ≤ 9223372036854775807) : subF a b = a - b ∧ subO a b = false := by
  have c := clip64_of (n := a - b) ⟨by omega, by omega⟩
  exact ⟨c.1, c.2⟩
theorem mulF_comm (a b : Int) : mulF a b = mulF b a ∧ mulO a b = mulO b a := by
  unfold mulF mulO; rw [Int.mul_comm a b]; exact ⟨rfl, rfl⟩
/-- a part of a cross product, of parts of 2^9 at most -/
def crossF (p q r s : Int) : Int := subF (mulF p q) (mulF r s)
def crossO (p q r s : Int) : Bool := mulO p q || mulO r s || subO (mulF p q) (mulF r s)
def dotF (a1 a2 a3 b1 b2 b3 : Int) : Int := addF (addF (mulF a1 b1) (mulF a2 b2)) (mulF a3 b3)
def Sm (x : Int) : Prop := -2199023255552 ≤ x ∧ x ≤ 2199023255552
theorem cross_small {p q r s : Int} (hp : Sm p) (hq : Sm q) (hr : Sm r) (hs : Sm s) :
    crossF p q r s = mulF p q - mulF r s ∧ mulO p q = false ∧ mulO r s = false ∧ subO (mulF p q) (mulF r s) = false ∧ -2251799813685248 ≤ crossF p q r s ∧ crossF p q r s ≤ 2251799813685248 ∧
    -4294967296 ≤ (p * q - r * s) - crossF p q r s * 4294967296 ∧ (p * q - r * s) - crossF p q r s * 4294967296 ≤ 4294967296 ∧ crossF q p s r = crossF p q r s ∧ crossF r s p q = -crossF p q r s ∧ subO (mulF r s) (mulF p q) = false := by
  unfold Sm at *
  have e1 := mul_abs_le hp.1 hp.2 hq.1 hq.2
  have e2 := mul_abs_le hr.1 hr.2 hs.1 hs.2
  have m1 := mul_small (a := p) (b := q) (M := 1125899906842624) (by omega) (by omega) (by omega)
  have m2 := mul_small (a := r) (b := s) (M := 1125899906842624) (by omega) (by omega) (by omega)
  have d := sub_small (a := mulF p q) (b := mulF r s) (by omega) (by omega)
  have d2 := sub_small (a := mulF r s) (b := mulF p q) (by omega) (by omega)
  unfold crossF
  rw [(mulF_comm q p).1, (mulF_comm s r).1, d.1, d2.1]
  exact ⟨rfl, m1.1, m2.1, d.2, by omega, by omega, by omega, by omega, rfl, by omega, d2.2⟩
theorem dot_small {c1 c2 c3 a1 a2 a3 : Int} (h1 : -2251799813685248 ≤ c1 ∧ c1 ≤ 2251799813685248) (h2 : -2251799813685248 ≤ c2 ∧ c2 ≤ 2251799813685248) (h3 : -2251799813685248 ≤ c3 ∧ c3 ≤ 2251799813685248) (k1 : Sm a1) (k2 : Sm a2) (k3 : Sm a3) :
    dotF c1 c2 c3 a1 a2 a3 = mulF c1 a1 + mulF c2 a2 + mulF c3 a3 ∧ (mulO c1 a1 = false ∧ mulO c2 a2 = false ∧ addO (mulF c1 a1) (mulF c2 a2) = false ∧ mulO c3 a3 = false ∧ addO (addF (mulF c1 a1) (mulF c2 a2)) (mulF c3 a3) = false) ∧
    -6442450944 ≤ (c1 * a1 + c2 * a2 + c3 * a3) - dotF c1 c2 c3 a1 a2 a3 * 4294967296 ∧ (c1 * a1 + c2 * a2 + c3 * a3) - dotF c1 c2 c3 a1 a2 a3 * 4294967296 ≤ 6442450944 := by
  unfold Sm at *
  have e1 := mul_abs_le h1.1 h1.2 k1.1 k1.2
  have e2 := mul_abs_le h2.1 h2.2 k2.1 k2.2
  have e3 := mul_abs_le h3.1 h3.2 k3.1 k3.2
  have m1 := mul_small (a := c1) (b := a1) (M := 1152921504606846976) (by omega) (by omega) (by omega)
  have m2 := mul_small (a := c2) (b := a2) (M := 1152921504606846976) (by omega) (by omega) (by omega)
  have m3 := mul_small (a := c3) (b := a3) (M := 1152921504606846976) (by omega) (by omega) (by omega)
  have s1 := add_small (a := mulF c1 a1) (b := mulF c2 a2) (by omega) (by omega)
  have s2 := add_small (a := mulF c1 a1 + mulF c2 a2) (b := mulF c3 a3) (by omega) (by omega)
  unfold dotF
  rw [s1.1, s2.1]
  exact ⟨rfl, ⟨m1.1, m2.1, s1.2, m3.1, s2.2⟩, by omega, by omega⟩
/-- a cross product is square to a factor, but for 2^-20 -/
theorem square_to {a1 a2 a3 b1 b2 b3 c1 c2 c3 : Int} (k1 : Sm a1) (k2 : Sm a2) (k3 : Sm a3)
    (e1 : -4294967296 ≤ (a2 * b3 - a3 * b2) - c1 * 4294967296 ∧ (a2 * b3 - a3 * b2) - c1 * 4294967296 ≤ 4294967296)
    (e2 : -4294967296 ≤ (a3 * b1 - a1 * b3) - c2 * 4294967296 ∧ (a3 * b1 - a1 * b3) - c2 * 4294967296 ≤ 4294967296)
    (e3 : -4294967296 ≤ (a1 * b2 - a2 * b1) - c3 * 4294967296 ∧ (a1 * b2 - a2 * b1) - c3 * 4294967296 ≤ 4294967296) :
    -6597069766656 ≤ c1 * a1 + c2 * a2 + c3 * a3 ∧ c1 * a1 + c2 * a2 + c3 * a3 ≤ 6597069766656 := by
  unfold Sm at *
  have f1 := mul_abs_le e1.1 e1.2 k1.1 k1.2
  have f2 := mul_abs_le e2.1 e2.2 k2.1 k2.2
  have f3 := mul_abs_le e3.1 e3.2 k3.1 k3.2
  have key : ((a2 * b3 - a3 * b2) - c1 * 4294967296) * a1 + ((a3 * b1 - a1 * b3) - c2 * 4294967296) * a2 + ((a1 * b2 - a2 * b1) - c3 * 4294967296) * a3 = -(4294967296 * (c1 * a1 + c2 * a2 + c3 * a3)) := by grind
  omega
theorem square_to' {a1 a2 a3 b1 b2 b3 c1 c2 c3 : Int} (k1 : Sm b1) (k2 : Sm b2) (k3 : Sm b3)
    (e1 : -4294967296 ≤ (a2 * b3 - a3 * b2) - c1 * 4294967296 ∧ (a2 * b3 - a3 * b2) - c1 * 4294967296 ≤ 4294967296)
    (e2 : -4294967296 ≤ (a3 * b1 - a1 * b3) - c2 * 4294967296 ∧ (a3 * b1 - a1 * b3) - c2 * 4294967296 ≤ 4294967296)
    (e3 : -4294967296 ≤ (a1 * b2 - a2 * b1) - c3 * 4294967296 ∧ (a1 * b2 - a2 * b1) - c3 * 4294967296 ≤ 4294967296) :
    -6597069766656 ≤ c1 * b1 + c2 * b2 + c3 * b3 ∧ c1 * b1 + c2 * b2 + c3 * b3 ≤ 6597069766656 := by
  unfold Sm at *
  have f1 := mul_abs_le e1.1 e1.2 k1.1 k1.2
  have f2 := mul_abs_le e2.1 e2.2 k2.1 k2.2
  have f3 := mul_abs_le e3.1 e3.2 k3.1 k3.2
  have key : ((a2 * b3 - a3 * b2) - c1 * 4294967296) * b1 + ((a3 * b1 - a1 * b3) - c2 * 4294967296) * b2 + ((a1 * b2 - a2 * b1) - c3 * 4294967296) * b3 = -(4294967296 * (c1 * b1 + c2 * b2 + c3 * b3)) := by grind
  omega
end Go.Proofs.Ytbpmbdnhfkfkhaa
namespace Go.Proofs.Ytbpmbdnhfkfkhaa
open Go.RowKit
set_option linter.unusedVariables false

/-- a place -/
structure Pt where
  x : Int
  y : Int
def Rg (x : Int) : Prop := -281474976710656 ≤ x ∧ x ≤ 281474976710656
def Pt.near (p : Pt) : Prop := Rg p.x ∧ Rg p.y
instance (x : Int) : Decidable (Rg x) := by unfold Rg; exact inferInstance
instance (p : Pt) : Decidable p.near := by unfold Pt.near; exact inferInstance
/-- the signed area -/
def area (a b p : Pt) : Int := (b.x - a.x) * (p.y - a.y) - (b.y - a.y) * (p.x - a.x)
/-- between two numbers, in either order -/
def btw (n a b : Int) : Bool := decide (min a b ≤ n ∧ n ≤ max a b)
def onB (a b p : Pt) : Bool := btw p.x a.x b.x && btw p.y a.y b.y
def sgnA (n : Int) : Int := if n < 0 then -1 else if 0 < n then 1 else 0
def sideP (a b p : Pt) : Int := if a.near ∧ b.near ∧ p.near then sgnA (area a b p) else 0
def crossP (a b p q : Pt) : Bool := decide ((a.near ∧ b.near ∧ p.near ∧ q.near) ∧ area a b p ≤ 0 ∧ 0 < area a b q ∧ 0 ≤ area p q a ∧ area p q b < 0)
def meetsP (a b p q : Pt) : Bool := decide (a.near ∧ b.near ∧ p.near ∧ q.near) && ((decide (area a b p * area a b q < 0) && decide (area p q a * area p q b < 0)) ||
  ((((decide (area a b p = 0) && onB a b p) || (decide (area a b q = 0) && onB a b q)) || (decide (area p q a = 0) && onB p q a)) || (decide (area p q b = 0) && onB p q b)))
theorem area_turn (a b p : Pt) : area b a p = -area a b p := by unfold area; grind
theorem area_ring (a b p : Pt) : area b p a = area a b p := by unfold area; grind
theorem sgnA_neg (n : Int) : sgnA (-n) = -sgnA n := by
  unfold sgnA; split <;> split <;> (try split) <;> (try split) <;> omega
theorem side_turn (a b p : Pt) : sideP b a p = -sideP a b p := by
  unfold sideP
  by_cases h : a.near ∧ b.near ∧ p.near
  · rw [if_pos h, if_pos ⟨h.2.1, h.1, h.2.2⟩, area_turn, sgnA_neg]
  · rw [if_neg h, if_neg (fun k => h ⟨k.2.1, k.1, k.2.2⟩)]; rfl
theorem side_ring (a b p : Pt) : sideP b p a = sideP a b p := by
  unfold sideP
  by_cases h : a.near ∧ b.near ∧ p.near
  · rw [if_pos h, if_pos ⟨h.2.1, h.2.2, h.1⟩, area_ring]
  · rw [if_neg h, if_neg (fun k => h ⟨k.2.2, k.1, k.2.1⟩)]
theorem area_meet (a b p q : Pt) : area p q a - area p q b = area a b q - area a b p ∧
    (area a b q - area a b p) * (p.x - a.x) = area p q a * (b.x - a.x) + area a b p * (q.x - p.x) ∧
    (area a b q - area a b p) * (p.y - a.y) = area p q a * (b.y - a.y) + area a b p * (q.y - p.y) := by
  unfold area
  exact ⟨by grind, by grind, by grind⟩
/-- what is a part of a way lies on it -/
theorem btw_part {n a b t e : Int} (ht : 0 < t) (h : t * (n - a) = e * (b - a)) (e0 : 0 ≤ e) (e1 : e ≤ t) : btw n a b = true := by
  unfold btw
  rw [decide_eq_true_iff]
  rcases Int.le_total a b with k | k
  · have l1 : 0 ≤ e * (b - a) := Int.mul_nonneg e0 (by omega)
    have l2 : e * (b - a) ≤ t * (b - a) := Int.mul_le_mul_of_nonneg_right e1 (by omega)
    have n0 : 0 ≤ n - a := by
      apply Classical.byContradiction; intro c
      have := Int.mul_lt_mul_of_pos_left (show n - a < 0 by omega) ht
      omega
    have n1 : n - a ≤ b - a := by
      apply Classical.byContradiction; intro c
      have := Int.mul_lt_mul_of_pos_left (show b - a < n - a by omega) ht
      omega
    omega
  · have l1 : e * (b - a) ≤ 0 := by
      have := Int.mul_nonneg e0 (show 0 ≤ a - b by omega)
      have e2 : e * (b - a) = -(e * (a - b)) := by grind
      omega
    have l2 : t * (b - a) ≤ e * (b - a) := by
      have := Int.mul_le_mul_of_nonneg_right e1 (show 0 ≤ a - b by omega)
      have e2 : e * (b - a) = -(e * (a - b)) := by grind
      have e3 : t * (b - a) = -(t * (a - b)) := by grind
      omega
    have n0 : n - a ≤ 0 := by
      apply Classical.byContradiction; intro c
      have := Int.mul_lt_mul_of_pos_left (show 0 < n - a by omega) ht
      omega
    have n1 : b - a ≤ n - a := by
      apply Classical.byContradiction; intro c
      have := Int.mul_lt_mul_of_pos_left (show n - a < b - a by omega) ht
      omega
    omega
/-- a gate that is crossed ahead is met -/
theorem cross_meets {a b p q : Pt} (h : crossP a b p q = true) : meetsP a b p q = true := by
  unfold crossP at h
  rw [decide_eq_true_iff] at h
  obtain ⟨hn, c, d, e, f⟩ := h
  obtain ⟨M, X, Y⟩ := area_meet a b p q
  unfold meetsP onB
  simp only [Bool.and_eq_true, Bool.or_eq_true, decide_eq_true_iff]
  refine ⟨hn, ?_⟩
  generalize area a b p = C at *
  generalize area a b q = D at *
  generalize area p q a = E at *
  generalize area p q b = F at *
  by_cases c0 : C = 0
  · subst c0
    refine Or.inr (Or.inl (Or.inl (Or.inl ⟨rfl, ?_, ?_⟩)))
    · exact btw_part (t := D - 0) (e := E) (by omega) (by omega) e (by omega)
    · exact btw_part (t := D - 0) (e := E) (by omega) (by omega) e (by omega)
  · by_cases e0 : E = 0
    · subst e0
      refine Or.inr (Or.inl (Or.inr ⟨rfl, ?_, ?_⟩))
      · exact btw_part (t := D - C) (e := -C) (by omega) (by
          have e1 : (D - C) * (a.x - p.x) = -((D - C) * (p.x - a.x)) := by grind
          have e2 : -C * (q.x - p.x) = -(C * (q.x - p.x)) := by grind
          omega) (by omega) (by omega)
      · exact btw_part (t := D - C) (e := -C) (by omega) (by
          have e1 : (D - C) * (a.y - p.y) = -((D - C) * (p.y - a.y)) := by grind
          have e2 : -C * (q.y - p.y) = -(C * (q.y - p.y)) := by grind
          omega) (by omega) (by omega)
    · refine Or.inl ⟨?_, ?_⟩
      · exact Int.mul_neg_of_neg_of_pos (by omega) d
      · exact Int.mul_neg_of_pos_of_neg (by omega) f
theorem btw_swap (n a b : Int) : btw n b a = btw n a b := by
  unfold btw
  rw [decide_eq_decide]; omega
theorem onB_swap (a b p : Pt) : onB b a p = onB a b p := by
  unfold onB; rw [btw_swap, btw_swap p.y]
/-- stretches meet in any order -/
theorem meets_turn (a b p q : Pt) : meetsP p q b a = meetsP a b p q := by
  unfold meetsP
  rw [area_turn a b p, area_turn a b q, onB_swap a b p, onB_swap a b q]
  have e1 : decide (p.near ∧ q.near ∧ b.near ∧ a.near) = decide (a.near ∧ b.near ∧ p.near ∧ q.near) := by
    rw [decide_eq_decide]; exact ⟨fun h => ⟨h.2.2.2, h.2.2.1, h.1, h.2.1⟩, fun h => ⟨h.2.2.1, h.2.2.2, h.2.1, h.1⟩⟩
  have e2 : area p q b * area p q a = area p q a * area p q b := Int.mul_comm _ _
  have e3 : -area a b p * -area a b q = area a b p * area a b q := by grind
  have e4 : decide (-area a b p = 0) = decide (area a b p = 0) := by rw [decide_eq_decide]; omega
  have e5 : decide (-area a b q = 0) = decide (area a b q = 0) := by rw [decide_eq_decide]; omega
  rw [e1, e2, e3, e4, e5]
  generalize decide (a.near ∧ b.near ∧ p.near ∧ q.near) = n
  generalize decide (area a b p * area a b q < 0) = x1
  generalize decide (area p q a * area p q b < 0) = x2
  generalize (decide (area a b p = 0) && onB a b p) = y1
  generalize (decide (area a b q = 0) && onB a b q) = y2
  generalize (decide (area p q a = 0) && onB p q a) = y3
  generalize (decide (area p q b = 0) && onB p q b) = y4
  cases n <;> cases x1 <;> cases x2 <;> cases y1 <;> cases y2 <;> cases y3 <;> cases y4 <;> rfl
/-- a move of small parts, cut at a third -/
theorem cross_cut {a b p w : Pt} (ha : a.near) (hb : b.near) (hp : p.near) (hm : Pt.near ⟨p.x + w.x, p.y + w.y⟩) (hq : Pt.near ⟨p.x + 3 * w.x, p.y + 3 * w.y⟩) :
    (crossP a b p ⟨p.x + w.x, p.y + w.y⟩ && crossP a b ⟨p.x + w.x, p.y + w.y⟩ ⟨p.x + 3 * w.x, p.y + 3 * w.y⟩) = false ∧
    crossP a b p ⟨p.x + 3 * w.x, p.y + 3 * w.y⟩ = (crossP a b p ⟨p.x + w.x, p.y + w.y⟩ || crossP a b ⟨p.x + w.x, p.y + w.y⟩ ⟨p.x + 3 * w.x, p.y + 3 * w.y⟩) := by
  obtain ⟨s, hs⟩ : ∃ s, area a b p = s := ⟨_, rfl⟩
  obtain ⟨d, hd⟩ : ∃ d, (b.x - a.x) * w.y - (b.y - a.y) * w.x = d := ⟨_, rfl⟩
  obtain ⟨E, hE⟩ : ∃ e, w.x * (a.y - p.y) - w.y * (a.x - p.x) = e := ⟨_, rfl⟩
  obtain ⟨F, hF⟩ : ∃ e, w.x * (b.y - p.y) - w.y * (b.x - p.x) = e := ⟨_, rfl⟩
  have m1 : area a b ⟨p.x + w.x, p.y + w.y⟩ = s + d := by rw [← hs, ← hd]; unfold area; grind
  have m2 : area a b ⟨p.x + 3 * w.x, p.y + 3 * w.y⟩ = s + 3 * d := by rw [← hs, ← hd]; unfold area; grind
  have a1 : area p ⟨p.x + w.x, p.y + w.y⟩ a = E := by rw [← hE]; unfold area; grind
  have a2 : area p ⟨p.x + 3 * w.x, p.y + 3 * w.y⟩ a = 3 * E := by rw [← hE]; unfold area; grind
  have a3 : area ⟨p.x + w.x, p.y + w.y⟩ ⟨p.x + 3 * w.x, p.y + 3 * w.y⟩ a = 2 * E := by rw [← hE]; unfold area; grind
  have b1 : area p ⟨p.x + w.x, p.y + w.y⟩ b = F := by rw [← hF]; unfold area; grind
  have b2 : area p ⟨p.x + 3 * w.x, p.y + 3 * w.y⟩ b = 3 * F := by rw [← hF]; unfold area; grind
  have b3 : area ⟨p.x + w.x, p.y + w.y⟩ ⟨p.x + 3 * w.x, p.y + 3 * w.y⟩ b = 2 * F := by rw [← hF]; unfold area; grind
  unfold crossP
  rw [m1, m2, a1, a2, a3, b1, b2, b3, hs]
  simp only [ha, hb, hp, hm, hq, true_and]
  rw [← Bool.decide_and, ← Bool.decide_or]
  refine ⟨?_, ?_⟩
  · rw [decide_eq_false_iff_not]; omega
  · rw [decide_eq_decide]; omega
end Go.Proofs.Ytbpmbdnhfkfkhaa
namespace Go.Proofs.Ytbpmbdnhfkfkhaa
set_option linter.unusedVariables false

def inT (n : Int) : Prop := -4503599627370496 ≤ n ∧ n ≤ 4503599627370496
instance (n : Int) : Decidable (inT n) := by unfold inT; exact inferInstance
/-- what is wrong with point i -/
def errAt (X Y : Nat → Int) (i : Nat) : Int := if inT (X i) ∧ inT (Y i) then (if 0 < i ∧ X i ≤ X (i - 1) then 41 else 0) else 40
def rightF (X Y : Nat → Int) : Nat → Nat → Int
  | 0, _ => 0
  | k + 1, i => if errAt X Y i = 0 then rightF X Y k (i + 1) else errAt X Y i
def rightN (n : Nat) (X Y : Nat → Int) : Int := if n < 2 ∨ 32 < n then 42 else rightF X Y n 0
def cellUp (X : Nat → Int) (x : Int) : Nat → Nat
  | 0 => 0
  | k + 1 => if X k ≤ x then k else cellUp X x k
def boundUp (Y : Nat → Int) : Nat → Int
  | 0 => 0
  | k + 1 => max (max (boundUp Y k) (Y k)) (-(Y k))
def segF (a b y z x : Int) : Int := mixF y z (divF (subF x a) (subF b a))
def segO (a b y z x : Int) : Bool := subO x a || subO b a || divO (subF x a) (subF b a) || mixO y z (divF (subF x a) (subF b a))
def evalN (n : Nat) (X Y : Nat → Int) (x : Int) : Int :=
  if n = 0 then 0 else if x ≤ X 0 then Y 0 else if X (n - 1) ≤ x then Y (n - 1) else
    segF (X (cellUp X x (n - 1))) (X (cellUp X x (n - 1) + 1)) (Y (cellUp X x (n - 1))) (Y (cellUp X x (n - 1) + 1)) x
def evalO (n : Nat) (X Y : Nat → Int) (x : Int) : Bool :=
  if n = 0 then false else if x ≤ X 0 then false else if X (n - 1) ≤ x then false else
    segO (X (cellUp X x (n - 1))) (X (cellUp X x (n - 1) + 1)) (Y (cellUp X x (n - 1))) (Y (cellUp X x (n - 1) + 1)) x
/-- a table that may be -/
structure RightT (n : Nat) (X Y : Nat → Int) : Prop where
  lo : 2 ≤ n
  hi : n ≤ 32
  x : ∀ i, i < n → inT (X i)
  y : ∀ i, i < n → inT (Y i)
  up : ∀ i, 0 < i → i < n → X (i - 1) < X i
theorem errAt_ok {X Y : Nat → Int} {i : Nat} (h : errAt X Y i = 0) : inT (X i) ∧ inT (Y i) ∧ (0 < i → X (i - 1) < X i) := by
  unfold errAt at h
  split at h
  · rename_i h1
    split at h
    · omega
    · rename_i h2; exact ⟨h1.1, h1.2, fun g => by omega⟩
  · omega
theorem rightF_ok {X Y : Nat → Int} : ∀ (k i : Nat), rightF X Y k i = 0 → ∀ j, i ≤ j → j < i + k → errAt X Y j = 0
  | 0, i, _, j, h1, h2 => by omega
  | k + 1, i, h, j, h1, h2 => by
    unfold rightF at h
    by_cases e : errAt X Y i = 0
    · rw [if_pos e] at h
      by_cases g : j = i
      · rw [g]; exact e
      · exact rightF_ok k (i + 1) h j (by omega) (by omega)
    · rw [if_neg e] at h; exact absurd h e
theorem right_of {n : Nat} {X Y : Nat → Int} (h : rightN n X Y = 0) : RightT n X Y := by
  unfold rightN at h
  split at h
  · omega
  · rename_i c
    have e := rightF_ok n 0 h
    exact ⟨by omega, by omega, fun i g => (errAt_ok (e i (by omega) (by omega))).1, fun i g => (errAt_ok (e i (by omega) (by omega))).2.1, fun i g0 g => (errAt_ok (e i (by omega) (by omega))).2.2 g0⟩
theorem RightT.lt {n : Nat} {X Y : Nat → Int} (R : RightT n X Y) : ∀ (d i : Nat), i + d + 1 < n → X i < X (i + d + 1)
  | 0, i, h => by have := R.up (i + 1) (by omega) (by omega); simpa using this
  | d + 1, i, h => by
    have h1 := RightT.lt R d i (by omega)
    have h2 := R.up (i + d + 1 + 1) (by omega) (by omega)
    have e : i + d + 1 + 1 - 1 = i + d + 1 := by omega
    rw [e] at h2
    have e2 : i + (d + 1) + 1 = i + d + 1 + 1 := by omega
    rw [e2]; omega
theorem RightT.mono {n : Nat} {X Y : Nat → Int} (R : RightT n X Y) {i j : Nat} (h : i < j) (hj : j < n) : X i < X j := by
  have := R.lt (j - i - 1) i (by omega)
  have e : i + (j - i - 1) + 1 = j := by omega
  rwa [e] at this
theorem RightT.le {n : Nat} {X Y : Nat → Int} (R : RightT n X Y) {i j : Nat} (h : i ≤ j) (hj : j < n) : X i ≤ X j := by
  by_cases e : i = j
  · rw [e]; omega
  · have := R.mono (show i < j by omega) hj; omega
theorem cellUp_le (X : Nat → Int) (x : Int) : ∀ k, cellUp X x k ≤ k - 1
  | 0 => by simp [cellUp]
  | k + 1 => by
    unfold cellUp
    split
    · omega
    · have := cellUp_le X x k; omega
theorem cellUp_above (X : Nat → Int) (x : Int) : ∀ k j, cellUp X x k < j → j < k → x < X j
  | 0, j, _, h => by omega
  | k + 1, j, h, hj => by
    unfold cellUp at h
    by_cases c : X k ≤ x
    · rw [if_pos c] at h; omega
    · rw [if_neg c] at h
      by_cases e : j = k
      · rw [e]; omega
      · exact cellUp_above X x k j h (by omega)
theorem cellUp_at (X : Nat → Int) (x : Int) : ∀ k, cellUp X x k = 0 ∨ X (cellUp X x k) ≤ x
  | 0 => Or.inl rfl
  | k + 1 => by
    unfold cellUp
    by_cases c : X k ≤ x
    · rw [if_pos c]; exact Or.inr c
    · rw [if_neg c]; exact cellUp_at X x k
theorem bound_ge (Y : Nat → Int) : ∀ k i, i < k → -(boundUp Y k) ≤ Y i ∧ Y i ≤ boundUp Y k
  | 0, i, h => by omega
  | k + 1, i, h => by
    unfold boundUp
    by_cases e : i = k
    · rw [e]; omega
    · have := bound_ge Y k i (by omega); omega
theorem bound_in {n : Nat} {X Y : Nat → Int} (R : RightT n X Y) : ∀ k, k ≤ n → 0 ≤ boundUp Y k ∧ boundUp Y k ≤ 4503599627370496
  | 0, _ => by simp [boundUp]
  | k + 1, h => by
    have h1 := bound_in R k (by omega)
    have h2 := R.y k (by omega)
    unfold inT at h2
    unfold boundUp; omega
theorem rq_even {m d : Int} (hd : 0 < d) : rq (m * d) d = m := by
  have h := rq_near (a := m * d) hd
  have e : rq (m * d) d * d - m * d = (rq (m * d) d - m) * d := by grind
  rw [e] at h
  obtain ⟨q, hq⟩ : ∃ q, rq (m * d) d - m = q := ⟨_, rfl⟩
  rw [hq] at h
  have h1 : q ≤ 0 := by
    apply Classical.byContradiction; intro c
    have := Int.mul_le_mul_of_nonneg_right (show 1 ≤ q by omega) (show 0 ≤ d by omega)
    omega
  have h2 : 0 ≤ q := by
    apply Classical.byContradiction; intro c
    have := Int.mul_le_mul_of_nonneg_right (show q ≤ -1 by omega) (show 0 ≤ d by omega)
    omega
  omega
theorem rq_zero {d : Int} (hd : 0 < d) : rq 0 d = 0 := by have := rq_even (m := 0) hd; rwa [Int.zero_mul] at this
theorem rq_part {a d m : Int} (hd : 0 < d) (h0 : 0 ≤ a) (h1 : a ≤ m * d) : 0 ≤ rq a d ∧ rq a d ≤ m := by
  have e0 := rq_mono hd h0
  have e1 := rq_mono hd h1
  rw [rq_zero hd] at e0
  rw [rq_even hd] at e1
  exact ⟨e0, e1⟩
/-- a product with a part of 1 -/
theorem mul_part {D t : Int} (hD : -18014398509481984 ≤ D ∧ D ≤ 18014398509481984) (h0 : 0 ≤ t) (h1 : t ≤ 4294967296) :
    mulO D t = false ∧ mulF D t = rq (D * t) 4294967296 ∧ (0 ≤ D → 0 ≤ mulF D t ∧ mulF D t ≤ D) ∧ (D ≤ 0 → D ≤ mulF D t ∧ mulF D t ≤ 0) := by
  have hp : 0 ≤ D → 0 ≤ rq (D * t) 4294967296 ∧ rq (D * t) 4294967296 ≤ D := fun h =>
    rq_part (by omega) (Int.mul_nonneg h h0) (Int.mul_le_mul_of_nonneg_left h1 h)
  have hn : D ≤ 0 → D ≤ rq (D * t) 4294967296 ∧ rq (D * t) 4294967296 ≤ 0 := fun h => by
    have a1 : D * t ≤ 0 := by have := Int.mul_nonneg (show 0 ≤ -D by omega) h0; have e : -D * t = -(D * t) := by grind
                              omega
    have a2 : D * 4294967296 ≤ D * t := by
      have := Int.mul_le_mul_of_nonneg_left h1 (show 0 ≤ -D by omega)
      have e1 : -D * t = -(D * t) := by grind
      have e2 : -D * 4294967296 = -(D * 4294967296) := by grind
      omega
    have e0 := rq_mono (d := 4294967296) (by omega) a1
    have e1 := rq_mono (d := 4294967296) (by omega) a2
    rw [rq_zero (by omega)] at e0
    rw [rq_even (by omega)] at e1
    exact ⟨e1, e0⟩
  have hi : In64 (rq (D * t) 4294967296) := by
    unfold In64
    rcases Int.le_total 0 D with h | h
    · have := hp h; omega
    · have := hn h; omega
  have hm : mulF D t = rq (D * t) 4294967296 := by unfold mulF quoF; rw [if_neg (by omega)]; exact (clip64_of hi).1
  have ho : mulO D t = false := by unfold mulO quoO; rw [if_neg (by omega)]; exact (clip64_of hi).2
  exact ⟨ho, hm, by rw [hm]; exact hp, by rw [hm]; exact hn⟩
theorem sub_fit {a b : Int} (ha : inT a) (hb : inT b) : subF a b = a - b ∧ subO a b = false := by
  have h : In64 (a - b) := by unfold inT at *; unfold In64; omega
  exact clip64_of h
theorem div_part {p q : Int} (hp : 0 ≤ p) (hq : p < q) (hm : q ≤ 18014398509481984) : divO p q = false ∧ divF p q = rq (p * 4294967296) q ∧ 0 ≤ divF p q ∧ divF p q ≤ 4294967296 := by
  have hpq : p * 4294967296 ≤ 4294967296 * q := by omega
  have h := rq_part (a := p * 4294967296) (d := q) (m := 4294967296) (by omega) (by omega) hpq
  have hi : In64 (rq (p * 4294967296) q) := by unfold In64; omega
  have hm : divF p q = rq (p * 4294967296) q := by unfold divF quoF; rw [if_neg (by omega)]; exact (clip64_of hi).1
  have ho : divO p q = false := by unfold divO quoO; rw [if_neg (by omega)]; exact (clip64_of hi).2
  exact ⟨ho, hm, by rw [hm]; exact h.1, by rw [hm]; exact h.2⟩
theorem mix_part {y z t : Int} (hy : inT y) (hz : inT z) (h0 : 0 ≤ t) (h1 : t ≤ 4294967296) : mixO y z t = false ∧ mixF y z t = y + rq ((z - y) * t) 4294967296 ∧ min y z ≤ mixF y z t ∧ mixF y z t ≤ max y z := by
  obtain ⟨s1, s2⟩ := sub_fit hz hy
  have hD : -18014398509481984 ≤ z - y ∧ z - y ≤ 18014398509481984 := by unfold inT at *; omega
  obtain ⟨m1, m2, m3, m4⟩ := mul_part hD h0 h1
  have hb : min y z ≤ y + mulF (z - y) t ∧ y + mulF (z - y) t ≤ max y z := by
    rcases Int.le_total 0 (z - y) with h | h
    · have := m3 h; omega
    · have := m4 h; omega
  have hi : In64 (y + mulF (z - y) t) := by unfold inT at *; unfold In64; omega
  obtain ⟨c1, c2⟩ := clip64_of hi
  have e : mixF y z t = y + mulF (z - y) t := by unfold mixF addF; rw [s1]; exact c1
  have o : mixO y z t = false := by unfold mixO addO; rw [s1, s2, m1, c2]; rfl
  rw [e]
  exact ⟨o, by rw [m2], hb.1, hb.2⟩
/-- a stretch of a table -/
theorem seg_part {a b y z x : Int} (ha : inT a) (hb : inT b) (hy : inT y) (hz : inT z) (h0 : a ≤ x) (h1 : x < b) :
    segO a b y z x = false ∧ min y z ≤ segF a b y z x ∧ segF a b y z x ≤ max y z ∧ segF a b y z x = y + rq ((z - y) * rq ((x - a) * 4294967296) (b - a)) 4294967296 := by
  have hx : inT x := by unfold inT at *; omega
  obtain ⟨s1, s2⟩ := sub_fit hx ha
  obtain ⟨s3, s4⟩ := sub_fit hb ha
  obtain ⟨d1, d2, d3, d4⟩ := div_part (p := x - a) (q := b - a) (by omega) (by omega) (by unfold inT at *; omega)
  obtain ⟨m1, m2, m3, m4⟩ := mix_part hy hz d3 d4
  unfold segO segF
  rw [s1, s2, s3, s4, d1, m1]
  exact ⟨rfl, m3, m4, by rw [m2, d2]⟩
theorem seg_mono {a b y z x x' : Int} (ha : inT a) (hb : inT b) (hy : inT y) (hz : inT z) (h0 : a ≤ x) (h : x ≤ x') (h1 : x' < b) (hyz : y ≤ z) : segF a b y z x ≤ segF a b y z x' := by
  rw [(seg_part ha hb hy hz h0 (by omega)).2.2.2, (seg_part ha hb hy hz (by omega) h1).2.2.2]
  have e1 := rq_mono (a := (x - a) * 4294967296) (b := (x' - a) * 4294967296) (d := b - a) (by omega) (by omega)
  have e2 := Int.mul_le_mul_of_nonneg_left e1 (show 0 ≤ z - y by omega)
  have e3 := rq_mono (d := 4294967296) (by omega) e2
  omega
theorem seg_at {a b y z : Int} (ha : inT a) (hb : inT b) (hy : inT y) (hz : inT z) (h : a < b) : segF a b y z a = y := by
  rw [(seg_part ha hb hy hz (by omega) h).2.2.2, show (a - a) * 4294967296 = 0 by omega, rq_zero (by omega), Int.mul_zero, rq_zero (by omega)]
  omega
/-- where a number lies in a table that may be -/
theorem eval_cases {n : Nat} {X Y : Nat → Int} (R : RightT n X Y) (x : Int) : cellUp X x (n - 1) + 1 < n ∧ evalO n X Y x = false ∧
    ((x ≤ X 0 ∧ cellUp X x (n - 1) = 0 ∧ evalN n X Y x = Y 0) ∨ (X 0 < x ∧ X (n - 1) ≤ x ∧ cellUp X x (n - 1) + 1 = n - 1 ∧ evalN n X Y x = Y (n - 1)) ∨
      (X (cellUp X x (n - 1)) ≤ x ∧ x < X (cellUp X x (n - 1) + 1) ∧ X 0 < x ∧ x < X (n - 1) ∧ evalN n X Y x = segF (X (cellUp X x (n - 1))) (X (cellUp X x (n - 1) + 1)) (Y (cellUp X x (n - 1))) (Y (cellUp X x (n - 1) + 1)) x)) := by
  have hl := R.lo
  have c1 := cellUp_le X x (n - 1)
  have c2 := cellUp_above X x (n - 1)
  have c3 := cellUp_at X x (n - 1)
  have hc : cellUp X x (n - 1) + 1 < n := by omega
  by_cases h0 : x ≤ X 0
  · have z : cellUp X x (n - 1) = 0 := by
      rcases c3 with g | g
      · exact g
      · apply Classical.byContradiction; intro k
        have := R.mono (show 0 < cellUp X x (n - 1) by omega) (by omega); omega
    refine ⟨hc, by unfold evalO; rw [if_neg (by omega), if_pos h0], Or.inl ⟨h0, z, by unfold evalN; rw [if_neg (by omega), if_pos h0]⟩⟩
  · by_cases h1 : X (n - 1) ≤ x
    · have z : cellUp X x (n - 1) + 1 = n - 1 := by
        apply Classical.byContradiction; intro k
        have g1 := c2 (n - 2) (by omega) (by omega)
        have g2 := R.mono (show n - 2 < n - 1 by omega) (by omega)
        omega
      refine ⟨hc, by unfold evalO; rw [if_neg (by omega), if_neg h0, if_pos h1], Or.inr (Or.inl ⟨by omega, h1, z, by unfold evalN; rw [if_neg (by omega), if_neg h0, if_pos h1]⟩)⟩
    · have g0 : X (cellUp X x (n - 1)) ≤ x := by
        rcases c3 with g | g
        · rw [g]; omega
        · exact g
      have g1 : x < X (cellUp X x (n - 1) + 1) := by
        by_cases k : cellUp X x (n - 1) + 1 < n - 1
        · exact c2 _ (by omega) k
        · have e : cellUp X x (n - 1) + 1 = n - 1 := by omega
          rw [e]; omega
      have S := seg_part (R.x _ (show cellUp X x (n - 1) < n by omega)) (R.x _ hc) (R.y _ (show cellUp X x (n - 1) < n by omega)) (R.y _ hc) g0 g1
      refine ⟨hc, by unfold evalO; rw [if_neg (by omega), if_neg h0, if_neg h1]; exact S.1, Or.inr (Or.inr ⟨g0, g1, by omega, by omega, by unfold evalN; rw [if_neg (by omega), if_neg h0, if_neg h1]⟩)⟩
theorem eval_between {n : Nat} {X Y : Nat → Int} (R : RightT n X Y) (x : Int) : min (Y (cellUp X x (n - 1))) (Y (cellUp X x (n - 1) + 1)) ≤ evalN n X Y x ∧ evalN n X Y x ≤ max (Y (cellUp X x (n - 1))) (Y (cellUp X x (n - 1) + 1)) := by
  obtain ⟨hc, _, h⟩ := eval_cases R x
  rcases h with ⟨_, z, e⟩ | ⟨_, _, z, e⟩ | ⟨g0, g1, _, _, e⟩
  · rw [e, z]; omega
  · rw [e, z]; omega
  · rw [e]
    have S := seg_part (R.x _ (show cellUp X x (n - 1) < n by omega)) (R.x _ hc) (R.y _ (show cellUp X x (n - 1) < n by omega)) (R.y _ hc) g0 g1
    exact ⟨S.2.1, S.2.2.1⟩
theorem eval_bound {n : Nat} {X Y : Nat → Int} (R : RightT n X Y) (x : Int) : -(boundUp Y n) ≤ evalN n X Y x ∧ evalN n X Y x ≤ boundUp Y n := by
  have h := eval_between R x
  have c := (eval_cases R x).1
  have b1 := bound_ge Y n (cellUp X x (n - 1)) (by omega)
  have b2 := bound_ge Y n (cellUp X x (n - 1) + 1) c
  omega
theorem cell_is {n : Nat} {X Y : Nat → Int} (R : RightT n X Y) {i : Nat} {x : Int} (hi : i + 1 < n) (h0 : X i ≤ x) (h1 : x < X (i + 1)) : cellUp X x (n - 1) = i := by
  have c1 := cellUp_le X x (n - 1)
  have c2 := cellUp_above X x (n - 1)
  have c3 := cellUp_at X x (n - 1)
  by_cases g : cellUp X x (n - 1) < i
  · have := c2 i g (by omega); omega
  · by_cases k : i < cellUp X x (n - 1)
    · rcases c3 with z | z
      · omega
      · have := R.le (show i + 1 ≤ cellUp X x (n - 1) by omega) (by omega); omega
    · omega
theorem eval_point {n : Nat} {X Y : Nat → Int} (R : RightT n X Y) {i : Nat} (hi : i < n) : evalN n X Y (X i) = Y i := by
  have hl := R.lo
  obtain ⟨hc, _, h⟩ := eval_cases R (X i)
  rcases h with ⟨h0, _, e⟩ | ⟨_, h1, _, e⟩ | ⟨g0, g1, k0, k1, e⟩
  · have : i = 0 := by
      apply Classical.byContradiction; intro c
      have := R.mono (show 0 < i by omega) hi; omega
    rw [e, this]
  · have : i = n - 1 := by
      apply Classical.byContradiction; intro c
      have := R.mono (show i < n - 1 by omega) (by omega); omega
    rw [e, this]
  · have hi1 : i + 1 < n := by
      apply Classical.byContradiction; intro c
      have : i = n - 1 := by omega
      rw [this] at k1; omega
    have ec := cell_is R hi1 (Int.le_refl _) (R.mono (show i < i + 1 by omega) hi1)
    rw [e, ec]
    exact seg_at (R.x _ hi) (R.x _ hi1) (R.y _ hi) (R.y _ hi1) (R.mono (show i < i + 1 by omega) hi1)
theorem ys_le {n : Nat} {Y : Nat → Int} (up : ∀ i, 0 < i → i < n → Y (i - 1) ≤ Y i) : ∀ (d i : Nat), i + d < n → Y i ≤ Y (i + d)
  | 0, i, _ => by simp
  | d + 1, i, h => by
    have h1 := ys_le up d i (by omega)
    have h2 := up (i + d + 1) (by omega) (by omega)
    have e : i + d + 1 - 1 = i + d := by omega
    rw [e] at h2
    have e2 : i + (d + 1) = i + d + 1 := by omega
    rw [e2]; omega
theorem eval_rises {n : Nat} {X Y : Nat → Int} (R : RightT n X Y) (up : ∀ i, 0 < i → i < n → Y (i - 1) ≤ Y i) {a b : Int} (h : a ≤ b) : evalN n X Y a ≤ evalN n X Y b := by
  have hl := R.lo
  have yl : ∀ {i j : Nat}, i ≤ j → j < n → Y i ≤ Y j := fun {i j} h1 h2 => by
    have := ys_le up (j - i) i (by omega)
    have e : i + (j - i) = j := by omega
    rwa [e] at this
  have A := eval_between R a
  have B := eval_between R b
  obtain ⟨ha, _, ca⟩ := eval_cases R a
  obtain ⟨hb, _, cb⟩ := eval_cases R b
  have ya := yl (show cellUp X a (n - 1) ≤ cellUp X a (n - 1) + 1 by omega) ha
  have yb := yl (show cellUp X b (n - 1) ≤ cellUp X b (n - 1) + 1 by omega) hb
  rcases ca with ⟨_, _, ea⟩ | ⟨a0, a1, za, ea⟩ | ⟨ga0, ga1, ka0, ka1, ea⟩
  · have := yl (show 0 ≤ cellUp X b (n - 1) by omega) (show cellUp X b (n - 1) < n by omega)
    omega
  · rcases cb with ⟨b0, _, _⟩ | ⟨_, _, _, eb⟩ | ⟨_, _, _, kb, _⟩
    · omega
    · rw [ea, eb]; omega
    · omega
  · rcases cb with ⟨b0, _, _⟩ | ⟨_, _, _, eb⟩ | ⟨gb0, gb1, kb0, kb1, eb⟩
    · omega
    · have := yl (show cellUp X a (n - 1) + 1 ≤ n - 1 by omega) (by omega)
      omega
    · by_cases e : cellUp X a (n - 1) = cellUp X b (n - 1)
      · rw [ea, eb, e]
        rw [e] at ga0 ya
        exact seg_mono (R.x _ (by omega)) (R.x _ hb) (R.y _ (by omega)) (R.y _ hb) ga0 h gb1 ya
      · by_cases k : cellUp X a (n - 1) < cellUp X b (n - 1)
        · have := yl (show cellUp X a (n - 1) + 1 ≤ cellUp X b (n - 1) by omega) (by omega)
          omega
        · have := R.le (show cellUp X b (n - 1) + 1 ≤ cellUp X a (n - 1) by omega) (by omega)
          omega
end Go.Proofs.Ytbpmbdnhfkfkhaa
namespace Go.Proofs.Ytbpmbdnhfkfkhaa
open Go.RowKit
set_option linter.unusedVariables false

/-- a slice of numbers: where it lies, and what it reads as -/
structure Sl where
  a : Option Addr
  n : Nat
  c : Nat
  v : Nat → Int
/-- a pane: columns, rows' places, and the rows -/
structure Pn where
  x : Sl
  y : Sl
  a : Option Addr
  n : Nat
  c : Nat
  r : Nat → Sl
def inS (s : Sl) : Prop := ∀ i, i < s.n → inT (s.v i)
def upS (s : Sl) : Prop := ∀ i, i < s.n → 0 < i → s.v (i - 1) < s.v i
instance (n : Int) : Decidable (inT n) := by unfold inT; exact inferInstance
instance (s : Sl) : Decidable (inS s) := by unfold inS; exact inferInstance
instance (s : Sl) : Decidable (upS s) := by unfold upS; exact inferInstance
def shapeP (p : Pn) : Prop := (2 ≤ p.x.n ∧ p.x.n ≤ 32 ∧ 2 ≤ p.y.n ∧ p.y.n ≤ 32 ∧ p.n = p.y.n) ∧ ∀ i, i < p.n → (p.r i).n = p.x.n
def rangeP (p : Pn) : Prop := (inS p.x ∧ inS p.y) ∧ ∀ i, i < p.n → inS (p.r i)
def orderP (p : Pn) : Prop := upS p.x ∧ upS p.y
instance (p : Pn) : Decidable (shapeP p) := by unfold shapeP; exact inferInstance
instance (p : Pn) : Decidable (rangeP p) := by unfold rangeP; exact inferInstance
instance (p : Pn) : Decidable (orderP p) := by unfold orderP; exact inferInstance
def paneR (p : Pn) : Int := if shapeP p then (if rangeP p then (if orderP p then 0 else 41) else 40) else 42
theorem paneR_ok {p : Pn} (h : paneR p = 0) : shapeP p ∧ rangeP p ∧ orderP p := by
  unfold paneR at h
  by_cases s : shapeP p
  · rw [if_pos s] at h
    by_cases r : rangeP p
    · rw [if_pos r] at h
      by_cases o : orderP p
      · exact ⟨s, r, o⟩
      · rw [if_neg o] at h; omega
    · rw [if_neg r] at h; omega
  · rw [if_neg s] at h; omega
/-- how many points a row has -/
def rowN (p : Pn) (i : Nat) : Nat := if i < p.n then min p.x.n (p.r i).n else 0
/-- what each row tells at x -/
def rowV (p : Pn) (x : Int) (i : Nat) : Int := evalN p.x.n p.x.v (p.r i).v x
def evalP (p : Pn) (x y : Int) : Int := if paneR p = 0 then evalN p.y.n p.y.v (rowV p x) y else 0
def minV (v : Nat → Int) (a : Int) : Nat → Int
  | 0 => a
  | k + 1 => min (minV v a k) (v k)
def maxV (v : Nat → Int) (a : Int) : Nat → Int
  | 0 => a
  | k + 1 => max (maxV v a k) (v k)
def minR (r : Nat → Sl) (a : Int) : Nat → Int
  | 0 => a
  | i + 1 => minV (r i).v (minR r a i) (r i).n
def maxR (r : Nat → Sl) (a : Int) : Nat → Int
  | 0 => a
  | i + 1 => maxV (r i).v (maxR r a i) (r i).n
def lowP (p : Pn) : Int := if paneR p = 0 then minR p.r ((p.r 0).v 0) p.n else 0
def highP (p : Pn) : Int := if paneR p = 0 then maxR p.r ((p.r 0).v 0) p.n else 0
theorem minV_le (v : Nat → Int) (a : Int) : ∀ n, minV v a n ≤ a ∧ ∀ k, k < n → minV v a n ≤ v k
  | 0 => ⟨Int.le_refl _, fun k h => absurd h (by omega)⟩
  | n + 1 => by
    obtain ⟨h1, h2⟩ := minV_le v a n
    unfold minV
    refine ⟨by omega, fun k hk => ?_⟩
    rcases Nat.lt_or_ge k n with l | l
    · have := h2 k l; omega
    · have e : k = n := by omega
      subst e; omega
theorem maxV_ge (v : Nat → Int) (a : Int) : ∀ n, a ≤ maxV v a n ∧ ∀ k, k < n → v k ≤ maxV v a n
  | 0 => ⟨Int.le_refl _, fun k h => absurd h (by omega)⟩
  | n + 1 => by
    obtain ⟨h1, h2⟩ := maxV_ge v a n
    unfold maxV
    refine ⟨by omega, fun k hk => ?_⟩
    rcases Nat.lt_or_ge k n with l | l
    · have := h2 k l; omega
    · have e : k = n := by omega
      subst e; omega
theorem minR_le (r : Nat → Sl) (a : Int) : ∀ n, minR r a n ≤ a ∧ ∀ i, i < n → ∀ k, k < (r i).n → minR r a n ≤ (r i).v k
  | 0 => ⟨Int.le_refl _, fun k h => absurd h (by omega)⟩
  | n + 1 => by
    obtain ⟨h1, h2⟩ := minR_le r a n
    obtain ⟨g1, g2⟩ := minV_le (r n).v (minR r a n) (r n).n
    unfold minR
    refine ⟨by omega, fun i hi k hk => ?_⟩
    rcases Nat.lt_or_ge i n with l | l
    · have := h2 i l k hk; omega
    · have e : i = n := by omega
      subst e; exact g2 k hk
theorem maxR_ge (r : Nat → Sl) (a : Int) : ∀ n, a ≤ maxR r a n ∧ ∀ i, i < n → ∀ k, k < (r i).n → (r i).v k ≤ maxR r a n
  | 0 => ⟨Int.le_refl _, fun k h => absurd h (by omega)⟩
  | n + 1 => by
    obtain ⟨h1, h2⟩ := maxR_ge r a n
    obtain ⟨g1, g2⟩ := maxV_ge (r n).v (maxR r a n) (r n).n
    unfold maxR
    refine ⟨by omega, fun i hi k hk => ?_⟩
    rcases Nat.lt_or_ge i n with l | l
    · have := h2 i l k hk; omega
    · have e : i = n := by omega
      subst e; exact g2 k hk
/-- the least and the greatest, whoever reckons them -/
theorem low_is {p : Pn} (h : paneR p = 0) : (∀ i, i < p.n → ∀ k, k < p.x.n → lowP p ≤ (p.r i).v k ∧ (p.r i).v k ≤ highP p) := by
  obtain ⟨⟨_, s⟩, _⟩ := paneR_ok h
  unfold lowP highP
  rw [if_pos h, if_pos h]
  exact fun i hi k hk => ⟨(minR_le p.r _ p.n).2 i hi k (by rw [s i hi]; exact hk), (maxR_ge p.r _ p.n).2 i hi k (by rw [s i hi]; exact hk)⟩
theorem row_right {p : Pn} (h : paneR p = 0) {i : Nat} (hi : i < p.n) : RightT p.x.n p.x.v (p.r i).v := by
  obtain ⟨⟨s1, s2⟩, ⟨⟨r1, r2⟩, r3⟩, o1, o2⟩ := paneR_ok h
  exact ⟨s1.1, s1.2.1, r1, fun k hk => r3 i hi k (by rw [s2 i hi]; exact hk), fun k h0 hk => o1 k hk h0⟩
theorem rowV_in {p : Pn} (h : paneR p = 0) (x : Int) {i : Nat} (hi : i < p.n) : lowP p ≤ rowV p x i ∧ rowV p x i ≤ highP p := by
  have R := row_right h hi
  obtain ⟨e1, e2⟩ := eval_between R x
  have c := (eval_cases R x).1
  have a := low_is h i hi (cellUp p.x.v x (p.x.n - 1)) (by omega)
  have b := low_is h i hi (cellUp p.x.v x (p.x.n - 1) + 1) c
  unfold rowV
  omega
theorem rowV_inT {p : Pn} (h : paneR p = 0) (x : Int) {i : Nat} (hi : i < p.n) : inT (rowV p x i) := by
  have R := row_right h hi
  obtain ⟨e1, e2⟩ := eval_between R x
  have c := (eval_cases R x).1
  have a := R.y (cellUp p.x.v x (p.x.n - 1)) (by omega)
  have b := R.y (cellUp p.x.v x (p.x.n - 1) + 1) c
  unfold rowV inT at *
  omega
theorem col_right {p : Pn} (h : paneR p = 0) (x : Int) : RightT p.y.n p.y.v (rowV p x) := by
  obtain ⟨⟨s1, s2⟩, ⟨⟨r1, r2⟩, r3⟩, o1, o2⟩ := paneR_ok h
  exact ⟨s1.2.2.1, s1.2.2.2.1, r2, fun i hi => rowV_inT h x (by omega), fun k h0 hk => o2 k hk h0⟩
theorem pane_between {p : Pn} (h : paneR p = 0) (x y : Int) : lowP p ≤ evalP p x y ∧ evalP p x y ≤ highP p := by
  have R := col_right h x
  obtain ⟨⟨s1, s2⟩, _⟩ := paneR_ok h
  obtain ⟨e1, e2⟩ := eval_between R y
  have c := (eval_cases R y).1
  have a := rowV_in h x (i := cellUp p.y.v y (p.y.n - 1)) (by omega)
  have b := rowV_in h x (i := cellUp p.y.v y (p.y.n - 1) + 1) (by omega)
  unfold evalP
  rw [if_pos h]
  omega
theorem pane_point {p : Pn} (h : paneR p = 0) {i k : Nat} (hi : i < p.n) (hk : k < p.x.n) : evalP p (p.x.v k) (p.y.v i) = (p.r i).v k := by
  obtain ⟨⟨s1, s2⟩, _⟩ := paneR_ok h
  unfold evalP
  rw [if_pos h, eval_point (col_right h _) (by omega)]
  exact eval_point (row_right h hi) hk
/-- nothing of a right pane is beyond a number's bounds -/
theorem pane_fits {p : Pn} (h : paneR p = 0) (x y : Int) : (∀ i, i < p.n → evalO p.x.n p.x.v (p.r i).v x = false) ∧ evalO p.y.n p.y.v (rowV p x) y = false :=
  ⟨fun i hi => (eval_cases (row_right h hi) x).2.1, (eval_cases (col_right h x) y).2.1⟩
end Go.Proofs.Ytbpmbdnhfkfkhaa
namespace Go.Proofs.Ytbpmbdnhfkfkhaa
open Go.RowKit
set_option linter.unusedVariables false

def nearN (n : Nat) (X Y : Nat → Int) : Prop := ∀ i, i < n → Rg (X i) ∧ Rg (Y i)
instance (n : Nat) (X Y : Nat → Int) : Decidable (nearN n X Y) := by unfold nearN; exact inferInstance
def lineR (n : Nat) (X Y : Nat → Int) : Int := if n < 3 ∨ 64 < n then 42 else if nearN n X Y then 0 else 40
theorem lineR_ok {n : Nat} {X Y : Nat → Int} (h : lineR n X Y = 0) : 3 ≤ n ∧ n ≤ 64 ∧ nearN n X Y := by
  unfold lineR at h
  by_cases a : n < 3 ∨ 64 < n
  · rw [if_pos a] at h; omega
  · rw [if_neg a] at h
    by_cases b : nearN n X Y
    · exact ⟨by omega, by omega, b⟩
    · rw [if_neg b] at h; omega
/-- one coordinate of a place -/
def oneF (p0 p1 p2 p3 t : Int) : Int :=
  mulF (addF (2 * p1) (mulF (addF (p2 - p0) (mulF (addF (2 * p0 - 5 * p1 + 4 * p2 - p3) (mulF (3 * p1 - p0 - 3 * p2 + p3) t)) t)) t)) 2147483648
def oneO (p0 p1 p2 p3 t : Int) : Bool :=
  mulO (3 * p1 - p0 - 3 * p2 + p3) t || addO (2 * p0 - 5 * p1 + 4 * p2 - p3) (mulF (3 * p1 - p0 - 3 * p2 + p3) t) ||
  mulO (addF (2 * p0 - 5 * p1 + 4 * p2 - p3) (mulF (3 * p1 - p0 - 3 * p2 + p3) t)) t || addO (p2 - p0) (mulF (addF (2 * p0 - 5 * p1 + 4 * p2 - p3) (mulF (3 * p1 - p0 - 3 * p2 + p3) t)) t) ||
  mulO (addF (p2 - p0) (mulF (addF (2 * p0 - 5 * p1 + 4 * p2 - p3) (mulF (3 * p1 - p0 - 3 * p2 + p3) t)) t)) t || addO (2 * p1) (mulF (addF (p2 - p0) (mulF (addF (2 * p0 - 5 * p1 + 4 * p2 - p3) (mulF (3 * p1 - p0 - 3 * p2 + p3) t)) t)) t) ||
  mulO (addF (2 * p1) (mulF (addF (p2 - p0) (mulF (addF (2 * p0 - 5 * p1 + 4 * p2 - p3) (mulF (3 * p1 - p0 - 3 * p2 + p3) t)) t)) t)) 2147483648
/-- a piece's number, gone round -/
def kOf (n : Nat) (i : Int) : Nat := (i % (n : Int)).toNat
theorem kOf_lt {n : Nat} (h : 0 < n) (i : Int) : kOf n i < n := by
  unfold kOf
  have := Int.emod_nonneg i (show (n : Int) ≠ 0 by omega)
  have := Int.emod_lt_of_pos i (show (0 : Int) < n by omega)
  omega
theorem kOf_at {n k : Nat} (h : k < n) : kOf n (k : Int) = k := by
  unfold kOf
  rw [Int.emod_eq_of_lt (by omega) (by omega)]; rfl
def atSp (n : Nat) (X : Nat → Int) (k : Nat) (t : Int) : Int := oneF (X ((k + n - 1) % n)) (X k) (X ((k + 1) % n)) (X ((k + 2) % n)) t
def atO (n : Nat) (X : Nat → Int) (k : Nat) (t : Int) : Bool := oneO (X ((k + n - 1) % n)) (X k) (X ((k + 1) % n)) (X ((k + 2) % n)) t
/-- a place, of any line, of any piece -/
def placeX (n : Nat) (X Y : Nat → Int) (i t : Int) : Int := if lineR n X Y = 0 then atSp n X (kOf n i) t else 0
def placeY (n : Nat) (X Y : Nat → Int) (i t : Int) : Int := if lineR n X Y = 0 then atSp n Y (kOf n i) t else 0
def placeO (n : Nat) (X Y : Nat → Int) (i t : Int) : Bool := if lineR n X Y = 0 then atO n X (kOf n i) t || atO n Y (kOf n i) t else false
/-- samples: how many, where, and whether all fits up to one -/
def sampN (n : Nat) (X Y : Nat → Int) : Nat := if lineR n X Y = 0 then n * 8 else 0
def sampX (n : Nat) (X : Nat → Int) (s : Nat) : Int := atSp n X (s / 8) (((s % 8 : Nat) : Int) * 536870912)
def sampO (n : Nat) (X Y : Nat → Int) : Nat → Bool
  | 0 => false
  | s + 1 => sampO n X Y s || (atO n X (s / 8) (((s % 8 : Nat) : Int) * 536870912) || atO n Y (s / 8) (((s % 8 : Nat) : Int) * 536870912))
/-- how far along a sample is -/
def wayX (n : Nat) (X : Nat → Int) (i : Nat) : Int := subF (X ((i + 1) % n)) (X i)
noncomputable def lenS (n : Nat) (X Y : Nat → Int) : Nat → Int
  | 0 => 0
  | i + 1 => addF (lenS n X Y i) (lenF (wayX n X i * wayX n X i + wayX n Y i * wayX n Y i))
noncomputable def lenSO (n : Nat) (X Y : Nat → Int) : Nat → Bool
  | 0 => false
  | i + 1 => lenSO n X Y i || (subO (X ((i + 1) % n)) (X i) || subO (Y ((i + 1) % n)) (Y i) || lenO (wayX n X i * wayX n X i + wayX n Y i * wayX n Y i) || addO (lenS n X Y i) (lenF (wayX n X i * wayX n X i + wayX n Y i * wayX n Y i)))
/-- exact squares of distances; the first of the nearest -/
def dSq (X Y : Nat → Int) (px py : Int) (i : Nat) : Int := (X i - px) * (X i - px) + (Y i - py) * (Y i - py)
def nrU (X Y : Nat → Int) (px py : Int) : Nat → Int
  | 0 => -1
  | k + 1 => if nrU X Y px py k < 0 ∨ dSq X Y px py k < dSq X Y px py (nrU X Y px py k).toNat then (k : Int) else nrU X Y px py k
def nearestI (n : Nat) (X Y : Nat → Int) (px py : Int) : Int := if nearN n X Y ∧ Rg px ∧ Rg py then nrU X Y px py n else -1
theorem nrU_is (X Y : Nat → Int) (px py : Int) : ∀ k, 0 < k → 0 ≤ nrU X Y px py k ∧ nrU X Y px py k < (k : Int) ∧ (∀ i, i < k → dSq X Y px py (nrU X Y px py k).toNat ≤ dSq X Y px py i) ∧ ∀ i, i < (nrU X Y px py k).toNat → dSq X Y px py (nrU X Y px py k).toNat < dSq X Y px py i
  | 0, h => absurd h (by omega)
  | k + 1, _ => by
    by_cases h0 : k = 0
    · subst h0
      have e : nrU X Y px py 1 = 0 := by show (if nrU X Y px py 0 < 0 ∨ _ then ((0 : Nat) : Int) else _) = 0; rw [if_pos (Or.inl (by show (-1 : Int) < 0; omega))]; rfl
      rw [e]
      refine ⟨by omega, by omega, fun i hi => ?_, fun i hi => absurd hi (by show ¬ i < 0; omega)⟩
      have e2 : i = 0 := by omega
      subst e2; exact Int.le_refl _
    · obtain ⟨a, b, c, d⟩ := nrU_is X Y px py k (by omega)
      by_cases h : nrU X Y px py k < 0 ∨ dSq X Y px py k < dSq X Y px py (nrU X Y px py k).toNat
      · have e : nrU X Y px py (k + 1) = (k : Int) := if_pos h
        rw [e, show ((k : Int)).toNat = k from rfl]
        have hk : dSq X Y px py k < dSq X Y px py (nrU X Y px py k).toNat := by rcases h with h | h; omega; exact h
        refine ⟨by omega, by omega, fun i hi => ?_, fun i hi => ?_⟩
        · rcases Nat.lt_or_ge i k with l | l
          · have := c i l; omega
          · have e2 : i = k := by omega
            subst e2; exact Int.le_refl _
        · have := c i hi; omega
      · have e : nrU X Y px py (k + 1) = nrU X Y px py k := if_neg h
        rw [e]
        refine ⟨a, by omega, fun i hi => ?_, d⟩
        rcases Nat.lt_or_ge i k with l | l
        · exact c i l
        · have e2 : i = k := by omega
          subst e2; omega
/-! ### Each piece begins at its point -/
theorem mul_zero' (c : Int) : mulF c 0 = 0 ∧ mulO c 0 = false := by
  have e : rq 0 4294967296 = 0 := rq_zero (by omega)
  have h : In64 (rq 0 4294967296) := by rw [e]; unfold In64; omega
  unfold mulF mulO quoF quoO
  rw [Int.mul_zero, if_neg (by omega), if_neg (by omega)]
  have := clip64_of h
  rw [this.1, this.2]; exact ⟨e, rfl⟩
theorem mul_by {x t m : Int} (h : x * t = m * 4294967296) (hm : In64 m) : mulF x t = m ∧ mulO x t = false := by
  have e : rq (m * 4294967296) 4294967296 = m := rq_even (by omega)
  unfold mulF mulO quoF quoO
  rw [h, if_neg (by omega), if_neg (by omega), e]
  exact clip64_of hm
theorem sadd_fit {x y : Int} (h : In64 (x + y)) : addF x y = x + y ∧ addO x y = false := clip64_of h
theorem one_begins {p0 p1 p2 p3 : Int} (h0 : Rg p0) (h1 : Rg p1) (h2 : Rg p2) (h3 : Rg p3) : oneF p0 p1 p2 p3 0 = p1 ∧ oneO p0 p1 p2 p3 0 = false := by
  unfold Rg at *
  have z := fun c => (mul_zero' c)
  have a1 := sadd_fit (x := 2 * p0 - 5 * p1 + 4 * p2 - p3) (y := 0) (by unfold In64; omega)
  have a2 := sadd_fit (x := p2 - p0) (y := 0) (by unfold In64; omega)
  have a3 := sadd_fit (x := 2 * p1) (y := 0) (by unfold In64; omega)
  have m := mul_by (x := 2 * p1) (t := 2147483648) (m := p1) (by omega) (by unfold In64; omega)
  rw [Int.add_zero] at a1 a2 a3
  unfold oneF oneO
  simp only [(z _).1, (z _).2, a1.1, a1.2, a2.1, a2.2, a3.1, a3.2, m.1, m.2, Bool.or_self]
  exact ⟨trivial, trivial⟩
theorem one_ends {p0 p1 p2 p3 : Int} (h0 : Rg p0) (h1 : Rg p1) (h2 : Rg p2) (h3 : Rg p3) : oneF p0 p1 p2 p3 4294967296 = p2 ∧ oneO p0 p1 p2 p3 4294967296 = false := by
  unfold Rg at *
  have i := fun x (h : In64 x) => mul_by (x := x) (t := 4294967296) (m := x) rfl h
  have m1 := i (3 * p1 - p0 - 3 * p2 + p3) (by unfold In64; omega)
  have a1 := sadd_fit (x := 2 * p0 - 5 * p1 + 4 * p2 - p3) (y := 3 * p1 - p0 - 3 * p2 + p3) (by unfold In64; omega)
  have m2 := i (2 * p0 - 5 * p1 + 4 * p2 - p3 + (3 * p1 - p0 - 3 * p2 + p3)) (by unfold In64; omega)
  have a2 := sadd_fit (x := p2 - p0) (y := 2 * p0 - 5 * p1 + 4 * p2 - p3 + (3 * p1 - p0 - 3 * p2 + p3)) (by unfold In64; omega)
  have m3 := i (p2 - p0 + (2 * p0 - 5 * p1 + 4 * p2 - p3 + (3 * p1 - p0 - 3 * p2 + p3))) (by unfold In64; omega)
  have a3 := sadd_fit (x := 2 * p1) (y := p2 - p0 + (2 * p0 - 5 * p1 + 4 * p2 - p3 + (3 * p1 - p0 - 3 * p2 + p3))) (by unfold In64; omega)
  have m := mul_by (x := 2 * p1 + (p2 - p0 + (2 * p0 - 5 * p1 + 4 * p2 - p3 + (3 * p1 - p0 - 3 * p2 + p3)))) (t := 2147483648) (m := p2) (by omega) (by unfold In64; omega)
  unfold oneF oneO
  simp only [m1.1, m1.2, a1.1, a1.2, m2.1, m2.2, a2.1, a2.2, m3.1, m3.2, a3.1, a3.2, m.1, m.2, Bool.or_self]
  exact ⟨trivial, trivial⟩
theorem place_ends {n : Nat} {X Y : Nat → Int} (h : lineR n X Y = 0) {k : Nat} (hk : k < n) :
    (placeX n X Y (k : Int) 0 = X k ∧ placeY n X Y (k : Int) 0 = Y k ∧ placeO n X Y (k : Int) 0 = false) ∧
    (placeX n X Y (k : Int) 4294967296 = X ((k + 1) % n) ∧ placeY n X Y (k : Int) 4294967296 = Y ((k + 1) % n) ∧ placeO n X Y (k : Int) 4294967296 = false) := by
  obtain ⟨l0, l1, l2⟩ := lineR_ok h
  have m : ∀ j, j % n < n := fun j => Nat.mod_lt _ (by omega)
  have x0 := one_begins (l2 _ (m (k + n - 1))).1 (l2 _ hk).1 (l2 _ (m (k + 1))).1 (l2 _ (m (k + 2))).1
  have y0 := one_begins (l2 _ (m (k + n - 1))).2 (l2 _ hk).2 (l2 _ (m (k + 1))).2 (l2 _ (m (k + 2))).2
  have x1 := one_ends (l2 _ (m (k + n - 1))).1 (l2 _ hk).1 (l2 _ (m (k + 1))).1 (l2 _ (m (k + 2))).1
  have y1 := one_ends (l2 _ (m (k + n - 1))).2 (l2 _ hk).2 (l2 _ (m (k + 1))).2 (l2 _ (m (k + 2))).2
  unfold placeX placeY placeO atSp atO
  rw [if_pos h, if_pos h, if_pos h, if_pos h, if_pos h, if_pos h, kOf_at hk]
  exact ⟨⟨x0.1, y0.1, by rw [x0.2, y0.2]; rfl⟩, x1.1, y1.1, by rw [x1.2, y1.2]; rfl⟩
end Go.Proofs.Ytbpmbdnhfkfkhaa
namespace Go.Proofs.Ytbpmbdnhfkfkhaa
open Go.RowKit
set_option linter.unusedVariables false

/-- a root by its bits -/
def isq (n : Nat) : Nat → Nat → Nat
  | 0, r => r
  | b + 1, r => if (r + 2 ^ b) * (r + 2 ^ b) ≤ n then isq n b (r + 2 ^ b) else isq n b r
theorem isq_is (n : Nat) : ∀ b r, r * r ≤ n → n < (r + 2 ^ b) * (r + 2 ^ b) → isq n b r * isq n b r ≤ n ∧ n < (isq n b r + 1) * (isq n b r + 1)
  | 0, r, h, k => ⟨h, k⟩
  | b + 1, r, h, k => by
    unfold isq
    by_cases c : (r + 2 ^ b) * (r + 2 ^ b) ≤ n
    · rw [if_pos c]
      refine isq_is n b _ c ?_
      have e : r + 2 ^ b + 2 ^ b = r + 2 ^ (b + 1) := by rw [Nat.pow_succ]; omega
      rw [e]; exact k
    · rw [if_neg c]
      exact isq_is n b r h (by omega)
theorem root_isq {S : Int} (h0 : 0 ≤ S) (h1 : S < 4722366482869645213696) : rootI S = (isq S.toNat 36 0 : Nat) ∧ 0 ≤ rootI S ∧ rootI S < 68719476736 := by
  have hS : S < (0 + 68719476736) * (0 + 68719476736) := by omega
  obtain ⟨a, b⟩ := isq_is S.toNat 36 0 (by omega) (by show S.toNat < (0 + 68719476736) * (0 + 68719476736); omega)
  generalize isq S.toNat 36 0 = s at *
  have a' : ((s : Int) * s) ≤ S := by have : ((s * s : Nat) : Int) ≤ (S.toNat : Int) := Int.ofNat_le.mpr a
                                      rw [Int.toNat_of_nonneg h0] at this; rwa [Int.natCast_mul] at this
  have b' : S < ((s : Int) + 1) * (s + 1) := by
    have : (S.toNat : Int) < (((s + 1) * (s + 1) : Nat) : Int) := Int.ofNat_lt.mpr b
    rw [Int.toNat_of_nonneg h0, Int.natCast_mul] at this; exact this
  have e := rootI_eq (n := S) (s := (s : Int)) ⟨by omega, a', b'⟩
  refine ⟨e, by rw [e]; omega, ?_⟩
  rw [e]
  apply Classical.byContradiction; intro c
  have := Int.mul_le_mul (show (68719476736 : Int) ≤ s by omega) (show (68719476736 : Int) ≤ s by omega) (by omega) (by omega)
  omega
def sqX (i : Nat) : Int := if i = 0 then 0 else if i = 1 then 34359738368 else if i = 2 then 34359738368 else 0
def sqY (i : Nat) : Int := if i = 0 then 0 else if i = 1 then 0 else if i = 2 then 34359738368 else 34359738368
def qS (i : Nat) : Int := (sampX 4 sqX ((i + 1) % 32) - sampX 4 sqX i) * (sampX 4 sqX ((i + 1) % 32) - sampX 4 sqX i) + (sampX 4 sqY ((i + 1) % 32) - sampX 4 sqY i) * (sampX 4 sqY ((i + 1) % 32) - sampX 4 sqY i)
/-- lengths by roots of bits -/
def lenT : Nat → Int
  | 0 => 0
  | i + 1 => lenT i + (isq (qS i).toNat 36 0 : Nat)
theorem q_ev : lineR 4 sqX sqY = 0 ∧ sampO 4 sqX sqY 32 = false ∧ (∀ i, i < 32 → (-1099511627776 ≤ sampX 4 sqX i ∧ sampX 4 sqX i ≤ 1099511627776) ∧ -1099511627776 ≤ sampX 4 sqY i ∧ sampX 4 sqY i ≤ 1099511627776) ∧ (∀ i, i < 32 → 0 ≤ qS i ∧ qS i < 4722366482869645213696) ∧ 137438953472 < lenT 32 := by decide +kernel
theorem q_near : ∀ i, i < 32 → dSq (sampX 4 sqX) (sampX 4 sqY) 38654705664 (-4294967296) 8 ≤ dSq (sampX 4 sqX) (sampX 4 sqY) 38654705664 (-4294967296) i ∧ (i < 8 → dSq (sampX 4 sqX) (sampX 4 sqY) 38654705664 (-4294967296) 8 < dSq (sampX 4 sqX) (sampX 4 sqY) 38654705664 (-4294967296) i) := by decide +kernel
theorem q_nearest : nearestI 32 (sampX 4 sqX) (sampX 4 sqY) 38654705664 (-4294967296) = 8 := by
  have R : nearN 32 (sampX 4 sqX) (sampX 4 sqY) := fun i hi => by
    have := q_ev.2.2.1 i hi
    unfold Rg; omega
  unfold nearestI
  rw [if_pos ⟨R, by unfold Rg; omega, by unfold Rg; omega⟩]
  obtain ⟨a, b, c, d⟩ := nrU_is (sampX 4 sqX) (sampX 4 sqY) 38654705664 (-4294967296) 32 (by omega)
  generalize nrU (sampX 4 sqX) (sampX 4 sqY) 38654705664 (-4294967296) 32 = r at *
  have h1 := c 8 (by omega)
  have h2 := q_near r.toNat (by omega)
  rcases Int.lt_trichotomy r 8 with l | l | l
  · have := h2.2 (by omega); omega
  · exact l
  · have := d 8 (by omega); omega
theorem q_len : ∀ i, i ≤ 32 → lenS 32 (sampX 4 sqX) (sampX 4 sqY) i = lenT i ∧ lenSO 32 (sampX 4 sqX) (sampX 4 sqY) i = false ∧ 0 ≤ lenT i ∧ lenT i ≤ (i : Int) * 68719476736
  | 0, _ => ⟨rfl, rfl, Int.le_refl _, by show (0 : Int) ≤ _; omega⟩
  | i + 1, h => by
    obtain ⟨e1, e2, e3, e4⟩ := q_len i (by omega)
    have hm : (i + 1) % 32 < 32 := Nat.mod_lt _ (by omega)
    obtain ⟨⟨x0, x1⟩, y0, y1⟩ := q_ev.2.2.1 i (by omega)
    obtain ⟨⟨x2, x3⟩, y2, y3⟩ := q_ev.2.2.1 _ hm
    obtain ⟨s0, s1⟩ := q_ev.2.2.2.1 i (by omega)
    have w1 : wayX 32 (sampX 4 sqX) i = sampX 4 sqX ((i + 1) % 32) - sampX 4 sqX i ∧ subO (sampX 4 sqX ((i + 1) % 32)) (sampX 4 sqX i) = false := clip64_of (by unfold In64; omega)
    have w2 : wayX 32 (sampX 4 sqY) i = sampX 4 sqY ((i + 1) % 32) - sampX 4 sqY i ∧ subO (sampX 4 sqY ((i + 1) % 32)) (sampX 4 sqY i) = false := clip64_of (by unfold In64; omega)
    have eS : wayX 32 (sampX 4 sqX) i * wayX 32 (sampX 4 sqX) i + wayX 32 (sampX 4 sqY) i * wayX 32 (sampX 4 sqY) i = qS i := by rw [w1.1, w2.1]; rfl
    obtain ⟨r0, r1, r2⟩ := root_isq s0 s1
    obtain ⟨-, l1, l2⟩ := len_fit (S := qS i) (by omega)
    have L : lenS 32 (sampX 4 sqX) (sampX 4 sqY) (i + 1) = addF (lenT i) (rootI (qS i)) := by
      show addF (lenS 32 (sampX 4 sqX) (sampX 4 sqY) i) (lenF _) = _
      rw [eS, e1, l1]
    have A := sadd_fit (x := lenT i) (y := rootI (qS i)) (by unfold In64; omega)
    have T : lenT (i + 1) = lenT i + rootI (qS i) := by rw [r0]; rfl
    refine ⟨by rw [L, A.1, T], ?_, by rw [T]; omega, by rw [T]; push_cast; omega⟩
    show (lenSO 32 (sampX 4 sqX) (sampX 4 sqY) i || (subO _ _ || subO _ _ || lenO _ || addO (lenS 32 (sampX 4 sqX) (sampX 4 sqY) i) (lenF _))) = false
    rw [e2, w1.2, w2.2, eS, l2, e1, l1, A.2]; rfl
end Go.Proofs.Ytbpmbdnhfkfkhaa
namespace Go.Proofs.Ytbpmbdnhfkfkhaa
open Go.RowKit
set_option linter.unusedVariables false

theorem fdiv_gen {p c : Int} (hc : 0 < c) (h0 : -c ≤ p) (h1 : p ≤ c) : divO p c = false ∧ (-4294967296 ≤ divF p c ∧ divF p c ≤ 4294967296) ∧ -c ≤ 2 * (divF p c * c - p * 4294967296) ∧ 2 * (divF p c * c - p * 4294967296) ≤ c := by
  have n := rq_near (a := p * 4294967296) (b := c) hc
  have lo : -4294967296 ≤ rq (p * 4294967296) c := by
    apply Classical.byContradiction; intro k
    have := Int.mul_le_mul_of_nonneg_right (show rq (p * 4294967296) c ≤ -4294967297 by omega) (show 0 ≤ c by omega)
    omega
  have hi : rq (p * 4294967296) c ≤ 4294967296 := by
    apply Classical.byContradiction; intro k
    have := Int.mul_le_mul_of_nonneg_right (show 4294967297 ≤ rq (p * 4294967296) c by omega) (show 0 ≤ c by omega)
    omega
  have q := clip64_of (n := rq (p * 4294967296) c) (by unfold In64; omega)
  have e1 : divF p c = rq (p * 4294967296) c := by unfold divF quoF; rw [if_neg (by omega)]; exact q.1
  have e2 : divO p c = false := by unfold divO quoO; rw [if_neg (by omega)]; exact q.2
  rw [e1]
  exact ⟨e2, ⟨lo, hi⟩, n.1, n.2⟩
theorem fmul_gen {a d : Int} (a0 : -4294967296 ≤ a) (a1 : a ≤ 4294967296) (d0 : -562949953421312 ≤ d) (d1 : d ≤ 562949953421312) :
    mulO a d = false ∧ (-562949953421312 ≤ mulF a d ∧ mulF a d ≤ 562949953421312) ∧ -4294967296 ≤ 2 * (mulF a d * 4294967296 - a * d) ∧ 2 * (mulF a d * 4294967296 - a * d) ≤ 4294967296 := by
  have n := rq_near (a := a * d) (b := 4294967296) (by omega)
  have hb : -2417851639229258349412352 ≤ a * d ∧ a * d ≤ 2417851639229258349412352 := by
    have p1 := Int.mul_nonneg (show 0 ≤ 4294967296 - a by omega) (show 0 ≤ 562949953421312 - d by omega)
    have p2 := Int.mul_nonneg (show 0 ≤ 4294967296 + a by omega) (show 0 ≤ 562949953421312 + d by omega)
    have p3 := Int.mul_nonneg (show 0 ≤ 4294967296 - a by omega) (show 0 ≤ 562949953421312 + d by omega)
    have p4 := Int.mul_nonneg (show 0 ≤ 4294967296 + a by omega) (show 0 ≤ 562949953421312 - d by omega)
    have e1 : (4294967296 - a) * (562949953421312 - d) = 2417851639229258349412352 - 4294967296 * d - 562949953421312 * a + a * d := by grind
    have e2 : (4294967296 + a) * (562949953421312 + d) = 2417851639229258349412352 + 4294967296 * d + 562949953421312 * a + a * d := by grind
    have e3 : (4294967296 - a) * (562949953421312 + d) = 2417851639229258349412352 + 4294967296 * d - 562949953421312 * a - a * d := by grind
    have e4 : (4294967296 + a) * (562949953421312 - d) = 2417851639229258349412352 - 4294967296 * d + 562949953421312 * a - a * d := by grind
    omega
  have q := clip64_of (n := rq (a * d) 4294967296) (by unfold In64; omega)
  have e1 : mulF a d = rq (a * d) 4294967296 := by unfold mulF quoF; rw [if_neg (by omega)]; exact q.1
  have e2 : mulO a d = false := by unfold mulO quoO; rw [if_neg (by omega)]; exact q.2
  rw [e1]
  exact ⟨e2, by omega, n.1, n.2⟩
/-- slopes of a triangle: h00 h10 h01 h11 the cell's heights -/
def slA (cell h00 h10 h01 h11 : Int) (up : Bool) : Int := if up then divF (h11 - h01) cell else divF (h10 - h00) cell
def slB (cell h00 h10 h01 h11 : Int) (up : Bool) : Int := if up then divF (h01 - h00) cell else divF (h11 - h10) cell
def slO (cell h00 h10 h01 h11 : Int) (up : Bool) : Bool := if up then divO (h11 - h01) cell || divO (h01 - h00) cell else divO (h10 - h00) cell || divO (h11 - h10) cell
/-- the height at an offset -/
def hgF (cell h00 h10 h01 h11 dx dy : Int) : Int := addF (addF h00 (mulF (slA cell h00 h10 h01 h11 (decide (dx < dy))) dx)) (mulF (slB cell h00 h10 h01 h11 (decide (dx < dy))) dy)
def hgO (cell h00 h10 h01 h11 dx dy : Int) : Bool :=
  slO cell h00 h10 h01 h11 (decide (dx < dy)) || mulO (slA cell h00 h10 h01 h11 (decide (dx < dy))) dx || addO h00 (mulF (slA cell h00 h10 h01 h11 (decide (dx < dy))) dx) ||
  mulO (slB cell h00 h10 h01 h11 (decide (dx < dy))) dy || addO (addF h00 (mulF (slA cell h00 h10 h01 h11 (decide (dx < dy))) dx)) (mulF (slB cell h00 h10 h01 h11 (decide (dx < dy))) dy)
/-- a cell of right ground -/
structure CellR (cell h00 h10 h01 h11 : Int) : Prop where
  c0 : 17179869184 ≤ cell
  c1 : cell ≤ 274877906944
  h : (-2199023255552 ≤ h00 ∧ h00 ≤ 2199023255552) ∧ (-2199023255552 ≤ h10 ∧ h10 ≤ 2199023255552) ∧ (-2199023255552 ≤ h01 ∧ h01 ≤ 2199023255552) ∧ (-2199023255552 ≤ h11 ∧ h11 ≤ 2199023255552)
  x0 : -cell ≤ h10 - h00 ∧ h10 - h00 ≤ cell
  x1 : -cell ≤ h11 - h01 ∧ h11 - h01 ≤ cell
  y0 : -cell ≤ h01 - h00 ∧ h01 - h00 ≤ cell
  y1 : -cell ≤ h11 - h10 ∧ h11 - h10 ≤ cell
def Off (d : Int) : Prop := -422212465065984 ≤ d ∧ d ≤ 422212465065984
/-- the height is as the exact one over the rounded slopes, but for a part -/
theorem hg_near {cell h00 h10 h01 h11 dx dy : Int} (R : CellR cell h00 h10 h01 h11) (hx : Off dx) (hy : Off dy) :
    ∃ a b : Int, a = slA cell h00 h10 h01 h11 (decide (dx < dy)) ∧ b = slB cell h00 h10 h01 h11 (decide (dx < dy)) ∧ (-4294967296 ≤ a ∧ a ≤ 4294967296) ∧ (-4294967296 ≤ b ∧ b ≤ 4294967296) ∧
      hgO cell h00 h10 h01 h11 dx dy = false ∧ -4294967296 ≤ hgF cell h00 h10 h01 h11 dx dy * 4294967296 - (h00 * 4294967296 + a * dx + b * dy) ∧ hgF cell h00 h10 h01 h11 dx dy * 4294967296 - (h00 * 4294967296 + a * dx + b * dy) ≤ 4294967296 ∧
      (-2251799813685248 ≤ hgF cell h00 h10 h01 h11 dx dy ∧ hgF cell h00 h10 h01 h11 dx dy ≤ 2251799813685248) := by
  obtain ⟨c0, c1, ⟨r0, r1, r2, r3⟩, x0, x1, y0, y1⟩ := R
  unfold Off at hx hy
  have k1 := fdiv_gen (p := h11 - h01) (c := cell) (by omega) x1.1 x1.2
  have k2 := fdiv_gen (p := h01 - h00) (c := cell) (by omega) y0.1 y0.2
  have k3 := fdiv_gen (p := h10 - h00) (c := cell) (by omega) x0.1 x0.2
  have k4 := fdiv_gen (p := h11 - h10) (c := cell) (by omega) y1.1 y1.2
  have key : ∀ up : Bool, (-4294967296 ≤ slA cell h00 h10 h01 h11 up ∧ slA cell h00 h10 h01 h11 up ≤ 4294967296) ∧ (-4294967296 ≤ slB cell h00 h10 h01 h11 up ∧ slB cell h00 h10 h01 h11 up ≤ 4294967296) ∧ slO cell h00 h10 h01 h11 up = false := fun up => by
    unfold slA slB slO
    cases up
    · simp only [Bool.false_eq_true, if_false]; rw [k3.1, k4.1]; exact ⟨k3.2.1, k4.2.1, rfl⟩
    · simp only [if_true]; rw [k1.1, k2.1]; exact ⟨k1.2.1, k2.2.1, rfl⟩
  obtain ⟨ha, hb, ho⟩ := key (decide (dx < dy))
  unfold hgF hgO
  rw [ho]
  generalize slA cell h00 h10 h01 h11 (decide (dx < dy)) = a at *
  generalize slB cell h00 h10 h01 h11 (decide (dx < dy)) = b at *
  obtain ⟨m1, m2, m3, m4⟩ := fmul_gen ha.1 ha.2 (d := dx) (by omega) (by omega)
  obtain ⟨q1, q2, q3, q4⟩ := fmul_gen hb.1 hb.2 (d := dy) (by omega) (by omega)
  have s1 := clip64_of (n := h00 + mulF a dx) (by unfold In64; omega)
  have e1 : addF h00 (mulF a dx) = h00 + mulF a dx := s1.1
  have o1 : addO h00 (mulF a dx) = false := s1.2
  have s2 := clip64_of (n := h00 + mulF a dx + mulF b dy) (by unfold In64; omega)
  have e2 : addF (h00 + mulF a dx) (mulF b dy) = h00 + mulF a dx + mulF b dy := s2.1
  have o2 : addO (h00 + mulF a dx) (mulF b dy) = false := s2.2
  rw [e1, e2, o1, o2, m1, q1]
  refine ⟨a, b, rfl, rfl, ha, hb, rfl, ?_, ?_, ?_⟩ <;> (generalize a * dx = A at *; generalize b * dy = B at *; omega)
theorem eabs_le {a d u : Int} (a0 : -4294967296 ≤ a) (a1 : a ≤ 4294967296) (h0 : -u ≤ d) (h1 : d ≤ u) : a * d ≤ u * 4294967296 ∧ -(u * 4294967296) ≤ a * d := by
  have p1 := Int.mul_nonneg (show 0 ≤ 4294967296 - a by omega) (show 0 ≤ u - d by omega)
  have p2 := Int.mul_nonneg (show 0 ≤ 4294967296 + a by omega) (show 0 ≤ u + d by omega)
  have p3 := Int.mul_nonneg (show 0 ≤ 4294967296 - a by omega) (show 0 ≤ u + d by omega)
  have p4 := Int.mul_nonneg (show 0 ≤ 4294967296 + a by omega) (show 0 ≤ u - d by omega)
  have e1 : (4294967296 - a) * (u - d) = u * 4294967296 - 4294967296 * d - u * a + a * d := by grind
  have e2 : (4294967296 + a) * (u + d) = u * 4294967296 + 4294967296 * d + u * a + a * d := by grind
  have e3 : (4294967296 - a) * (u + d) = u * 4294967296 + 4294967296 * d - u * a - a * d := by grind
  have e4 : (4294967296 + a) * (u - d) = u * 4294967296 - 4294967296 * d + u * a - a * d := by grind
  omega
/-- both triangles meet at the diagonal, but for two parts of a slope -/
theorem diag_near {cell h00 h10 h01 h11 : Int} (R : CellR cell h00 h10 h01 h11) :
    -2 ≤ (slA cell h00 h10 h01 h11 false + slB cell h00 h10 h01 h11 false) - (slA cell h00 h10 h01 h11 true + slB cell h00 h10 h01 h11 true) ∧
    (slA cell h00 h10 h01 h11 false + slB cell h00 h10 h01 h11 false) - (slA cell h00 h10 h01 h11 true + slB cell h00 h10 h01 h11 true) ≤ 2 := by
  obtain ⟨c0, c1, -, x0, x1, y0, y1⟩ := R
  have k1 := (fdiv_gen (p := h11 - h01) (c := cell) (by omega) x1.1 x1.2).2.2
  have k2 := (fdiv_gen (p := h01 - h00) (c := cell) (by omega) y0.1 y0.2).2.2
  have k3 := (fdiv_gen (p := h10 - h00) (c := cell) (by omega) x0.1 x0.2).2.2
  have k4 := (fdiv_gen (p := h11 - h10) (c := cell) (by omega) y1.1 y1.2).2.2
  unfold slA slB
  simp only [Bool.false_eq_true, if_false, if_true]
  generalize divF (h11 - h01) cell = a1 at *
  generalize divF (h01 - h00) cell = b1 at *
  generalize divF (h10 - h00) cell = a0 at *
  generalize divF (h11 - h10) cell = b0 at *
  have e : (a0 + b0 - (a1 + b1)) * cell = a0 * cell + b0 * cell - a1 * cell - b1 * cell := by grind
  constructor
  · apply Classical.byContradiction; intro k
    have := Int.mul_le_mul_of_nonneg_right (show a0 + b0 - (a1 + b1) ≤ -3 by omega) (show 0 ≤ cell by omega)
    omega
  · apply Classical.byContradiction; intro k
    have := Int.mul_le_mul_of_nonneg_right (show 3 ≤ a0 + b0 - (a1 + b1) by omega) (show 0 ≤ cell by omega)
    omega
/-- HOW STEEP: between two places of one cell -/
theorem hg_steps {cell h00 h10 h01 h11 px py qx qy u v : Int} (R : CellR cell h00 h10 h01 h11) (p0 : Off px) (p1 : Off py) (q0 : Off qx) (q1 : Off qy)
    (ux : -u ≤ px - qx ∧ px - qx ≤ u) (u1 : u = px - qx ∨ u = qx - px) (vy : -v ≤ py - qy ∧ py - qy ≤ v) (v1 : v = py - qy ∨ v = qy - py) :
    hgF cell h00 h10 h01 h11 px py - hgF cell h00 h10 h01 h11 qx qy ≤ u + v + 262144 ∧ -(u + v + 262144) ≤ hgF cell h00 h10 h01 h11 px py - hgF cell h00 h10 h01 h11 qx qy := by
  obtain ⟨a, b, ea, eb, ha, hb, -, n1, n2, -⟩ := hg_near R p0 p1
  obtain ⟨c, d, ec, ed, hc, hd, -, n3, n4, -⟩ := hg_near R q0 q1
  have DG := diag_near R
  have key : (a = c ∧ b = d) ∨ (¬ px < py ∧ qx < qy ∧ (-2 ≤ a + b - (c + d) ∧ a + b - (c + d) ≤ 2)) ∨ (px < py ∧ ¬ qx < qy ∧ (-2 ≤ a + b - (c + d) ∧ a + b - (c + d) ≤ 2)) := by
    by_cases k : px < py <;> by_cases l : qx < qy
    · rw [decide_eq_true k] at ea eb; rw [decide_eq_true l] at ec ed; exact Or.inl ⟨by rw [ea, ec], by rw [eb, ed]⟩
    · rw [decide_eq_true k] at ea eb; rw [decide_eq_false l] at ec ed; exact Or.inr (Or.inr ⟨k, l, by omega⟩)
    · rw [decide_eq_false k] at ea eb; rw [decide_eq_true l] at ec ed; exact Or.inr (Or.inl ⟨k, l, by omega⟩)
    · rw [decide_eq_false k] at ea eb; rw [decide_eq_false l] at ec ed; exact Or.inl ⟨by rw [ea, ec], by rw [eb, ed]⟩
  clear ea eb ec ed DG
  generalize hgF cell h00 h10 h01 h11 px py = P at *
  generalize hgF cell h00 h10 h01 h11 qx qy = Q at *
  unfold Off at *
  rcases key with ⟨rfl, rfl⟩ | h | h
  · have m1 := eabs_le ha.1 ha.2 ux.1 ux.2
    have m2 := eabs_le hb.1 hb.2 vy.1 vy.2
    have e1 : a * (px - qx) = a * px - a * qx := by grind
    have e2 : b * (py - qy) = b * py - b * qy := by grind
    generalize a * px = w1 at *
    generalize a * qx = w2 at *
    generalize b * py = w3 at *
    generalize b * qy = w4 at *
    omega
  all_goals
    obtain ⟨t, ht⟩ : ∃ t, t = max (min px qx) (min py qy) := ⟨_, rfl⟩
    have t1 : (min px qx ≤ t ∧ t ≤ max px qx) ∧ (min py qy ≤ t ∧ t ≤ max py qy) := by omega
    clear ht
    obtain ⟨ux', hu⟩ : ∃ z, z = (if t ≤ px then px - t else t - px) := ⟨_, rfl⟩
    obtain ⟨vx', hv⟩ : ∃ z, z = (if t ≤ qx then qx - t else t - qx) := ⟨_, rfl⟩
    obtain ⟨uy', hu'⟩ : ∃ z, z = (if t ≤ py then py - t else t - py) := ⟨_, rfl⟩
    obtain ⟨vy', hv'⟩ : ∃ z, z = (if t ≤ qy then qy - t else t - qy) := ⟨_, rfl⟩
    have b1 : -ux' ≤ px - t ∧ px - t ≤ ux' := by rw [hu]; split <;> omega
    have b2 : -vx' ≤ t - qx ∧ t - qx ≤ vx' := by rw [hv]; split <;> omega
    have b3 : -uy' ≤ py - t ∧ py - t ≤ uy' := by rw [hu']; split <;> omega
    have b4 : -vy' ≤ t - qy ∧ t - qy ≤ vy' := by rw [hv']; split <;> omega
    have s1 : ux' + vx' = u := by rw [hu, hv]; split <;> split <;> omega
    have s2 : uy' + vy' = v := by rw [hu', hv']; split <;> split <;> omega
    have m1 := eabs_le ha.1 ha.2 b1.1 b1.2
    have m2 := eabs_le hb.1 hb.2 b3.1 b3.2
    have m3 := eabs_le hc.1 hc.2 b2.1 b2.2
    have m4 := eabs_le hd.1 hd.2 b4.1 b4.2
    have m5 : (a + b - (c + d)) * t ≤ 844424930131968 ∧ -844424930131968 ≤ (a + b - (c + d)) * t := by
      have d2 := h.2.2
      generalize a + b - (c + d) = z at *
      have p1 := Int.mul_nonneg (show 0 ≤ 2 - z by omega) (show 0 ≤ 422212465065984 - t by omega)
      have p2 := Int.mul_nonneg (show 0 ≤ 2 + z by omega) (show 0 ≤ 422212465065984 + t by omega)
      have p3 := Int.mul_nonneg (show 0 ≤ 2 - z by omega) (show 0 ≤ 422212465065984 + t by omega)
      have p4 := Int.mul_nonneg (show 0 ≤ 2 + z by omega) (show 0 ≤ 422212465065984 - t by omega)
      have e1 : (2 - z) * (422212465065984 - t) = 844424930131968 - 2 * t - 422212465065984 * z + z * t := by grind
      have e2 : (2 + z) * (422212465065984 + t) = 844424930131968 + 2 * t + 422212465065984 * z + z * t := by grind
      have e3 : (2 - z) * (422212465065984 + t) = 844424930131968 + 2 * t - 422212465065984 * z - z * t := by grind
      have e4 : (2 + z) * (422212465065984 - t) = 844424930131968 - 2 * t + 422212465065984 * z - z * t := by grind
      omega
    have f1 : a * (px - t) = a * px - a * t := by grind
    have f2 : b * (py - t) = b * py - b * t := by grind
    have f3 : c * (t - qx) = c * t - c * qx := by grind
    have f4 : d * (t - qy) = d * t - d * qy := by grind
    have f5 : (a + b - (c + d)) * t = a * t + b * t - c * t - d * t := by grind
    rw [f1] at m1
    rw [f2] at m2
    rw [f3] at m3
    rw [f4] at m4
    rw [f5] at m5
    clear f1 f2 f3 f4 f5 b1 b2 b3 b4 hu hv hu' hv' ux vy u1 v1 t1 ha hb hc hd p0 p1 q0 q1 R h
    generalize a * px = w1 at *
    generalize a * t = w2 at *
    generalize b * py = w3 at *
    generalize b * t = w4 at *
    generalize c * qx = w5 at *
    generalize c * t = w6 at *
    generalize d * qy = w7 at *
    generalize d * t = w8 at *
    omega
end Go.Proofs.Ytbpmbdnhfkfkhaa
namespace Go.Proofs.Ytbpmbdnhfkfkhaa
open Go.RowKit
set_option linter.unusedVariables false

/-- each corner is as high as it is told, but for some parts -/
theorem hg_corner {cell h00 h10 h01 h11 : Int} (R : CellR cell h00 h10 h01 h11) :
    (-66 ≤ hgF cell h00 h10 h01 h11 0 0 - h00 ∧ hgF cell h00 h10 h01 h11 0 0 - h00 ≤ 66) ∧ (-66 ≤ hgF cell h00 h10 h01 h11 cell 0 - h10 ∧ hgF cell h00 h10 h01 h11 cell 0 - h10 ≤ 66) ∧
    (-66 ≤ hgF cell h00 h10 h01 h11 0 cell - h01 ∧ hgF cell h00 h10 h01 h11 0 cell - h01 ≤ 66) ∧ (-66 ≤ hgF cell h00 h10 h01 h11 cell cell - h11 ∧ hgF cell h00 h10 h01 h11 cell cell - h11 ≤ 66) := by
  have Z : Off 0 := by unfold Off; omega
  have C : Off cell := by have := R.c0; have := R.c1; unfold Off; omega
  have k2 := (fdiv_gen (p := h01 - h00) (c := cell) (by have := R.c0; omega) R.y0.1 R.y0.2).2.2
  have k3 := (fdiv_gen (p := h10 - h00) (c := cell) (by have := R.c0; omega) R.x0.1 R.x0.2).2.2
  have k4 := (fdiv_gen (p := h11 - h10) (c := cell) (by have := R.c0; omega) R.y1.1 R.y1.2).2.2
  have c0 := R.c0
  have c1 := R.c1
  refine ⟨?_, ?_, ?_, ?_⟩
  · obtain ⟨a, b, -, -, -, -, -, n1, n2, -⟩ := hg_near R Z Z
    rw [Int.mul_zero, Int.mul_zero] at n1 n2
    omega
  · obtain ⟨a, b, ea, -, -, -, -, n1, n2, -⟩ := hg_near R C Z
    rw [decide_eq_false (by omega)] at ea
    unfold slA at ea
    simp only [Bool.false_eq_true, if_false] at ea
    rw [← ea] at k3
    rw [Int.mul_zero] at n1 n2
    generalize a * cell = A at *
    omega
  · obtain ⟨a, b, -, eb, -, -, -, n1, n2, -⟩ := hg_near R Z C
    rw [decide_eq_true (by omega)] at eb
    unfold slB at eb
    simp only [if_true] at eb
    rw [← eb] at k2
    rw [Int.mul_zero] at n1 n2
    generalize b * cell = B at *
    omega
  · obtain ⟨a, b, ea, eb, -, -, -, n1, n2, -⟩ := hg_near R C C
    rw [decide_eq_false (by omega)] at ea eb
    unfold slA at ea
    unfold slB at eb
    simp only [Bool.false_eq_true, if_false] at ea eb
    rw [← ea] at k3
    rw [← eb] at k4
    generalize a * cell = A at *
    generalize b * cell = B at *
    omega
/-- the way up from slopes a and b: its length, and its parts -/
noncomputable def upN (a b : Int) : Int := lenF (subF 0 a * subF 0 a + subF 0 b * subF 0 b + 4294967296 * 4294967296)
theorem up_is {a b : Int} (a0 : -4294967296 ≤ a) (a1 : a ≤ 4294967296) (b0 : -4294967296 ≤ b) (b1 : b ≤ 4294967296) :
    upN a b ≠ 0 ∧ lenO (subF 0 a * subF 0 a + subF 0 b * subF 0 b + 4294967296 * 4294967296) = false ∧ subO 0 a = false ∧ subO 0 b = false ∧ divO (subF 0 a) (upN a b) = false ∧ divO (subF 0 b) (upN a b) = false ∧ divO 4294967296 (upN a b) = false ∧ 2147483648 ≤ divF 4294967296 (upN a b) := by
  have s1 := clip64_of (n := 0 - a) (by unfold In64; omega)
  have s2 := clip64_of (n := 0 - b) (by unfold In64; omega)
  have e1 : subF 0 a = -a := by have := s1.1; unfold subF; omega
  have e2 : subF 0 b = -b := by have := s2.1; unfold subF; omega
  have p1 := eabs_le (a := -a) (d := -a) (u := 4294967296) (by omega) (by omega) (by omega) (by omega)
  have p2 := eabs_le (a := -b) (d := -b) (u := 4294967296) (by omega) (by omega) (by omega) (by omega)
  have q1 : 0 ≤ -a * -a := by rcases Int.le_total 0 a with h | h; have := Int.mul_nonneg h h; have e : -a * -a = a * a := by grind
                              omega
                              exact Int.mul_nonneg (by omega) (by omega)
  have q2 : 0 ≤ -b * -b := by rcases Int.le_total 0 b with h | h; have := Int.mul_nonneg h h; have e : -b * -b = b * b := by grind
                              omega
                              exact Int.mul_nonneg (by omega) (by omega)
  unfold upN
  rw [e1, e2]
  obtain ⟨S, hS⟩ : ∃ S, -a * -a + -b * -b + 4294967296 * 4294967296 = S := ⟨_, rfl⟩
  rw [hS]
  have hs : 18446744073709551616 ≤ S ∧ S ≤ 55340232221128654848 := by omega
  obtain ⟨-, l1, l2⟩ := len_fit (S := S) (by omega)
  obtain ⟨r, hr⟩ := isRoot_ex (n := S) (by omega)
  have er := rootI_eq hr
  rw [l1, l2, er]
  have lo := hr.le_of (r := 4294967296) (by omega)
  have hi := hr.lt_of (r := 7439101574) (by omega) (by omega)
  clear hr er l1 l2 hS hs p1 p2 q1 q2
  have d1 := fdiv_gen (p := -a) (c := r) (by omega) (by omega) (by omega)
  have d2 := fdiv_gen (p := -b) (c := r) (by omega) (by omega) (by omega)
  have d3 := fdiv_gen (p := 4294967296) (c := r) (by omega) (by omega) (by omega)
  refine ⟨by omega, rfl, s1.2, s2.2, d1.1, d2.1, d3.1, ?_⟩
  have n1 := d3.2.2.1
  generalize divF 4294967296 r = z at *
  apply Classical.byContradiction; intro k
  rcases Int.le_total 0 z with h | h
  · have := Int.mul_le_mul (show z ≤ 2147483647 by omega) (show r ≤ 7439101573 by omega) (by omega) (by omega)
    omega
  · have := Int.mul_le_mul_of_nonneg_right h (show 0 ≤ r by omega)
    omega
/-- the cell of a distance, and how far it is in -/
def axK (d cell : Int) (many : Nat) : Nat := if d < 0 then 0 else min (d / cell).toNat (many - 1)
def axD (d cell : Int) (many : Nat) : Int := d - (axK d cell many : Int) * cell
theorem axK_lt {d cell : Int} {many : Nat} (h : 0 < many) : axK d cell many < many := by
  unfold axK; split <;> omega
/-- the loop's step: from cell k on -/
theorem ax_step {d cell : Int} {many k : Nat} (hc : 0 < cell) (hk : k ≤ axK d cell many) (hm : 0 < many) :
    (k + 1 < many ∧ cell ≤ d - (k : Int) * cell → k + 1 ≤ axK d cell many) ∧ (¬ (k + 1 < many ∧ cell ≤ d - (k : Int) * cell) → k = axK d cell many) := by
  have e : ((k : Int) + 1) * cell = (k : Int) * cell + cell := by grind
  unfold axK at *
  by_cases hd : d < 0
  · rw [if_pos hd] at hk ⊢
    have k0 : k = 0 := by omega
    subst k0
    refine ⟨fun h => ?_, fun _ => rfl⟩
    have := h.2
    simp only [Int.natCast_zero, Int.zero_mul] at this
    omega
  · rw [if_neg hd] at hk ⊢
    have q0 : 0 ≤ d / cell := Int.ediv_nonneg (by omega) (by omega)
    refine ⟨fun h => ?_, fun h => ?_⟩
    · have := Int.le_ediv_of_mul_le hc (show ((k : Int) + 1) * cell ≤ d by omega)
      omega
    · by_cases h1 : k + 1 < many
      · have h2 : d - (k : Int) * cell < cell := by
          apply Classical.byContradiction; intro c; exact h ⟨h1, by omega⟩
        have := Int.ediv_lt_of_lt_mul hc (show d < ((k : Int) + 1) * cell by omega)
        omega
      · omega
end Go.Proofs.Ytbpmbdnhfkfkhaa
