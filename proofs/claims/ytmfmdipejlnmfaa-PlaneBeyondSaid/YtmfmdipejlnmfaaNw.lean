/- Stretches that meet, told by their bounds and by sides; and a quotient rounded up from the nearest one. No program in sight. -/
import Derived.Test.YtmfmdipejlnmfaaNa
import Derived.Test.YtmfmdipejlnmfaaBn
namespace Go.Proofs.Ytmfmdipejlnmfaa
open Go.RowKit
set_option linter.unusedVariables false

/-- two ranges of numbers, in either order, have one in common -/
def ovl (a b p q : Int) : Bool := decide (min a b ≤ max p q ∧ min p q ≤ max a b)
theorem ov_cross' {C D E F a b p q : Int} (hC : C < 0) (hD : 0 < D) (hE : 0 < E) (hF : F < 0) (M : E - F = D - C) (X : (D - C) * (p - a) = E * (b - a) + C * (q - p)) :
    min a b ≤ max p q ∧ min p q ≤ max a b := by
  refine ⟨?_, ?_⟩
  · apply Classical.byContradiction; intro c
    obtain ⟨m, hm⟩ : ∃ m, m = min a b := ⟨_, rfl⟩
    have e : D * (p - m) + (-C) * (q - m) = (-F) * (a - m) + E * (b - m) := by grind
    have l1 := Int.mul_neg_of_pos_of_neg hD (show p - m < 0 by omega)
    have l2 := Int.mul_neg_of_pos_of_neg (show 0 < -C by omega) (show q - m < 0 by omega)
    have l3 := Int.mul_nonneg (show 0 ≤ -F by omega) (show 0 ≤ a - m by omega)
    have l4 := Int.mul_nonneg (show 0 ≤ E by omega) (show 0 ≤ b - m by omega)
    omega
  · apply Classical.byContradiction; intro c
    obtain ⟨m, hm⟩ : ∃ m, m = max a b := ⟨_, rfl⟩
    have e : D * (p - m) + (-C) * (q - m) = -((-F) * (m - a) + E * (m - b)) := by grind
    have l1 := Int.mul_pos hD (show 0 < p - m by omega)
    have l2 := Int.mul_pos (show 0 < -C by omega) (show 0 < q - m by omega)
    have l3 := Int.mul_nonneg (show 0 ≤ -F by omega) (show 0 ≤ m - a by omega)
    have l4 := Int.mul_nonneg (show 0 ≤ E by omega) (show 0 ≤ m - b by omega)
    omega
theorem mul_neg_iff' {x y : Int} (h : x * y < 0) : (x < 0 ∧ 0 < y) ∨ (0 < x ∧ y < 0) := by
  rcases Int.lt_trichotomy x 0 with a | a | a
  · refine Or.inl ⟨a, ?_⟩
    apply Classical.byContradiction; intro c
    have := Int.mul_nonneg_of_nonpos_of_nonpos (show x ≤ 0 by omega) (show y ≤ 0 by omega)
    omega
  · subst a; omega
  · refine Or.inr ⟨a, ?_⟩
    apply Classical.byContradiction; intro c
    have := Int.mul_nonneg (show 0 ≤ x by omega) (show 0 ≤ y by omega)
    omega
theorem ov_cross {C D E F a b p q : Int} (h1 : C * D < 0) (h2 : E * F < 0) (M : E - F = D - C) (X : (D - C) * (p - a) = E * (b - a) + C * (q - p)) : ovl a b p q = true := by
  unfold ovl
  rw [decide_eq_true_iff]
  rcases mul_neg_iff' h1 with ⟨c, d⟩ | ⟨c, d⟩
  · rcases mul_neg_iff' h2 with ⟨e, f⟩ | ⟨e, f⟩
    · omega
    · exact ov_cross' c d e f M X
  · rcases mul_neg_iff' h2 with ⟨e, f⟩ | ⟨e, f⟩
    · exact ov_cross' (C := -C) (D := -D) (E := -E) (F := -F) (by omega) (by omega) (by omega) (by omega) (by omega) (by grind)
    · omega
theorem btw_iff {n a b : Int} : btw n a b = true ↔ min a b ≤ n ∧ n ≤ max a b := by unfold btw; rw [decide_eq_true_iff]
theorem onB_iff {a b p : Pt} : onB a b p = true ↔ btw p.x a.x b.x = true ∧ btw p.y a.y b.y = true := by unfold onB; rw [Bool.and_eq_true]
theorem on_ov {a b p q : Pt} (h : onB a b p = true) : ovl a.x b.x p.x q.x = true ∧ ovl a.y b.y p.y q.y = true ∧ ovl a.x b.x q.x p.x = true ∧ ovl a.y b.y q.y p.y = true ∧ ovl p.x q.x a.x b.x = true ∧ ovl p.y q.y a.y b.y = true ∧ ovl q.x p.x a.x b.x = true ∧ ovl q.y p.y a.y b.y = true := by
  obtain ⟨h1, h2⟩ := onB_iff.mp h
  rw [btw_iff] at h1 h2
  unfold ovl
  simp only [decide_eq_true_iff]
  omega
/-- what is on a line between two places, and a third place: told along one axis -/
theorem on1 {D E u v : Int} (h : D * u = E * v) (p : 0 < E * (E - D)) (k : 0 ≤ u ∧ u ≤ v ∨ v ≤ u ∧ u ≤ 0) : v = 0 := by
  apply Classical.byContradiction; intro c
  have key : ∀ D E u v : Int, D * u = E * v → 0 < E → 0 < E - D → 0 ≤ u → u ≤ v → 0 < v → False := fun D E u v h e d a b c => by
    have l1 := Int.mul_pos e c
    rcases Int.le_total 0 D with d0 | d0
    · have l2 := Int.mul_le_mul_of_nonneg_left b d0
      have l3 := Int.mul_lt_mul_of_pos_right (show D < E by omega) c
      omega
    · have l2 := Int.mul_nonneg_of_nonpos_of_nonpos (show D ≤ 0 from d0) (show -u ≤ 0 by omega)
      have e2 : D * -u = -(D * u) := by grind
      omega
  have sg : (0 < E ∧ 0 < E - D) ∨ (E < 0 ∧ E - D < 0) := by
    rcases Int.lt_trichotomy E 0 with a | a | a
    · refine Or.inr ⟨a, ?_⟩
      apply Classical.byContradiction; intro c
      have := Int.mul_nonneg (show 0 ≤ -E by omega) (show 0 ≤ E - D by omega)
      have e2 : -E * (E - D) = -(E * (E - D)) := by grind
      omega
    · subst a; omega
    · refine Or.inl ⟨a, ?_⟩
      apply Classical.byContradiction; intro c
      have := Int.mul_nonneg (show 0 ≤ E by omega) (show 0 ≤ -(E - D) by omega)
      have e2 : E * -(E - D) = -(E * (E - D)) := by grind
      omega
  rcases sg with ⟨e, d⟩ | ⟨e, d⟩ <;> rcases k with ⟨k, l⟩ | ⟨k, l⟩
  · exact key D E u v h e d k l (by omega)
  · exact key D E (-u) (-v) (by grind) e d (by omega) (by omega) (by omega)
  · exact key (-D) (-E) u v (by grind) (by omega) (by omega) k l (by omega)
  · exact key (-D) (-E) (-u) (-v) (by grind) (by omega) (by omega) (by omega) (by omega) (by omega)
/-- the ends of a stretch that one of another's ends is on are not on one side of that -/
theorem on_mul {a b p q : Pt} (h : area a b p = 0) (o : onB a b p = true) : area p q a * area p q b ≤ 0 := by
  apply Classical.byContradiction; intro c
  obtain ⟨M, X, Y⟩ := area_meet a b p q
  obtain ⟨h1, h2⟩ := onB_iff.mp o
  rw [btw_iff] at h1 h2
  rw [h] at X Y M
  have e : area p q b = area p q a - (area a b q) := by omega
  rw [e] at c
  have vx := on1 (D := area a b q) (E := area p q a) (u := p.x - a.x) (v := b.x - a.x) (by grind) (by omega) (by omega)
  have vy := on1 (D := area a b q) (E := area p q a) (u := p.y - a.y) (v := b.y - a.y) (by grind) (by omega) (by omega)
  have px : p.x = a.x := by omega
  have py : p.y = a.y := by omega
  have z : area p q a = 0 := by unfold area; rw [px, py]; grind
  rw [z] at c; omega
/-- an end on the other stretch's line is on that stretch, if that stretch's ends are not on one side -/
theorem on_of {a b p q : Pt} (h : area a b p = 0) (t : area a b q ≠ 0) (k : area p q a * area p q b ≤ 0) : onB a b p = true := by
  obtain ⟨M, X, Y⟩ := area_meet a b p q
  rw [h] at X Y M
  generalize area a b q = D at *
  generalize area p q a = E at *
  generalize area p q b = F at *
  have eF : F = E - D := by omega
  subst eF
  have sg : (0 < D ∧ 0 ≤ E ∧ E ≤ D) ∨ (D < 0 ∧ E ≤ 0 ∧ D ≤ E) := by
    rcases Int.lt_trichotomy E 0 with a | a | a
    · refine Or.inr ?_
      have : D ≤ E := by
        apply Classical.byContradiction; intro c
        have := Int.mul_pos_of_neg_of_neg a (show E - D < 0 by omega)
        omega
      omega
    · omega
    · refine Or.inl ?_
      have : E ≤ D := by
        apply Classical.byContradiction; intro c
        have := Int.mul_pos a (show 0 < E - D by omega)
        omega
      omega
  rw [onB_iff]
  rcases sg with ⟨d, e0, e1⟩ | ⟨d, e0, e1⟩
  · exact ⟨btw_part (t := D) (e := E) d (by grind) e0 e1, btw_part (t := D) (e := E) d (by grind) e0 e1⟩
  · exact ⟨btw_part (t := -D) (e := -E) (by omega) (by grind) (by omega) (by omega), btw_part (t := -D) (e := -E) (by omega) (by grind) (by omega) (by omega)⟩
theorem line_x {a b p : Pt} (h : area a b p = 0) (n : a.x ≠ b.x) (k : btw p.x a.x b.x = true) : onB a b p = true := by
  rw [onB_iff]
  refine ⟨k, ?_⟩
  rw [btw_iff] at k
  unfold area at h
  rcases Int.lt_or_gt_of_ne n with l | l
  · exact btw_part (t := b.x - a.x) (e := p.x - a.x) (by omega) (by grind) (by omega) (by omega)
  · exact btw_part (t := a.x - b.x) (e := a.x - p.x) (by omega) (by grind) (by omega) (by omega)
theorem one_end {a b p q : Int} (h : ovl a b p q = true) : btw p a b = true ∨ btw q a b = true ∨ btw a p q = true ∨ btw b p q = true := by
  unfold ovl at h
  rw [decide_eq_true_iff] at h
  simp only [btw_iff]
  omega
theorem flat_on {a b p q : Pt} (h1 : area a b p = 0) (h2 : area a b q = 0) (h3 : area p q a = 0) (h4 : area p q b = 0) (x : ovl a.x b.x p.x q.x = true) (y : ovl a.y b.y p.y q.y = true) :
    onB a b p = true ∨ onB a b q = true ∨ onB p q a = true ∨ onB p q b = true := by
  by_cases n : a.x = b.x
  · by_cases m : p.x = q.x
    · have e : a.x = p.x := by unfold ovl at x; rw [decide_eq_true_iff] at x; omega
      have b1 : ∀ u v w : Int, u = v → w = v → btw v u w = true := fun u v w a b => by rw [btw_iff]; omega
      rcases one_end y with k | k | k | k
      · exact Or.inl (onB_iff.mpr ⟨b1 _ _ _ e (by omega), k⟩)
      · exact Or.inr (Or.inl (onB_iff.mpr ⟨b1 _ _ _ (by omega) (by omega), k⟩))
      · exact Or.inr (Or.inr (Or.inl (onB_iff.mpr ⟨b1 _ _ _ (by omega) (by omega), k⟩)))
      · exact Or.inr (Or.inr (Or.inr (onB_iff.mpr ⟨b1 _ _ _ (by omega) (by omega), k⟩)))
    · refine Or.inr (Or.inr (Or.inl (line_x h3 m ?_)))
      unfold ovl at x
      rw [decide_eq_true_iff] at x
      rw [btw_iff]; omega
  · rcases one_end x with k | k | k | k
    · exact Or.inl (line_x h1 n k)
    · exact Or.inr (Or.inl (line_x h2 n k))
    · by_cases m : p.x = q.x
      · refine Or.inl (line_x h1 n ?_)
        rw [btw_iff] at k ⊢; omega
      · exact Or.inr (Or.inr (Or.inl (line_x h3 m k)))
    · by_cases m : p.x = q.x
      · refine Or.inl (line_x h1 n ?_)
        rw [btw_iff] at k ⊢; omega
      · exact Or.inr (Or.inr (Or.inr (line_x h4 m k)))
theorem neg_mul' (x y : Int) : -x * -y = x * y := by grind
/-- MEETING, BY BOUNDS AND SIDES -/
theorem meets_ovl {a b p q : Pt} (hn : a.near ∧ b.near ∧ p.near ∧ q.near) :
    meetsP a b p q = decide ((ovl a.x b.x p.x q.x = true ∧ ovl a.y b.y p.y q.y = true) ∧ area a b p * area a b q ≤ 0 ∧ area p q a * area p q b ≤ 0) := by
  rw [Bool.eq_iff_iff, decide_eq_true_iff]
  unfold meetsP
  simp only [Bool.and_eq_true, Bool.or_eq_true, decide_eq_true_iff]
  obtain ⟨M, X, Y⟩ := area_meet a b p q
  have z : ∀ x y : Int, x = 0 → x * y ≤ 0 := fun x y h => by rw [h]; omega
  have z' : ∀ x y : Int, y = 0 → x * y ≤ 0 := fun x y h => by rw [h]; omega
  constructor
  · rintro ⟨-, ⟨h1, h2⟩ | ((⟨h, o⟩ | ⟨h, o⟩) | ⟨h, o⟩) | ⟨h, o⟩⟩
    · exact ⟨⟨ov_cross h1 h2 M X, ov_cross h1 h2 M Y⟩, by omega, by omega⟩
    · have v := on_ov (q := q) o
      exact ⟨⟨v.1, v.2.1⟩, z _ _ h, on_mul h o⟩
    · have v := on_ov (q := p) o
      have m := on_mul (q := p) h o
      rw [area_turn p q a, area_turn p q b, neg_mul'] at m
      exact ⟨⟨v.2.2.1, v.2.2.2.1⟩, z' _ _ h, m⟩
    · have v := on_ov (q := b) o
      exact ⟨⟨v.2.2.2.2.1, v.2.2.2.2.2.1⟩, on_mul h o, z _ _ h⟩
    · have v := on_ov (q := a) o
      have m := on_mul (q := a) h o
      rw [area_turn a b p, area_turn a b q, neg_mul'] at m
      exact ⟨⟨v.2.2.2.2.2.2.1, v.2.2.2.2.2.2.2⟩, m, z' _ _ h⟩
  · rintro ⟨⟨x, y⟩, h1, h2⟩
    refine ⟨hn, ?_⟩
    by_cases t : area a b q - area a b p = 0
    · have cc : area a b p = 0 := by
        have e : area a b q = area a b p := by omega
        rw [e] at h1
        apply Classical.byContradiction; intro c
        rcases Int.lt_or_gt_of_ne c with l | l
        · have := Int.mul_pos_of_neg_of_neg l l; omega
        · have := Int.mul_pos l l; omega
      have ee : area p q a = 0 := by
        have e : area p q b = area p q a := by omega
        rw [e] at h2
        apply Classical.byContradiction; intro c
        rcases Int.lt_or_gt_of_ne c with l | l
        · have := Int.mul_pos_of_neg_of_neg l l; omega
        · have := Int.mul_pos l l; omega
      rcases flat_on cc (by omega) ee (by omega) x y with k | k | k | k
      · exact Or.inr (Or.inl (Or.inl (Or.inl ⟨cc, k⟩)))
      · exact Or.inr (Or.inl (Or.inl (Or.inr ⟨by omega, k⟩)))
      · exact Or.inr (Or.inl (Or.inr ⟨ee, k⟩))
      · exact Or.inr (Or.inr ⟨by omega, k⟩)
    · by_cases c0 : area a b p = 0
      · exact Or.inr (Or.inl (Or.inl (Or.inl ⟨c0, on_of c0 (by omega) h2⟩)))
      by_cases d0 : area a b q = 0
      · refine Or.inr (Or.inl (Or.inl (Or.inr ⟨d0, on_of (q := p) d0 (by omega) ?_⟩)))
        rw [area_turn p q a, area_turn p q b, neg_mul']; exact h2
      by_cases e0 : area p q a = 0
      · exact Or.inr (Or.inl (Or.inr ⟨e0, on_of (q := b) e0 (by omega) h1⟩))
      by_cases f0 : area p q b = 0
      · refine Or.inr (Or.inr ⟨f0, on_of (q := a) f0 (by omega) ?_⟩)
        rw [area_turn a b p, area_turn a b q, neg_mul']; exact h1
      have nz : ∀ x y : Int, x ≠ 0 → y ≠ 0 → x * y ≤ 0 → x * y < 0 := fun x y a b h => by
        have := Int.mul_ne_zero a b; omega
      exact Or.inl ⟨nz _ _ c0 d0 h1, nz _ _ e0 f0 h2⟩
theorem sgnA_le {x y : Int} : sgnA x * sgnA y ≤ 0 ↔ x * y ≤ 0 := by
  have p1 : 0 < x → 0 < y → 0 < x * y := Int.mul_pos
  have p2 : x < 0 → y < 0 → 0 < x * y := Int.mul_pos_of_neg_of_neg
  have p3 : x < 0 → 0 < y → x * y < 0 := Int.mul_neg_of_neg_of_pos
  have p4 : 0 < x → y < 0 → x * y < 0 := Int.mul_neg_of_pos_of_neg
  have p5 : x = 0 → x * y = 0 := fun h => by rw [h, Int.zero_mul]
  have p6 : y = 0 → x * y = 0 := fun h => by rw [h, Int.mul_zero]
  unfold sgnA
  split <;> split <;> (try split) <;> (try split) <;> omega
/-- the nearest quotient, one more if it lacks: the quotient rounded up -/
theorem div_up {A L q : Int} (hA : 0 ≤ A) (hL : 0 < L) (hq : rndN A L = q) : (q * L < A → q + 1 = -(-A / L)) ∧ (¬ q * L < A → q = -(-A / L)) := by
  obtain ⟨n1, n2⟩ := rndN_near hA hL
  rw [hq] at n1 n2
  have up : ∀ n : Int, A ≤ n * L → (n - 1) * L < A → n = -(-A / L) := fun n a b => by
    have e1 : -n * L = -(n * L) := by grind
    have e2 : (-n + 1) * L = -((n - 1) * L) := by grind
    have h1 : -n ≤ -A / L := Int.le_ediv_of_mul_le hL (by omega)
    have h2 : -A / L < -n + 1 := Int.ediv_lt_of_lt_mul hL (by omega)
    omega
  refine ⟨fun h => up _ ?_ ?_, fun h => up _ (by omega) ?_⟩
  · have e : (q + 1) * L = q * L + L := by grind
    omega
  · have e : (q + 1 - 1) * L = q * L := by grind
    omega
  · have e : (q - 1) * L = q * L - L := by grind
    omega
end Go.Proofs.Ytmfmdipejlnmfaa
