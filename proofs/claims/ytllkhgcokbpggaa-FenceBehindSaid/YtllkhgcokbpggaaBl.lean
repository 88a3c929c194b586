/- Stretches that meet, told by their bounds and by sides; and a quotient rounded up from the nearest one. No program in sight. -/
import Derived.Test.YtllkhgcokbpggaaBm
import Derived.Test.YtllkhgcokbpggaaBn
import Derived.Test.YtllkhgcokbpggaaBi
import Derived.Test.YtllkhgcokbpggaaBv
namespace Go.Proofs.Ytllkhgcokbpggaa
open Go.RowKit
set_option linter.unusedVariables false

/-- two ranges of numbers, in either order, have one in common -/
def ovl (a b p q : Int) : Bool := decide (min a b ≤ max p q ∧ min p q ≤ max a b)
theorem ov_cross' {C D E F a b p q : Int} (hC : C < 0) (hD : 0 < D) (hE : 0 < E) (hF : F < 0) (M : E - F = D - C) (X : (D - C) * (p - a) = E * (b - a) + C * (q - p)) :
    min a b ≤ max p q ∧ min p q ≤ max a b := by
  refine ⟨?_, ?_⟩
  · apply Classical.byContradiction; intro c
    obtain ⟨m, hm⟩ : ∃ m, m = min a b := ⟨_, rfl⟩
    have e : D * (p - m) + (-C) * (q - m) = (-F) * (a - m) + E * (b - m) := by grind
    have l1 := Int.mul_neg_of_pos_of_neg hD (show p - m < 0 by omega)
    have l2 := Int.mul_neg_of_pos_of_neg (show 0 < -C by omega) (show q - m < 0 by omega)
    have l3 := Int.mul_nonneg (show 0 ≤ -F by omega) (show 0 ≤ a - m by omega)
    have l4 := Int.mul_nonneg (show 0 ≤ E by omega) (show 0 ≤ b - m by omega)
    omega
  · apply Classical.byContradiction; intro c
    obtain ⟨m, hm⟩ : ∃ m, m = max a b := ⟨_, rfl⟩
    have e : D * (p - m) + (-C) * (q - m) = -((-F) * (m - a) + E * (m - b)) := by grind
    have l1 := Int.mul_pos hD (show 0 < p - m by omega)
    have l2 := Int.mul_pos (show 0 < -C by omega) (show 0 < q - m by omega)
    have l3 := Int.mul_nonneg (show 0 ≤ -F by omega) (show 0 ≤ m - a by omega)
    have l4 := Int.mul_nonneg (show 0 ≤ E by omega) (show 0 ≤ m - b by omega)
    omega
theorem mul_neg_iff' {x y : Int} (h : x * y < 0) : (x < 0 ∧ 0 < y) ∨ (0 < x ∧ y < 0) := by
  rcases Int.lt_trichotomy x 0 with a | a | a
  · refine Or.inl ⟨a, ?_⟩
    apply Classical.byContradiction; intro c
    have := Int.mul_nonneg_of_nonpos_of_nonpos (show x ≤ 0 by omega) (show y ≤ 0 by omega)
    omega
  · subst a; omega
  · refine Or.inr ⟨a, ?_⟩
    apply Classical.byContradiction; intro c
    have := Int.mul_nonneg (show 0 ≤ x by omega) (show 0 ≤ y by omega)
    omega
theorem ov_cross {C D E F a b p q : Int} (h1 : C * D < 0) (h2 : E * F < 0) (M : E - F = D - C) (X : (D - C) * (p - a) = E * (b - a) + C * (q - p)) : ovl a b p q = true := by
  unfold ovl
  rw [decide_eq_true_iff]
  rcases mul_neg_iff' h1 with ⟨c, d⟩ | ⟨c, d⟩
  · rcases mul_neg_iff' h2 with ⟨e, f⟩ | ⟨e, f⟩
    · omega
    · exact ov_cross' c d e f M X
  · rcases mul_neg_iff' h2 with ⟨e, f⟩ | ⟨e, f⟩
    · exact ov_cross' (C := -C) (D := -D) (E := -E) (F := -F) (by omega) (by omega) (by omega) (by omega) (by omega) (by grind)
    · omega
theorem btw_iff {n a b : Int} : btw n a b = true ↔ min a b ≤ n ∧ n ≤ max a b := by unfold btw; rw [decide_eq_true_iff]
theorem onB_iff {a b p : Pt} : onB a b p = true ↔ btw p.x a.x b.x = true ∧ btw p.y a.y b.y = true := by unfold onB; rw [Bool.and_eq_true]
theorem on_ov {a b p q : Pt} (h : onB a b p = true) : ovl a.x b.x p.x q.x = true ∧ ovl a.y b.y p.y q.y = true ∧ ovl a.x b.x q.x p.x = true ∧ ovl a.y b.y q.y p.y = true ∧ ovl p.x q.x a.x b.x = true ∧ ovl p.y q.y a.y b.y = true ∧ ovl q.x p.x a.x b.x = true ∧ ovl q.y p.y a.y b.y = true := by
  obtain ⟨h1, h2⟩ := onB_iff.mp h
  rw [btw_iff] at h1 h2
  unfold ovl
  simp only [decide_eq_true_iff]
  omega
/-- what is on a line between two places, and a third place: told along one axis -/
theorem on1 {D E u v : Int} (h : D * u = E * v) (p : 0 < E * (E - D)) (k : 0 ≤ u ∧ u ≤ v ∨ v ≤ u ∧ u ≤ 0) : v = 0 := by
  apply Classical.byContradiction; intro c
  have key : ∀ D E u v : Int, D * u = E * v → 0 < E → 0 < E - D → 0 ≤ u → u ≤ v → 0 < v → False := fun D E u v h e d a b c => by
    have l1 := Int.mul_pos e c
    rcases Int.le_total 0 D with d0 | d0
    · have l2 := Int.mul_le_mul_of_nonneg_left b d0
      have l3 := Int.mul_lt_mul_of_pos_right (show D < E by omega) c
      omega
    · have l2 := Int.mul_nonneg_of_nonpos_of_nonpos (show D ≤ 0 from d0) (show -u ≤ 0 by omega)
      have e2 : D * -u = -(D * u) := by grind
      omega
  have sg : (0 < E ∧ 0 < E - D) ∨ (E < 0 ∧ E - D < 0) := by
    rcases Int.lt_trichotomy E 0 with a | a | a
    · refine Or.inr ⟨a, ?_⟩
      apply Classical.byContradiction; intro c
      have := Int.mul_nonneg (show 0 ≤ -E by omega) (show 0 ≤ E - D by omega)
      have e2 : -E * (E - D) = -(E * (E - D)) := by grind
      omega
    · subst a; omega
    · refine Or.inl ⟨a, ?_⟩
      apply Classical.byContradiction; intro c
      have := Int.mul_nonneg (show 0 ≤ E by omega) (show 0 ≤ -(E - D) by omega)
      have e2 : E * -(E - D) = -(E * (E - D)) := by grind
      omega
  rcases sg with ⟨e, d⟩ | ⟨e, d⟩ <;> rcases k with ⟨k, l⟩ | ⟨k, l⟩
  · exact key D E u v h e d k l (by omega)
  · exact key D E (-u) (-v) (by grind) e d (by omega) (by omega) (by omega)
  · exact key (-D) (-E) u v (by grind) (by omega) (by omega) k l (by omega)
  · exact key (-D) (-E) (-u) (-v) (by grind) (by omega) (by omega) (by omega) (by omega) (by omega)
/-- the ends of a stretch that one of another's ends is on are not on one side of that -/
theorem on_mul {a b p q : Pt} (h : area a b p = 0) (o : onB a b p = true) : area p q a * area p q b ≤ 0 := by
  apply Classical.byContradiction; intro c
  obtain ⟨M, X, Y⟩ := area_meet a b p q
  obtain ⟨h1, h2⟩ := onB_iff.mp o
  rw [btw_iff] at h1 h2
  rw [h] at X Y M
  have e : area p q b = area p q a - (area a b q) := by omega
  rw [e] at c
  have vx := on1 (D := area a b q) (E := area p q a) (u := p.x - a.x) (v := b.x - a.x) (by grind) (by omega) (by omega)
  have vy := on1 (D := area a b q) (E := area p q a) (u := p.y - a.y) (v := b.y - a.y) (by grind) (by omega) (by omega)
  have px : p.x = a.x := by omega
  have py : p.y = a.y := by omega
  have z : area p q a = 0 := by unfold area; rw [px, py]; grind
  rw [z] at c; omega
/-- an end on the other stretch's line is on that stretch, if that stretch's ends are not on one side -/
theorem plon_of {a b p q : Pt} (h : area a b p = 0) (t : area a b q ≠ 0) (k : area p q a * area p q b ≤ 0) : onB a b p = true := by
  obtain ⟨M, X, Y⟩ := area_meet a b p q
  rw [h] at X Y M
  generalize area a b q = D at *
  generalize area p q a = E at *
  generalize area p q b = F at *
  have eF : F = E - D := by omega
  subst eF
  have sg : (0 < D ∧ 0 ≤ E ∧ E ≤ D) ∨ (D < 0 ∧ E ≤ 0 ∧ D ≤ E) := by
    rcases Int.lt_trichotomy E 0 with a | a | a
    · refine Or.inr ?_
      have : D ≤ E := by
        apply Classical.byContradiction; intro c
        have := Int.mul_pos_of_neg_of_neg a (show E - D < 0 by omega)
        omega
      omega
    · omega
    · refine Or.inl ?_
      have : E ≤ D := by
        apply Classical.byContradiction; intro c
        have := Int.mul_pos a (show 0 < E - D by omega)
        omega
      omega
  rw [onB_iff]
  rcases sg with ⟨d, e0, e1⟩ | ⟨d, e0, e1⟩
  · exact ⟨btw_part (t := D) (e := E) d (by grind) e0 e1, btw_part (t := D) (e := E) d (by grind) e0 e1⟩
  · exact ⟨btw_part (t := -D) (e := -E) (by omega) (by grind) (by omega) (by omega), btw_part (t := -D) (e := -E) (by omega) (by grind) (by omega) (by omega)⟩
theorem line_x {a b p : Pt} (h : area a b p = 0) (n : a.x ≠ b.x) (k : btw p.x a.x b.x = true) : onB a b p = true := by
  rw [onB_iff]
  refine ⟨k, ?_⟩
  rw [btw_iff] at k
  unfold area at h
  rcases Int.lt_or_gt_of_ne n with l | l
  · exact btw_part (t := b.x - a.x) (e := p.x - a.x) (by omega) (by grind) (by omega) (by omega)
  · exact btw_part (t := a.x - b.x) (e := a.x - p.x) (by omega) (by grind) (by omega) (by omega)
theorem one_end {a b p q : Int} (h : ovl a b p q = true) : btw p a b = true ∨ btw q a b = true ∨ btw a p q = true ∨ btw b p q = true := by
  unfold ovl at h
  rw [decide_eq_true_iff] at h
  simp only [btw_iff]
  omega
theorem flat_on {a b p q : Pt} (h1 : area a b p = 0) (h2 : area a b q = 0) (h3 : area p q a = 0) (h4 : area p q b = 0) (x : ovl a.x b.x p.x q.x = true) (y : ovl a.y b.y p.y q.y = true) :
    onB a b p = true ∨ onB a b q = true ∨ onB p q a = true ∨ onB p q b = true := by
  by_cases n : a.x = b.x
  · by_cases m : p.x = q.x
    · have e : a.x = p.x := by unfold ovl at x; rw [decide_eq_true_iff] at x; omega
      have b1 : ∀ u v w : Int, u = v → w = v → btw v u w = true := fun u v w a b => by rw [btw_iff]; omega
      rcases one_end y with k | k | k | k
      · exact Or.inl (onB_iff.mpr ⟨b1 _ _ _ e (by omega), k⟩)
      · exact Or.inr (Or.inl (onB_iff.mpr ⟨b1 _ _ _ (by omega) (by omega), k⟩))
      · exact Or.inr (Or.inr (Or.inl (onB_iff.mpr ⟨b1 _ _ _ (by omega) (by omega), k⟩)))
      · exact Or.inr (Or.inr (Or.inr (onB_iff.mpr ⟨b1 _ _ _ (by omega) (by omega), k⟩)))
    · refine Or.inr (Or.inr (Or.inl (line_x h3 m ?_)))
      unfold ovl at x
      rw [decide_eq_true_iff] at x
      rw [btw_iff]; omega
  · rcases one_end x with k | k | k | k
    · exact Or.inl (line_x h1 n k)
    · exact Or.inr (Or.inl (line_x h2 n k))
    · by_cases m : p.x = q.x
      · refine Or.inl (line_x h1 n ?_)
        rw [btw_iff] at k ⊢; omega
      · exact Or.inr (Or.inr (Or.inl (line_x h3 m k)))
    · by_cases m : p.x = q.x
      · refine Or.inl (line_x h1 n ?_)
        rw [btw_iff] at k ⊢; omega
      · exact Or.inr (Or.inr (Or.inr (line_x h4 m k)))
theorem neg_mul' (x y : Int) : -x * -y = x * y := by grind
/-- MEETING, BY BOUNDS AND SIDES -/
theorem meets_ovl {a b p q : Pt} (hn : a.near ∧ b.near ∧ p.near ∧ q.near) :
    meetsP a b p q = decide ((ovl a.x b.x p.x q.x = true ∧ ovl a.y b.y p.y q.y = true) ∧ area a b p * area a b q ≤ 0 ∧ area p q a * area p q b ≤ 0) := by
  rw [Bool.eq_iff_iff, decide_eq_true_iff]
  unfold meetsP
  simp only [Bool.and_eq_true, Bool.or_eq_true, decide_eq_true_iff]
  obtain ⟨M, X, Y⟩ := area_meet a b p q
  have z : ∀ x y : Int, x = 0 → x * y ≤ 0 := fun x y h => by rw [h]; omega
  have z' : ∀ x y : Int, y = 0 → x * y ≤ 0 := fun x y h => by rw [h]; omega
  constructor
  · rintro ⟨-, ⟨h1, h2⟩ | ((⟨h, o⟩ | ⟨h, o⟩) | ⟨h, o⟩) | ⟨h, o⟩⟩
    · exact ⟨⟨ov_cross h1 h2 M X, ov_cross h1 h2 M Y⟩, by omega, by omega⟩
    · have v := on_ov (q := q) o
      exact ⟨⟨v.1, v.2.1⟩, z _ _ h, on_mul h o⟩
    · have v := on_ov (q := p) o
      have m := on_mul (q := p) h o
      rw [area_turn p q a, area_turn p q b, neg_mul'] at m
      exact ⟨⟨v.2.2.1, v.2.2.2.1⟩, z' _ _ h, m⟩
    · have v := on_ov (q := b) o
      exact ⟨⟨v.2.2.2.2.1, v.2.2.2.2.2.1⟩, on_mul h o, z _ _ h⟩
    · have v := on_ov (q := a) o
      have m := on_mul (q := a) h o
      rw [area_turn a b p, area_turn a b q, neg_mul'] at m
      exact ⟨⟨v.2.2.2.2.2.2.1, v.2.2.2.2.2.2.2⟩, m, z' _ _ h⟩
  · rintro ⟨⟨x, y⟩, h1, h2⟩
    refine ⟨hn, ?_⟩
    by_cases t : area a b q - area a b p = 0
    · have cc : area a b p = 0 := by
        have e : area a b q = area a b p := by omega
        rw [e] at h1
        apply Classical.byContradiction; intro c
        rcases Int.lt_or_gt_of_ne c with l | l
        · have := Int.mul_pos_of_neg_of_neg l l; omega
        · have := Int.mul_pos l l; omega
      have ee : area p q a = 0 := by
        have e : area p q b = area p q a := by omega
        rw [e] at h2
        apply Classical.byContradiction; intro c
        rcases Int.lt_or_gt_of_ne c with l | l
        · have := Int.mul_pos_of_neg_of_neg l l; omega
        · have := Int.mul_pos l l; omega
      rcases flat_on cc (by omega) ee (by omega) x y with k | k | k | k
      · exact Or.inr (Or.inl (Or.inl (Or.inl ⟨cc, k⟩)))
      · exact Or.inr (Or.inl (Or.inl (Or.inr ⟨by omega, k⟩)))
      · exact Or.inr (Or.inl (Or.inr ⟨ee, k⟩))
      · exact Or.inr (Or.inr ⟨by omega, k⟩)
    · by_cases c0 : area a b p = 0
      · exact Or.inr (Or.inl (Or.inl (Or.inl ⟨c0, plon_of c0 (by omega) h2⟩)))
      by_cases d0 : area a b q = 0
      · refine Or.inr (Or.inl (Or.inl (Or.inr ⟨d0, plon_of (q := p) d0 (by omega) ?_⟩)))
        rw [area_turn p q a, area_turn p q b, neg_mul']; exact h2
      by_cases e0 : area p q a = 0
      · exact Or.inr (Or.inl (Or.inr ⟨e0, plon_of (q := b) e0 (by omega) h1⟩))
      by_cases f0 : area p q b = 0
      · refine Or.inr (Or.inr ⟨f0, plon_of (q := a) f0 (by omega) ?_⟩)
        rw [area_turn a b p, area_turn a b q, neg_mul']; exact h1
      have nz : ∀ x y : Int, x ≠ 0 → y ≠ 0 → x * y ≤ 0 → x * y < 0 := fun x y a b h => by
        have := Int.mul_ne_zero a b; omega
      exact Or.inl ⟨nz _ _ c0 d0 h1, nz _ _ e0 f0 h2⟩
theorem sgnA_le {x y : Int} : sgnA x * sgnA y ≤ 0 ↔ x * y ≤ 0 := by
  have p1 : 0 < x → 0 < y → 0 < x * y := Int.mul_pos
  have p2 : x < 0 → y < 0 → 0 < x * y := Int.mul_pos_of_neg_of_neg
  have p3 : x < 0 → 0 < y → x * y < 0 := Int.mul_neg_of_neg_of_pos
  have p4 : 0 < x → y < 0 → x * y < 0 := Int.mul_neg_of_pos_of_neg
  have p5 : x = 0 → x * y = 0 := fun h => by rw [h, Int.zero_mul]
  have p6 : y = 0 → x * y = 0 := fun h => by rw [h, Int.mul_zero]
  unfold sgnA
  split <;> split <;> (try split) <;> (try split) <;> omega
/-- the nearest quotient, one more if it lacks: the quotient rounded up -/
theorem div_up {A L q : Int} (hA : 0 ≤ A) (hL : 0 < L) (hq : rndN A L = q) : (q * L < A → q + 1 = -(-A / L)) ∧ (¬ q * L < A → q = -(-A / L)) := by
  obtain ⟨n1, n2⟩ := rndN_near hA hL
  rw [hq] at n1 n2
  have up : ∀ n : Int, A ≤ n * L → (n - 1) * L < A → n = -(-A / L) := fun n a b => by
    have e1 : -n * L = -(n * L) := by grind
    have e2 : (-n + 1) * L = -((n - 1) * L) := by grind
    have h1 : -n ≤ -A / L := Int.le_ediv_of_mul_le hL (by omega)
    have h2 : -A / L < -n + 1 := Int.ediv_lt_of_lt_mul hL (by omega)
    omega
  refine ⟨fun h => up _ ?_ ?_, fun h => up _ (by omega) ?_⟩
  · have e : (q + 1) * L = q * L + L := by grind
    omega
  · have e : (q + 1 - 1) * L = q * L := by grind
    omega
  · have e : (q - 1) * L = q * L - L := by grind
    omega
end Go.Proofs.Ytllkhgcokbpggaa
namespace Go.Proofs.Ytllkhgcokbpggaa
open Go.RowKit
set_option linter.unusedVariables false
set_option linter.unusedSimpArgs false

/-- points lie one behind the other in block n -/
structure PW (W : World) (n : Nat) (l : List Pt) : Prop where
  c : ∀ (i : Nat) (t : Pt), l[i]? = some t → W.cell? ⟨n, i * 2, none⟩ = some (.int .i64 t.x) ∧ W.cell? ⟨n, i * 2 + 1, none⟩ = some (.int .i64 t.y)
  lt : n < W.heap.size
theorem PW.below {B : Nat} {w w' : World} {n : Nat} {l : List Pt} (k : PW w n l) (h : Below B w w') (hn : n < B) : PW w' n l :=
  ⟨fun i t e => ⟨(h.cell (p := ⟨n, _, none⟩) hn).trans (k.c i t e).1, (h.cell (p := ⟨n, _, none⟩) hn).trans (k.c i t e).2⟩, by have := h.size; have := k.lt; omega⟩
theorem PW.alloc {w : World} {n : Nat} {l : List Pt} (k : PW w n l) (o : Obj) : PW (w.alloc o) n l := k.below ((Below.refl w.heap.size w).alloc (Nat.le_refl _) o) k.lt
theorem PW.three {W : World} {n : Nat} {ax ay bx by' px py : Int} (k : BW W n [.int .i64 ax, .int .i64 ay, .int .i64 bx, .int .i64 by', .int .i64 px, .int .i64 py]) : PW W n [⟨ax, ay⟩, ⟨bx, by'⟩, ⟨px, py⟩] :=
  ⟨fun i t e => by
    match i, e with
    | 0, e => cases e; exact ⟨k.c 0 _ rfl, k.c 1 _ rfl⟩
    | 1, e => cases e; exact ⟨k.c 2 _ rfl, k.c 3 _ rfl⟩
    | 2, e => cases e; exact ⟨k.c 4 _ rfl, k.c 5 _ rfl⟩
    | i + 3, e => exact absurd e (by simp), k.lt⟩
theorem PW.four {W : World} {n : Nat} {ax ay bx by' px py qx qy : Int} (k : BW W n [.int .i64 ax, .int .i64 ay, .int .i64 bx, .int .i64 by', .int .i64 px, .int .i64 py, .int .i64 qx, .int .i64 qy]) : PW W n [⟨ax, ay⟩, ⟨bx, by'⟩, ⟨px, py⟩, ⟨qx, qy⟩] :=
  ⟨fun i t e => by
    match i, e with
    | 0, e => cases e; exact ⟨k.c 0 _ rfl, k.c 1 _ rfl⟩
    | 1, e => cases e; exact ⟨k.c 2 _ rfl, k.c 3 _ rfl⟩
    | 2, e => cases e; exact ⟨k.c 4 _ rfl, k.c 5 _ rfl⟩
    | 3, e => cases e; exact ⟨k.c 6 _ rfl, k.c 7 _ rfl⟩
    | i + 4, e => exact absurd e (by simp), k.lt⟩
def nearL (l : List Pt) : Bool := l.all (fun t => decide t.near)
theorem nearL_false {l : List Pt} {i : Nat} {t : Pt} (h : l[i]? = some t) (k : ¬ t.near) : false = nearL l := by
  symm; unfold nearL
  rw [Bool.eq_false_iff]
  intro a
  rw [List.all_eq_true] at a
  have := a t (List.mem_of_getElem? h)
  rw [decide_eq_true_iff] at this
  exact k this
theorem nearL_take {l : List Pt} {j : Nat} {t : Pt} (h : l[j]? = some t) (a : nearL (l.take j) = true) (k : t.near) : nearL (l.take (j + 1)) = true := by
  have e : l.take (j + 1) = l.take j ++ [t] := by rw [List.take_add_one, h]; rfl
  unfold nearL at *
  rw [e, List.all_append, a]
  simp [k]
theorem nearL3 (a b p : Pt) : nearL [a, b, p] = decide (a.near ∧ b.near ∧ p.near) := by
  unfold nearL; simp [Bool.decide_and]
theorem nearL4 (a b p q : Pt) : nearL [a, b, p, q] = decide (a.near ∧ b.near ∧ p.near ∧ q.near) := by
  unfold nearL; simp [Bool.decide_and]
theorem plInside_any (c : Int) (w : World) :
    Calls Try.prog 67 #[.int .i64 c] w fun e w' => e = .returned (.bool (decide (Rg c))) ∧ w' = w := by
  obtain ⟨r, hr⟩ : ∃ r, decide (Rg c) = r := ⟨_, rfl⟩
  rw [hr]
  have R := Lib.hid hr
  clear hr
  go_enter Try.func67, Try.ntmps67
  by_cases h : -281474976710656 ≤ c
  · have E := Lib.hid (show decide (c ≤ 281474976710656) = r by rw [← R.out, decide_eq_decide]; unfold Rg; omega)
    clear R
    go_wp2
    go_ret
    exact ⟨by rw [← E.out]; rfl, rfl⟩
  · have E := Lib.hid (show false = r by rw [← R.out]; symm; rw [decide_eq_false_iff_not]; unfold Rg; omega)
    clear R
    go_wp2
    go_ret
    exact ⟨by rw [← E.out]; rfl, rfl⟩
set_option maxHeartbeats 2000000 in
theorem plWithin_any (l : List Pt) (len n : Nat) (w : World) (hlen : l.length = len) (hmax : len ≤ 100) (T : PW w n l) :
    Calls Try.prog 39 #[.slice (some ⟨n, 0, none⟩) len len] w fun e w' => e = .returned (.bool (nearL l)) ∧ Below w.heap.size w w' := by
  have HT := Lib.hid T
  obtain ⟨r, hr⟩ : ∃ r, nearL l = r := ⟨_, rfl⟩
  rw [hr]
  have R := Lib.hid hr
  clear T hr
  go_enter Try.func39, Try.ntmps39
  go_wp2
  go_loopw [7] (fun i wr => ∃ j : Nat, j ≤ len ∧ i = .int .i64 j ∧ nearL (l.take j) = true ∧ PW wr n l ∧ Below w.heap.size w wr) (fun i _ => len - (intOf i).toNat)
  case atStart => exact ⟨0, by omega, rfl, rfl, HT.out, Below.refl _ _⟩
  case round =>
    obtain ⟨j, hj, rfl, hN, hT, hB⟩ := hrel
    have N1 := Lib.hid hN
    have T1 := Lib.hid hT
    have B1 := Lib.hid hB
    clear hN hT hB
    by_cases hlt : j < len
    · obtain ⟨t, ht⟩ : ∃ t, l[j]? = some t := ⟨l[j]'(by omega), List.getElem?_eq_getElem (by omega)⟩
      have E0 := Lib.hid (fun (h : ¬ t.near) => (nearL_false ht h).trans R.out)
      have E1 := Lib.hid (fun (h : t.near) => nearL_take ht N1.out h)
      obtain ⟨c0, c1⟩ := T1.out.c j t ht
      obtain ⟨x, y⟩ := t
      dsimp only at c0 c1
      clear ht
      go_wp2_with fail
      refine calls_gen (S := fun W => BW W wr.heap.size [.int .i64 x, .int .i64 y] ∧ PW W n l ∧ Below w.heap.size w W) ⟨BW.new wr _ [_, _] _ rfl, T1.out.alloc _, B1.out.alloc B1.out.size _⟩ (fun W0 hS => ?_)
      have a1 : W0.cell? ⟨wr.heap.size, 1, none⟩ = some (.int .i64 y) := hS.1.c 1 _ rfl
      have T2 := Lib.hid hS.2.1
      have B2 := Lib.hid hS.2.2
      clear hS T1 B1 c0 c1
      generalize wr.heap.size = n1 at *
      refine (plInside_any x _).mono ?_
      rintro e w1 ⟨rfl, rfl⟩
      by_cases hx : Rg x
      · rw [decide_eq_true hx]
        go_wp2_with fail
        refine (plInside_any y _).mono ?_
        rintro e w2 ⟨rfl, rfl⟩
        by_cases hy : Rg y
        · rw [decide_eq_true hy]
          have E2 := Lib.hid (E1.out ⟨hx, hy⟩)
          clear hx hy E0 E1
          go_wp2
          go_roundw
          case rel => exact ⟨j + 1, by omega, by go_num, E2.out, T2.out, B2.out⟩
          case measure => simp [intOf]; omega
        · rw [decide_eq_false hy]
          have E2 := Lib.hid (E0.out (fun h => hy h.2))
          clear hx hy E0 E1
          go_wp2
          go_ret
          exact ⟨by rw [← E2.out]; rfl, B2.out⟩
      · rw [decide_eq_false hx]
        have E2 := Lib.hid (E0.out (fun h => hx h.1))
        clear hx E0 E1
        go_wp2
        go_ret
        exact ⟨by rw [← E2.out]; rfl, B2.out⟩
    · have EK := Lib.hid (show true = r by rw [← R.out, ← N1.out, List.take_of_length_le (by omega)])
      clear N1
      go_wp2
      go_ret
      exact ⟨by rw [← EK.out]; rfl, B1.out⟩
theorem plOverlap_any (a b p q : Int) (w : World) :
    Calls Try.prog 40 #[.int .i64 a, .int .i64 b, .int .i64 p, .int .i64 q] w fun e w' => e = .returned (.bool (ovl a b p q)) ∧ w' = w := by
  obtain ⟨r, hr⟩ : ∃ r, ovl a b p q = r := ⟨_, rfl⟩
  rw [hr]
  have R := Lib.hid hr
  clear hr
  go_enter Try.func40, Try.ntmps40
  by_cases h : min a b ≤ max p q
  · have E := Lib.hid (show decide (min p q ≤ max a b) = r by rw [← R.out]; unfold ovl; rw [decide_eq_decide]; exact ⟨fun k => ⟨h, k⟩, fun k => k.2⟩)
    clear R
    go_wp2
    go_ret
    exact ⟨by rw [← E.out]; rfl, rfl⟩
  · have E := Lib.hid (show false = r by rw [← R.out]; symm; unfold ovl; rw [decide_eq_false_iff_not]; exact fun k => h k.1)
    clear R
    go_wp2
    go_ret
    exact ⟨by rw [← E.out]; rfl, rfl⟩
theorem below_put2 {w W : World} (k : Below w.heap.size w W) {r : Nat} (h : w.heap.size ≤ r) (u0 u1 : Value) : Below w.heap.size w ((W.setCell ⟨r, 0, none⟩ u0).setCell ⟨r, 1, none⟩ u1) :=
  (k.setCell (p := ⟨r, 0, none⟩) h u0).setCell (p := ⟨r, 1, none⟩) h u1
theorem bw_put2 {W : World} {n : Nat} {a b : Value} (k : BW W n [a, b]) (u0 u1 : Value) : BW ((W.setCell ⟨n, 0, none⟩ u0).setCell ⟨n, 1, none⟩ u1) n [u0, u1] := (k.put (i := 0) u0 _ rfl).put (i := 1) u1 _ rfl
theorem plProduct_any (a b n : Int) (w : World) (hn : a * b = n) (a0 : -9223372036854775808 ≤ a) (a1 : a ≤ 9223372036854775807) (b0 : -9223372036854775808 ≤ b) (b1 : b ≤ 9223372036854775807) :
    Calls Try.prog 77 #[.int .i64 a, .int .i64 b] w fun e w' => e = .returned (.agg #[.int .i64 (hiW n), .int .u64 (loW n)]) ∧ Below w.heap.size w w' := by
  have X := Lib.hid (fun (W : World) => Mul_n a b n W hn a0 a1 b0 b1)
  clear hn a0 a1 b0 b1
  go_enter Try.func77, Try.ntmps77
  go_wp2_with fail
  refine calls_gen (S := fun W => St w W [(w.heap.size, [.int .i64 0, .int .u64 0])]) (St.cons (BW.new _ _ [_, _] _ rfl) (St.nil (by repeat (first | exact Below.refl _ _ | assumption | refine Below.setCell ?_ (by first | omega | (simp; done) | (simp; omega)) _ | refine Below.alloc ?_ (by first | omega | (simp; done) | (simp; omega)) _ | refine below_drewN ?_ _ | refine Below.drew ?_ | refine Below.trans ?_ (Below.mono (by assumption) (by first | omega | (simp; done) | (simp; omega))))))) (fun W0 hS => ?_)
  have K0 := Lib.hid hS
  clear hS
  refine (X.out _).mono ?_
  rintro e w1 ⟨rfl, h⟩
  have K1 := Lib.hid (K0.out.step h)
  clear h K0 X
  obtain ⟨r0, r1⟩ := (K1.out.b w.heap.size [.int .i64 0, .int .u64 0] (by simp)).h2'
  have rf := (K1.out.b w.heap.size [.int .i64 0, .int .u64 0] (by simp)).f
  go_wp2
  exact bodyPost_ret (v := .agg #[.int .i64 (hiW n), .int .u64 (loW n)]) (by simp [results, Try.results77, go_sem, r0, r1]) rfl ⟨rfl, below_put2 K1.out.l (Nat.le_refl _) _ _⟩
theorem plPlus_any (a b s : Int) (w : World) (ha : In128 a) (hb : In128 b) (hs : a + b = s) (k : In128 s) :
    Calls Try.prog 76 #[.agg #[.int .i64 (hiW a), .int .u64 (loW a)], .agg #[.int .i64 (hiW b), .int .u64 (loW b)]] w fun e w' => e = .returned (.agg #[.int .i64 (hiW s), .int .u64 (loW s)]) ∧ Below w.heap.size w w' := by
  have X := Lib.hid (fun (W : World) => Add_yes a b s W ha hb hs k)
  clear ha hb hs k
  go_enter Try.func76, Try.ntmps76
  go_wp2_with fail
  refine calls_gen (S := fun W => St w W [(w.heap.size + 1 + 1, [.int .i64 0, .int .u64 0])]) (St.cons (BW.new _ _ [_, _] _ (by simp)) (St.nil (by repeat (first | exact Below.refl _ _ | assumption | refine Below.setCell ?_ (by first | omega | (simp; done) | (simp; omega)) _ | refine Below.alloc ?_ (by first | omega | (simp; done) | (simp; omega)) _ | refine below_drewN ?_ _ | refine Below.drew ?_ | refine Below.trans ?_ (Below.mono (by assumption) (by first | omega | (simp; done) | (simp; omega))))))) (fun W0 hS => ?_)
  have K0 := Lib.hid hS
  clear hS
  refine (X.out _).mono ?_
  rintro e w1 ⟨rfl, h⟩
  have K1 := Lib.hid (K0.out.step h)
  clear h K0 X
  have K2 := (K1.out.b (w.heap.size + 1 + 1) [.int .i64 0, .int .u64 0] (by simp))
  have r0 := K2.c 0 _ rfl
  have r1 := K2.c 1 _ rfl
  have rf := K2.f
  have hl := K2.lt
  have Z := (bw_put2 K2 (.int .i64 (hiW s)) (.int .u64 (loW s))).alloc (.cells #[.int .i64 (hiW s), .int .u64 (loW s)] 94)
  have z0 := Z.c 0 _ rfl
  have z1 := Z.c 1 _ rfl
  clear K2 Z
  go_wp2
  exact bodyPost_ret (v := .agg #[.int .i64 (hiW s), .int .u64 (loW s)]) (by simp [results, Try.results76, go_sem, z0, z1]) rfl ⟨rfl, (below_put2 K1.out.l (by omega) _ _).alloc (by simp only [set_size]; omega) _⟩
theorem plMinus_any (a b s : Int) (w : World) (ha : In128 a) (hb : In128 b) (hn : In128 (-b)) (hs : a - b = s) (k : In128 s) :
    Calls Try.prog 54 #[.agg #[.int .i64 (hiW a), .int .u64 (loW a)], .agg #[.int .i64 (hiW b), .int .u64 (loW b)]] w fun e w' => e = .returned (.agg #[.int .i64 (hiW s), .int .u64 (loW s)]) ∧ Below w.heap.size w w' := by
  have X := Lib.hid (fun (W : World) => Neg_yes b (-b) W hb rfl hn)
  have Y := Lib.hid (fun (W : World) => plPlus_any a (-b) s W ha hn (by omega) k)
  clear ha hb hn hs k
  generalize -b = m at *
  go_enter Try.func54, Try.ntmps54
  go_wp2_with fail
  refine calls_gen (S := fun W => St w W [(w.heap.size, [.int .i64 (hiW a), .int .u64 (loW a)]), (w.heap.size + 1 + 1, [.int .i64 0, .int .u64 0])]) (St.cons (((BW.new w w.heap.size [_, _] _ rfl).alloc _).alloc _) (St.cons (BW.new _ _ [_, _] _ (by simp)) (St.nil (by repeat (first | exact Below.refl _ _ | assumption | refine Below.setCell ?_ (by first | omega | (simp; done) | (simp; omega)) _ | refine Below.alloc ?_ (by first | omega | (simp; done) | (simp; omega)) _ | refine below_drewN ?_ _ | refine Below.drew ?_ | refine Below.trans ?_ (Below.mono (by assumption) (by first | omega | (simp; done) | (simp; omega)))))))) (fun W0 hS => ?_)
  have K0 := Lib.hid hS
  clear hS
  refine (X.out _).mono ?_
  rintro e w1 ⟨rfl, h⟩
  have K1 := Lib.hid (K0.out.step h)
  clear h K0 X
  obtain ⟨a0, a1⟩ := (K1.out.b w.heap.size [.int .i64 (hiW a), .int .u64 (loW a)] (by simp)).h2'
  have hl : w.heap.size < w1.heap.size := (K1.out.b w.heap.size [.int .i64 (hiW a), .int .u64 (loW a)] (by simp)).lt
  go_wp2_with fail
  refine calls_gen (S := fun W => St w W [(w.heap.size + 1 + 1, [.int .i64 0, .int .u64 0])]) ((K1.out.tail).alloc _) (fun W0 hS => ?_)
  have K2 := Lib.hid hS
  clear hS K1 a0 a1
  refine (Y.out _).mono ?_
  rintro e w2 ⟨rfl, h⟩
  have K3 := Lib.hid (K2.out.step h)
  clear h K2 Y
  have K2 := (K3.out.b (w.heap.size + 1 + 1) [.int .i64 0, .int .u64 0] (by simp))
  have r0 := K2.c 0 _ rfl
  have r1 := K2.c 1 _ rfl
  have rf := K2.f
  clear K2
  go_wp2
  exact bodyPost_ret (v := .agg #[.int .i64 (hiW s), .int .u64 (loW s)]) (by simp [results, Try.results54, go_sem, r0, r1]) rfl ⟨rfl, below_put2 K3.out.l (by omega) _ _⟩
end Go.Proofs.Ytllkhgcokbpggaa
namespace Go.Proofs.Ytllkhgcokbpggaa
open Go.RowKit
set_option linter.unusedVariables false
set_option linter.unusedSimpArgs false

/-- the blocks of three points -/
def PaL (w : World) (ax ay bx by' px py : Int) : List (Nat × List Value) := [(w.heap.size, [.int .i64 ax, .int .i64 ay]), (w.heap.size + 1, [.int .i64 bx, .int .i64 by']), (w.heap.size + 1 + 1, [.int .i64 px, .int .i64 py])]
theorem pa_sv {w W : World} {ax ay bx by' px py : Int} (k : St w W (PaL w ax ay bx by' px py)) : (W.cell? ⟨w.heap.size, 0, none⟩ = some (.int .i64 ax) ∧ W.cell? ⟨w.heap.size, 1, none⟩ = some (.int .i64 ay)) ∧ (W.cell? ⟨w.heap.size + 1, 0, none⟩ = some (.int .i64 bx) ∧ W.cell? ⟨w.heap.size + 1, 1, none⟩ = some (.int .i64 by')) ∧ (W.cell? ⟨w.heap.size + 1 + 1, 0, none⟩ = some (.int .i64 px) ∧ W.cell? ⟨w.heap.size + 1 + 1, 1, none⟩ = some (.int .i64 py)) :=
  ⟨(k.b _ _ (by unfold PaL; simp)).h2', (k.b _ _ (by unfold PaL; simp)).h2', (k.b _ _ (by unfold PaL; simp)).h2'⟩
theorem pa_lt {w W : World} {ax ay bx by' px py : Int} (k : St w W (PaL w ax ay bx by' px py)) : w.heap.size + 1 + 1 < W.heap.size := (k.b (w.heap.size + 1 + 1) [.int .i64 px, .int .i64 py] (by unfold PaL; simp)).lt
theorem pa_new {w : World} {ax ay bx by' px py : Int} {W : World} (h0 : BW W w.heap.size [.int .i64 ax, .int .i64 ay]) (h1 : BW W (w.heap.size + 1) [.int .i64 bx, .int .i64 by']) (h2 : BW W (w.heap.size + 1 + 1) [.int .i64 px, .int .i64 py]) (h : Below w.heap.size w W) : St w W (PaL w ax ay bx by' px py) :=
  St.cons h0 (St.cons h1 (St.cons h2 (St.nil h)))
theorem pa_far {w W : World} {ax ay bx by' px py : Int} (k : St w W (PaL w ax ay bx by' px py)) {r : Nat} (h : w.heap.size + 1 + 1 < r) (u0 u1 : Value) : St w ((W.setCell ⟨r, 0, none⟩ u0).setCell ⟨r, 1, none⟩ u1) (PaL w ax ay bx by' px py) := by
  have n : ∀ m q, (m, q) ∈ PaL w ax ay bx by' px py → r ≠ m := fun m q e => by
    unfold PaL at e; simp at e; rcases e with e | e | e <;> (have := e.1; omega)
  exact (k.far (by omega) n 0 u0).far (by omega) n 1 u1
theorem fits_u {x y : Int} (h1 : Rg x) (h2 : Rg y) : IntKind.i64.wrap (y - x) = y - x := IntWalk.i64_in _ (by unfold Rg at *; omega)
theorem fits_b {x y : Int} (h1 : Rg x) (h2 : Rg y) : -9223372036854775808 ≤ y - x ∧ y - x ≤ 9223372036854775807 := by unfold Rg at *; omega
set_option maxRecDepth 100000 in
set_option maxHeartbeats 4000000 in
theorem plArea_any (ax ay bx by' px py A : Int) (w : World) (h1 : Rg ax) (h2 : Rg ay) (h3 : Rg bx) (h4 : Rg by') (h5 : Rg px) (h6 : Rg py) (hA : area ⟨ax, ay⟩ ⟨bx, by'⟩ ⟨px, py⟩ = A) :
    Calls Try.prog 55 #[.agg #[.int .i64 ax, .int .i64 ay], .agg #[.int .i64 bx, .int .i64 by'], .agg #[.int .i64 px, .int .i64 py]] w fun e w' => e = .returned (.agg #[.int .i64 (hiW A), .int .u64 (loW A)]) ∧ Below w.heap.size w w' := by
  obtain ⟨f1, f2, f3, f4, f5⟩ := area_fit h1 h2 h3 h4 h5 h6
  have X1 := Lib.hid (fun (W : World) => plProduct_any (bx - ax) (py - ay) _ W rfl (fits_b h1 h3).1 (fits_b h1 h3).2 (fits_b h2 h6).1 (fits_b h2 h6).2)
  have X2 := Lib.hid (fun (W : World) => plProduct_any (by' - ay) (px - ax) _ W rfl (fits_b h2 h4).1 (fits_b h2 h4).2 (fits_b h1 h5).1 (fits_b h1 h5).2)
  have X4 := Lib.hid (fun (W : World) => plMinus_any ((bx - ax) * (py - ay)) ((by' - ay) * (px - ax)) A W f1 f2 f3 hA (hA ▸ f5))
  have U := Lib.hid (And.intro (fits_u h1 h3) (And.intro (fits_u h2 h6) (And.intro (fits_u h2 h4) (fits_u h1 h5))))
  generalize (bx - ax) * (py - ay) = k at *
  generalize (by' - ay) * (px - ax) = m at *
  clear f1 f2 f3 f4 f5 hA h1 h2 h3 h4 h5 h6
  go_enter Try.func55, Try.ntmps55
  go_wp2_with fail
  refine wp_gen (S := fun W => St w W (PaL w ax ay bx by' px py) ∧ BW W (w.heap.size + 1 + 1 + 1) [.int .i64 0, .int .u64 0])
    ⟨pa_new ((((BW.new w w.heap.size [_, _] _ rfl).alloc _).alloc _).alloc _) (((BW.new _ _ [_, _] _ (by simp)).alloc _).alloc _) ((BW.new _ _ [_, _] _ (by simp)).alloc _) (by repeat (first | exact Below.refl _ _ | assumption | refine Below.setCell ?_ (by first | omega | (simp; done) | (simp; omega)) _ | refine Below.alloc ?_ (by first | omega | (simp; done) | (simp; omega)) _ | refine below_drewN ?_ _ | refine Below.drew ?_ | refine Below.trans ?_ (Below.mono (by assumption) (by first | omega | (simp; done) | (simp; omega))))), BW.new _ _ [_, _] _ (by simp)⟩ (fun W0 hS => ?_)
  have K0 := Lib.hid hS.1.drew
  have V0 := Lib.hid hS.2.drew
  clear hS
  refine wp_region_held_drew (S := fun W => (W.cell? ⟨w.heap.size, 0, none⟩ = some (.int .i64 ax) ∧ W.cell? ⟨w.heap.size, 1, none⟩ = some (.int .i64 ay)) ∧ (W.cell? ⟨w.heap.size + 1, 0, none⟩ = some (.int .i64 bx) ∧ W.cell? ⟨w.heap.size + 1, 1, none⟩ = some (.int .i64 by')) ∧ (W.cell? ⟨w.heap.size + 1 + 1, 0, none⟩ = some (.int .i64 px) ∧ W.cell? ⟨w.heap.size + 1 + 1, 1, none⟩ = some (.int .i64 py))) (by kernel_rfl) (pa_sv K0.out) (fun hHeld => ?_)
  generalize W0.drew = w0 at *
  refine tkD 0 7 (v := ?_) ?_ hHeld ?_
  rotate_left 1
  (intro W hSw; (try dsimp only at hSw); go_simp; try with_reducible rfl)
  (try simp only [putA, putB, putC, putD])
  refine tkD 1 8 (v := ?_) ?_ hHeld ?_
  rotate_left 1
  (intro W hSw; (try dsimp only at hSw); go_simp; try with_reducible rfl)
  (try simp only [putA, putB, putC, putD])
  refine tkD 2 9 (v := ?_) ?_ hHeld ?_
  rotate_left 1
  (intro W hSw; (try dsimp only at hSw); go_simp; try with_reducible rfl)
  (try simp only [putA, putB, putC, putD])
  refine tkD 3 10 (v := ?_) ?_ hHeld ?_
  rotate_left 1
  (intro W hSw; (try dsimp only at hSw); go_simp; try with_reducible rfl)
  (try simp only [putA, putB, putC, putD])
  refine tkD 4 11 (v := ?_) ?_ hHeld ?_
  rotate_left 1
  (intro W hSw; (try dsimp only at hSw); go_simp; try with_reducible rfl)
  (try simp only [putA, putB, putC, putD])
  refine tkD 5 12 (v := ?_) ?_ hHeld ?_
  rotate_left 1
  (intro W hSw; (try dsimp only at hSw); go_simp; try with_reducible rfl)
  (try simp only [putA, putB, putC, putD])
  refine tkD 6 13 (v := ?_) ?_ hHeld ?_
  rotate_left 1
  (intro W hSw; (try dsimp only at hSw); go_simp; try with_reducible rfl)
  (try simp only [putA, putB, putC, putD])
  refine tkD 7 14 (v := ?_) ?_ hHeld ?_
  rotate_left 1
  (intro W hSw; (try dsimp only at hSw); go_simp; try with_reducible rfl)
  (try simp only [putA, putB, putC, putD])
  refine tkD 8 15 (v := ?_) ?_ hHeld ?_
  rotate_left 1
  (intro W hSw; (try dsimp only at hSw); go_simp; try with_reducible rfl)
  (try simp only [putA, putB, putC, putD])
  refine tkD 9 16 (v := ?_) ?_ hHeld ?_
  rotate_left 1
  (intro W hSw; (try dsimp only at hSw); go_simp; try with_reducible rfl)
  (try simp only [putA, putB, putC, putD])
  refine tkD 11 18 (v := ?_) ?_ hHeld ?_
  rotate_left 1
  (intro W hSw; (try dsimp only at hSw); go_simp; try with_reducible rfl)
  (try simp only [putA, putB, putC, putD])
  refine tkD 12 19 (v := ?_) ?_ hHeld ?_
  rotate_left 1
  (intro W hSw; (try dsimp only at hSw); go_simp; try with_reducible rfl)
  (try simp only [putA, putB, putC, putD])
  refine tkD 13 20 (v := ?_) ?_ hHeld ?_
  rotate_left 1
  (intro W hSw; (try dsimp only at hSw); go_simp; try with_reducible rfl)
  (try simp only [putA, putB, putC, putD])
  refine tkD 14 21 (v := ?_) ?_ hHeld ?_
  rotate_left 1
  (intro W hSw; (try dsimp only at hSw); go_simp; try with_reducible rfl)
  (try simp only [putA, putB, putC, putD])
  refine tkD 15 22 (v := ?_) ?_ hHeld ?_
  rotate_left 1
  (intro W hSw; (try dsimp only at hSw); go_simp; try with_reducible rfl)
  (try simp only [putA, putB, putC, putD])
  refine tkD 16 23 (v := ?_) ?_ hHeld ?_
  rotate_left 1
  (intro W hSw; (try dsimp only at hSw); go_simp; try with_reducible rfl)
  (try simp only [putA, putB, putC, putD])
  refine tkD 17 24 (v := ?_) ?_ hHeld ?_
  rotate_left 1
  (intro W hSw; (try dsimp only at hSw); go_simp; try with_reducible rfl)
  (try simp only [putA, putB, putC, putD])
  refine tkD 18 25 (v := ?_) ?_ hHeld ?_
  rotate_left 1
  (intro W hSw; (try dsimp only at hSw); go_simp; try with_reducible rfl)
  (try simp only [putA, putB, putC, putD])
  refine tkD 19 26 (v := ?_) ?_ hHeld ?_
  rotate_left 1
  (intro W hSw; (try dsimp only at hSw); go_simp; try with_reducible rfl)
  (try simp only [putA, putB, putC, putD])
  refine tkD 20 27 (v := ?_) ?_ hHeld ?_
  rotate_left 1
  (intro W hSw; (try dsimp only at hSw); go_simp; try with_reducible rfl)
  (try simp only [putA, putB, putC, putD])
  rw [U.out.1, U.out.2.1, U.out.2.2.1, U.out.2.2.2]
  refine onlD 10 (fun K hK => ?_)
  go_simp
  refine (X1.out _).mono ?_
  rintro e w1 ⟨rfl, h⟩
  have K1 := Lib.hid (K0.out.step h)
  have V1 := Lib.hid (V0.out.below h V0.out.lt)
  go_wp2_with fail
  refine hK.out _ _ (pa_sv K1.out) ?_
  clear hK K hHeld
  intro hHeld
  clear h K0 V0
  refine onlD 21 (fun K hK => ?_)
  go_simp
  refine (X2.out _).mono ?_
  rintro e w2 ⟨rfl, h⟩
  have K2 := Lib.hid (K1.out.step h)
  have V2 := Lib.hid (V1.out.below h V1.out.lt)
  go_wp2_with fail
  refine hK.out _ _ (pa_sv K2.out) ?_
  clear hK K hHeld
  intro hHeld
  clear h K1 V1
  refine onlD 22 (fun K hK => ?_)
  go_simp
  refine (X4.out _).mono ?_
  rintro e w3 ⟨rfl, h⟩
  have K3 := Lib.hid (K2.out.step h)
  have V3 := Lib.hid (V2.out.below h V2.out.lt)
  go_wp2_with fail
  refine hK.out _ _ (pa_sv K3.out) ?_
  clear hK K hHeld
  intro hHeld
  clear h K2 V2
  clear X1 X2 X4
  have r0 := V3.out.c 0 _ rfl
  have r1 := V3.out.c 1 _ rfl
  have rf := V3.out.f
  refine wpAnyH_onlyD 23 (by kernel_rfl) (fun o ho K hK => ?_) (by kernel_rfl)
  simp only [List.getElem?_toArray, List.getElem?_cons_succ, List.getElem?_cons_zero, Option.some.injEq] at ho
  subst ho
  go_simp
  refine hK.out _ _ (pa_sv (pa_far K3.out (by omega) _ _)) ?_
  clear hK K hHeld
  intro hHeld
  refine wpAnyH_done (by kernel_rfl) ?_ _
  go_wp2
  exact bodyPost_ret (v := .agg #[.int .i64 (hiW A), .int .u64 (loW A)]) (by simp [results, Try.results55, go_sem, r0, r1]) rfl ⟨rfl, below_put2 K3.out.l (by omega) _ _⟩
set_option maxRecDepth 100000 in
set_option maxHeartbeats 4000000 in
theorem plDot_any (ax ay bx by' px py A : Int) (w : World) (h1 : Rg ax) (h2 : Rg ay) (h3 : Rg bx) (h4 : Rg by') (h5 : Rg px) (h6 : Rg py) (hA : dotP ⟨ax, ay⟩ ⟨bx, by'⟩ ⟨px, py⟩ = A) :
    Calls Try.prog 57 #[.agg #[.int .i64 ax, .int .i64 ay], .agg #[.int .i64 bx, .int .i64 by'], .agg #[.int .i64 px, .int .i64 py]] w fun e w' => e = .returned (.agg #[.int .i64 (hiW A), .int .u64 (loW A)]) ∧ Below w.heap.size w w' := by
  obtain ⟨f1, f2, f4, f5⟩ := dotP_fit h1 h2 h3 h4 h5 h6
  have X1 := Lib.hid (fun (W : World) => plProduct_any (bx - ax) (px - ax) _ W rfl (fits_b h1 h3).1 (fits_b h1 h3).2 (fits_b h1 h5).1 (fits_b h1 h5).2)
  have X2 := Lib.hid (fun (W : World) => plProduct_any (by' - ay) (py - ay) _ W rfl (fits_b h2 h4).1 (fits_b h2 h4).2 (fits_b h2 h6).1 (fits_b h2 h6).2)
  have X4 := Lib.hid (fun (W : World) => plPlus_any ((bx - ax) * (px - ax)) ((by' - ay) * (py - ay)) A W f1 f2 hA (hA ▸ f5))
  have U := Lib.hid (And.intro (fits_u h1 h3) (And.intro (fits_u h1 h5) (And.intro (fits_u h2 h4) (fits_u h2 h6))))
  generalize (bx - ax) * (px - ax) = k at *
  generalize (by' - ay) * (py - ay) = m at *
  clear f1 f2 f4 f5 hA h1 h2 h3 h4 h5 h6
  go_enter Try.func57, Try.ntmps57
  go_wp2_with fail
  refine wp_gen (S := fun W => St w W (PaL w ax ay bx by' px py) ∧ BW W (w.heap.size + 1 + 1 + 1) [.int .i64 0, .int .u64 0])
    ⟨pa_new ((((BW.new w w.heap.size [_, _] _ rfl).alloc _).alloc _).alloc _) (((BW.new _ _ [_, _] _ (by simp)).alloc _).alloc _) ((BW.new _ _ [_, _] _ (by simp)).alloc _) (by repeat (first | exact Below.refl _ _ | assumption | refine Below.setCell ?_ (by first | omega | (simp; done) | (simp; omega)) _ | refine Below.alloc ?_ (by first | omega | (simp; done) | (simp; omega)) _ | refine below_drewN ?_ _ | refine Below.drew ?_ | refine Below.trans ?_ (Below.mono (by assumption) (by first | omega | (simp; done) | (simp; omega))))), BW.new _ _ [_, _] _ (by simp)⟩ (fun W0 hS => ?_)
  have K0 := Lib.hid hS.1.drew
  have V0 := Lib.hid hS.2.drew
  clear hS
  refine wp_region_held_drew (S := fun W => (W.cell? ⟨w.heap.size, 0, none⟩ = some (.int .i64 ax) ∧ W.cell? ⟨w.heap.size, 1, none⟩ = some (.int .i64 ay)) ∧ (W.cell? ⟨w.heap.size + 1, 0, none⟩ = some (.int .i64 bx) ∧ W.cell? ⟨w.heap.size + 1, 1, none⟩ = some (.int .i64 by')) ∧ (W.cell? ⟨w.heap.size + 1 + 1, 0, none⟩ = some (.int .i64 px) ∧ W.cell? ⟨w.heap.size + 1 + 1, 1, none⟩ = some (.int .i64 py))) (by kernel_rfl) (pa_sv K0.out) (fun hHeld => ?_)
  generalize W0.drew = w0 at *
  refine tkD 0 7 (v := ?_) ?_ hHeld ?_
  rotate_left 1
  (intro W hSw; (try dsimp only at hSw); go_simp; try with_reducible rfl)
  (try simp only [putA, putB, putC, putD])
  refine tkD 1 8 (v := ?_) ?_ hHeld ?_
  rotate_left 1
  (intro W hSw; (try dsimp only at hSw); go_simp; try with_reducible rfl)
  (try simp only [putA, putB, putC, putD])
  refine tkD 2 9 (v := ?_) ?_ hHeld ?_
  rotate_left 1
  (intro W hSw; (try dsimp only at hSw); go_simp; try with_reducible rfl)
  (try simp only [putA, putB, putC, putD])
  refine tkD 3 10 (v := ?_) ?_ hHeld ?_
  rotate_left 1
  (intro W hSw; (try dsimp only at hSw); go_simp; try with_reducible rfl)
  (try simp only [putA, putB, putC, putD])
  refine tkD 4 11 (v := ?_) ?_ hHeld ?_
  rotate_left 1
  (intro W hSw; (try dsimp only at hSw); go_simp; try with_reducible rfl)
  (try simp only [putA, putB, putC, putD])
  refine tkD 5 12 (v := ?_) ?_ hHeld ?_
  rotate_left 1
  (intro W hSw; (try dsimp only at hSw); go_simp; try with_reducible rfl)
  (try simp only [putA, putB, putC, putD])
  refine tkD 6 13 (v := ?_) ?_ hHeld ?_
  rotate_left 1
  (intro W hSw; (try dsimp only at hSw); go_simp; try with_reducible rfl)
  (try simp only [putA, putB, putC, putD])
  refine tkD 7 14 (v := ?_) ?_ hHeld ?_
  rotate_left 1
  (intro W hSw; (try dsimp only at hSw); go_simp; try with_reducible rfl)
  (try simp only [putA, putB, putC, putD])
  refine tkD 8 15 (v := ?_) ?_ hHeld ?_
  rotate_left 1
  (intro W hSw; (try dsimp only at hSw); go_simp; try with_reducible rfl)
  (try simp only [putA, putB, putC, putD])
  refine tkD 9 16 (v := ?_) ?_ hHeld ?_
  rotate_left 1
  (intro W hSw; (try dsimp only at hSw); go_simp; try with_reducible rfl)
  (try simp only [putA, putB, putC, putD])
  refine tkD 11 18 (v := ?_) ?_ hHeld ?_
  rotate_left 1
  (intro W hSw; (try dsimp only at hSw); go_simp; try with_reducible rfl)
  (try simp only [putA, putB, putC, putD])
  refine tkD 12 19 (v := ?_) ?_ hHeld ?_
  rotate_left 1
  (intro W hSw; (try dsimp only at hSw); go_simp; try with_reducible rfl)
  (try simp only [putA, putB, putC, putD])
  refine tkD 13 20 (v := ?_) ?_ hHeld ?_
  rotate_left 1
  (intro W hSw; (try dsimp only at hSw); go_simp; try with_reducible rfl)
  (try simp only [putA, putB, putC, putD])
  refine tkD 14 21 (v := ?_) ?_ hHeld ?_
  rotate_left 1
  (intro W hSw; (try dsimp only at hSw); go_simp; try with_reducible rfl)
  (try simp only [putA, putB, putC, putD])
  refine tkD 15 22 (v := ?_) ?_ hHeld ?_
  rotate_left 1
  (intro W hSw; (try dsimp only at hSw); go_simp; try with_reducible rfl)
  (try simp only [putA, putB, putC, putD])
  refine tkD 16 23 (v := ?_) ?_ hHeld ?_
  rotate_left 1
  (intro W hSw; (try dsimp only at hSw); go_simp; try with_reducible rfl)
  (try simp only [putA, putB, putC, putD])
  refine tkD 17 24 (v := ?_) ?_ hHeld ?_
  rotate_left 1
  (intro W hSw; (try dsimp only at hSw); go_simp; try with_reducible rfl)
  (try simp only [putA, putB, putC, putD])
  refine tkD 18 25 (v := ?_) ?_ hHeld ?_
  rotate_left 1
  (intro W hSw; (try dsimp only at hSw); go_simp; try with_reducible rfl)
  (try simp only [putA, putB, putC, putD])
  refine tkD 19 26 (v := ?_) ?_ hHeld ?_
  rotate_left 1
  (intro W hSw; (try dsimp only at hSw); go_simp; try with_reducible rfl)
  (try simp only [putA, putB, putC, putD])
  refine tkD 20 27 (v := ?_) ?_ hHeld ?_
  rotate_left 1
  (intro W hSw; (try dsimp only at hSw); go_simp; try with_reducible rfl)
  (try simp only [putA, putB, putC, putD])
  rw [U.out.1, U.out.2.1, U.out.2.2.1, U.out.2.2.2]
  refine onlD 10 (fun K hK => ?_)
  go_simp
  refine (X1.out _).mono ?_
  rintro e w1 ⟨rfl, h⟩
  have K1 := Lib.hid (K0.out.step h)
  have V1 := Lib.hid (V0.out.below h V0.out.lt)
  go_wp2_with fail
  refine hK.out _ _ (pa_sv K1.out) ?_
  clear hK K hHeld
  intro hHeld
  clear h K0 V0
  refine onlD 21 (fun K hK => ?_)
  go_simp
  refine (X2.out _).mono ?_
  rintro e w2 ⟨rfl, h⟩
  have K2 := Lib.hid (K1.out.step h)
  have V2 := Lib.hid (V1.out.below h V1.out.lt)
  go_wp2_with fail
  refine hK.out _ _ (pa_sv K2.out) ?_
  clear hK K hHeld
  intro hHeld
  clear h K1 V1
  refine onlD 22 (fun K hK => ?_)
  go_simp
  refine (X4.out _).mono ?_
  rintro e w3 ⟨rfl, h⟩
  have K3 := Lib.hid (K2.out.step h)
  have V3 := Lib.hid (V2.out.below h V2.out.lt)
  go_wp2_with fail
  refine hK.out _ _ (pa_sv K3.out) ?_
  clear hK K hHeld
  intro hHeld
  clear h K2 V2
  clear X1 X2 X4
  have r0 := V3.out.c 0 _ rfl
  have r1 := V3.out.c 1 _ rfl
  have rf := V3.out.f
  refine wpAnyH_onlyD 23 (by kernel_rfl) (fun o ho K hK => ?_) (by kernel_rfl)
  simp only [List.getElem?_toArray, List.getElem?_cons_succ, List.getElem?_cons_zero, Option.some.injEq] at ho
  subst ho
  go_simp
  refine hK.out _ _ (pa_sv (pa_far K3.out (by omega) _ _)) ?_
  clear hK K hHeld
  intro hHeld
  refine wpAnyH_done (by kernel_rfl) ?_ _
  go_wp2
  exact bodyPost_ret (v := .agg #[.int .i64 (hiW A), .int .u64 (loW A)]) (by simp [results, Try.results57, go_sem, r0, r1]) rfl ⟨rfl, below_put2 K3.out.l (by omega) _ _⟩
theorem cmp_sgn' (n : Int) : cmpI n 0 = sgnA n := by
  unfold cmpI sgnA
  split <;> (try split) <;> (try split) <;> omega
theorem sgnA_nn {n : Int} : 0 ≤ sgnA n ↔ 0 ≤ n := by unfold sgnA; split <;> (try split) <;> omega
set_option maxHeartbeats 2000000 in
theorem plBeside_any (ax ay bx by' px py : Int) (w : World) (h1 : Rg ax) (h2 : Rg ay) (h3 : Rg bx) (h4 : Rg by') (h5 : Rg px) (h6 : Rg py) :
    Calls Try.prog 53 #[.agg #[.int .i64 ax, .int .i64 ay], .agg #[.int .i64 bx, .int .i64 by'], .agg #[.int .i64 px, .int .i64 py]] w fun e w' => e = .returned (.bool (decide (0 ≤ dotP ⟨ax, ay⟩ ⟨bx, by'⟩ ⟨px, py⟩ ∧ 0 ≤ dotP ⟨bx, by'⟩ ⟨ax, ay⟩ ⟨px, py⟩))) ∧ Below w.heap.size w w' := by
  have X1 := Lib.hid (fun (W : World) => plDot_any ax ay bx by' px py _ W h1 h2 h3 h4 h5 h6 rfl)
  have X2 := Lib.hid (fun (W : World) => plDot_any bx by' ax ay px py _ W h3 h4 h1 h2 h5 h6 rfl)
  have Y1 := Lib.hid (fun (W : World) => Sign_n _ W (dotP_fit h1 h2 h3 h4 h5 h6).2.2.2)
  have Y2 := Lib.hid (fun (W : World) => Sign_n _ W (dotP_fit h3 h4 h1 h2 h5 h6).2.2.2)
  clear h1 h2 h3 h4 h5 h6
  rw [cmp_sgn'] at Y1 Y2
  obtain ⟨r, hr⟩ : ∃ r, decide (0 ≤ dotP ⟨ax, ay⟩ ⟨bx, by'⟩ ⟨px, py⟩ ∧ 0 ≤ dotP ⟨bx, by'⟩ ⟨ax, ay⟩ ⟨px, py⟩) = r := ⟨_, rfl⟩
  rw [hr]
  generalize dotP ⟨ax, ay⟩ ⟨bx, by'⟩ ⟨px, py⟩ = d at *
  generalize dotP ⟨bx, by'⟩ ⟨ax, ay⟩ ⟨px, py⟩ = f at *
  rw [show decide (0 ≤ d ∧ 0 ≤ f) = decide (0 ≤ sgnA d ∧ 0 ≤ sgnA f) by rw [decide_eq_decide, sgnA_nn, sgnA_nn]] at hr
  have R := Lib.hid hr
  clear hr
  generalize sgnA d = u at *
  generalize sgnA f = v at *
  go_enter Try.func53, Try.ntmps53
  go_wp2_with fail
  refine calls_gen (S := fun W => St w W (PaL w ax ay bx by' px py)) (pa_new (((BW.new w w.heap.size [_, _] _ rfl).alloc _).alloc _) ((BW.new _ _ [_, _] _ (by simp)).alloc _) (BW.new _ _ [_, _] _ (by simp)) (by repeat (first | exact Below.refl _ _ | assumption | refine Below.setCell ?_ (by first | omega | (simp; done) | (simp; omega)) _ | refine Below.alloc ?_ (by first | omega | (simp; done) | (simp; omega)) _ | refine below_drewN ?_ _ | refine Below.drew ?_ | refine Below.trans ?_ (Below.mono (by assumption) (by first | omega | (simp; done) | (simp; omega)))))) (fun W0 hS => ?_)
  have K0 := Lib.hid hS
  clear hS
  refine (X1.out _).mono ?_
  rintro e w1 ⟨rfl, h⟩
  have K1 := Lib.hid (K0.out.step h)
  clear h K0 X1
  go_wp2_with fail
  refine (Y1.out _).mono ?_
  rintro e w2 ⟨rfl, h⟩
  have K2 := Lib.hid (K1.out.step h)
  clear h K1 Y1
  by_cases hu : 0 ≤ u
  · obtain ⟨⟨a0, a1⟩, ⟨b0, b1⟩, ⟨p0, p1⟩⟩ := pa_sv K2.out
    have E := Lib.hid (show decide (0 ≤ v) = r by rw [← R.out, decide_eq_decide]; exact ⟨fun k => ⟨hu, k⟩, fun k => k.2⟩)
    clear R
    go_wp2_with fail
    refine (X2.out _).mono ?_
    rintro e w3 ⟨rfl, h⟩
    have K3 := Lib.hid (K2.out.step h)
    clear h K2 X2 a0 a1 b0 b1 p0 p1
    go_wp2_with fail
    refine (Y2.out _).mono ?_
    rintro e w4 ⟨rfl, h⟩
    have K4 := Lib.hid (K3.out.step h)
    clear h K3 Y2
    go_wp2
    go_ret
    exact ⟨by rw [← E.out]; rfl, K4.out.l⟩
  · have E := Lib.hid (show false = r by rw [← R.out]; symm; rw [decide_eq_false_iff_not]; exact fun k => hu k.1)
    clear R
    go_wp2
    go_ret
    exact ⟨by rw [← E.out]; rfl, K2.out.l⟩
set_option maxHeartbeats 2000000 in
theorem plSide_any (ax ay bx by' px py : Int) (w : World) :
    Calls Try.prog 41 #[.agg #[.int .i64 ax, .int .i64 ay], .agg #[.int .i64 bx, .int .i64 by'], .agg #[.int .i64 px, .int .i64 py]] w fun e w' => e = .returned (.int .i64 (sideP ⟨ax, ay⟩ ⟨bx, by'⟩ ⟨px, py⟩)) ∧ Below w.heap.size w w' := by
  by_cases h : (Rg ax ∧ Rg ay) ∧ (Rg bx ∧ Rg by') ∧ (Rg px ∧ Rg py)
  · have N := Lib.hid (show nearL [⟨ax, ay⟩, ⟨bx, by'⟩, ⟨px, py⟩] = true by rw [nearL3]; exact decide_eq_true h)
    have E := Lib.hid (show sgnA (area ⟨ax, ay⟩ ⟨bx, by'⟩ ⟨px, py⟩) = sideP ⟨ax, ay⟩ ⟨bx, by'⟩ ⟨px, py⟩ from (if_pos (show Pt.near ⟨ax, ay⟩ ∧ Pt.near ⟨bx, by'⟩ ∧ Pt.near ⟨px, py⟩ from h)).symm)
    have F := area_fit h.1.1 h.1.2 h.2.1.1 h.2.1.2 h.2.2.1 h.2.2.2
    have X := Lib.hid (fun (W : World) => plArea_any ax ay bx by' px py _ W h.1.1 h.1.2 h.2.1.1 h.2.1.2 h.2.2.1 h.2.2.2 rfl)
    have S := Lib.hid (fun (W : World) => Sign_n (area ⟨ax, ay⟩ ⟨bx, by'⟩ ⟨px, py⟩) W F.2.2.2.2)
    rw [cmp_sgn', E.out] at S
    generalize sideP ⟨ax, ay⟩ ⟨bx, by'⟩ ⟨px, py⟩ = r at *
    generalize area ⟨ax, ay⟩ ⟨bx, by'⟩ ⟨px, py⟩ = A at *
    clear F E h
    go_enter Try.func41, Try.ntmps41
    go_wp2_with fail
    refine calls_gen (S := fun W => St w W (PaL w ax ay bx by' px py) ∧ PW W (w.heap.size + 1 + 1 + 1) [⟨ax, ay⟩, ⟨bx, by'⟩, ⟨px, py⟩])
      ⟨pa_new ((((BW.new w w.heap.size [_, _] _ rfl).alloc _).alloc _).alloc _) (((BW.new _ _ [_, _] _ (by simp)).alloc _).alloc _) ((BW.new _ _ [_, _] _ (by simp)).alloc _) (by repeat (first | exact Below.refl _ _ | assumption | refine Below.setCell ?_ (by first | omega | (simp; done) | (simp; omega)) _ | refine Below.alloc ?_ (by first | omega | (simp; done) | (simp; omega)) _ | refine below_drewN ?_ _ | refine Below.drew ?_ | refine Below.trans ?_ (Below.mono (by assumption) (by first | omega | (simp; done) | (simp; omega))))), PW.three (BW.new _ _ [_, _, _, _, _, _] _ (by simp))⟩ (fun W0 hS => ?_)
    have K0 := Lib.hid hS.1
    refine (plWithin_any _ 3 _ _ rfl (by omega) hS.2).mono ?_
    clear hS
    rintro e w1 ⟨rfl, h⟩
    have K1 := Lib.hid (K0.out.step h)
    clear h K0
    rw [N.out]
    obtain ⟨⟨a0, a1⟩, ⟨b0, b1⟩, ⟨p0, p1⟩⟩ := pa_sv K1.out
    go_wp2_with fail
    refine (X.out _).mono ?_
    rintro e w2 ⟨rfl, h⟩
    have K2 := Lib.hid (K1.out.step h)
    clear h K1 X a0 a1 b0 b1 p0 p1
    go_wp2_with fail
    refine (S.out _).mono ?_
    rintro e w3 ⟨rfl, h⟩
    have K3 := Lib.hid (K2.out.step h)
    clear h K2 S
    go_wp2
    go_ret
    exact ⟨rfl, K3.out.l⟩
  · have N := Lib.hid (show nearL [⟨ax, ay⟩, ⟨bx, by'⟩, ⟨px, py⟩] = false by rw [nearL3]; exact decide_eq_false h)
    have E := Lib.hid (show (0 : Int) = sideP ⟨ax, ay⟩ ⟨bx, by'⟩ ⟨px, py⟩ from (if_neg (show ¬ (Pt.near ⟨ax, ay⟩ ∧ Pt.near ⟨bx, by'⟩ ∧ Pt.near ⟨px, py⟩) from h)).symm)
    clear h
    go_enter Try.func41, Try.ntmps41
    go_wp2_with fail
    refine calls_gen (S := fun W => St w W (PaL w ax ay bx by' px py) ∧ PW W (w.heap.size + 1 + 1 + 1) [⟨ax, ay⟩, ⟨bx, by'⟩, ⟨px, py⟩])
      ⟨pa_new ((((BW.new w w.heap.size [_, _] _ rfl).alloc _).alloc _).alloc _) (((BW.new _ _ [_, _] _ (by simp)).alloc _).alloc _) ((BW.new _ _ [_, _] _ (by simp)).alloc _) (by repeat (first | exact Below.refl _ _ | assumption | refine Below.setCell ?_ (by first | omega | (simp; done) | (simp; omega)) _ | refine Below.alloc ?_ (by first | omega | (simp; done) | (simp; omega)) _ | refine below_drewN ?_ _ | refine Below.drew ?_ | refine Below.trans ?_ (Below.mono (by assumption) (by first | omega | (simp; done) | (simp; omega))))), PW.three (BW.new _ _ [_, _, _, _, _, _] _ (by simp))⟩ (fun W0 hS => ?_)
    have K0 := Lib.hid hS.1
    refine (plWithin_any _ 3 _ _ rfl (by omega) hS.2).mono ?_
    clear hS
    rintro e w1 ⟨rfl, h⟩
    have K1 := Lib.hid (K0.out.step h)
    clear h K0
    rw [N.out]
    go_wp2
    go_ret
    exact ⟨retI E.out, K1.out.l⟩
end Go.Proofs.Ytllkhgcokbpggaa
namespace Go.Proofs.Ytllkhgcokbpggaa
open Go.RowKit
set_option linter.unusedVariables false
set_option linter.unusedSimpArgs false

/-- the blocks of four points -/
def PbL (w : World) (ax ay bx by' px py qx qy : Int) : List (Nat × List Value) := [(w.heap.size, [.int .i64 ax, .int .i64 ay]), (w.heap.size + 1, [.int .i64 bx, .int .i64 by']), (w.heap.size + 1 + 1, [.int .i64 px, .int .i64 py]), (w.heap.size + 1 + 1 + 1, [.int .i64 qx, .int .i64 qy])]
def PbS (w : World) (ax ay bx by' px py qx qy : Int) (W : World) : Prop := (W.cell? ⟨w.heap.size, 0, none⟩ = some (.int .i64 ax) ∧ W.cell? ⟨w.heap.size, 1, none⟩ = some (.int .i64 ay)) ∧ (W.cell? ⟨w.heap.size + 1, 0, none⟩ = some (.int .i64 bx) ∧ W.cell? ⟨w.heap.size + 1, 1, none⟩ = some (.int .i64 by')) ∧ (W.cell? ⟨w.heap.size + 1 + 1, 0, none⟩ = some (.int .i64 px) ∧ W.cell? ⟨w.heap.size + 1 + 1, 1, none⟩ = some (.int .i64 py)) ∧ (W.cell? ⟨w.heap.size + 1 + 1 + 1, 0, none⟩ = some (.int .i64 qx) ∧ W.cell? ⟨w.heap.size + 1 + 1 + 1, 1, none⟩ = some (.int .i64 qy))
theorem pb_sv {w W : World} {ax ay bx by' px py qx qy : Int} (k : St w W (PbL w ax ay bx by' px py qx qy)) : PbS w ax ay bx by' px py qx qy W :=
  ⟨(k.b _ _ (by unfold PbL; simp)).h2', (k.b _ _ (by unfold PbL; simp)).h2', (k.b _ _ (by unfold PbL; simp)).h2', (k.b _ _ (by unfold PbL; simp)).h2'⟩
theorem pb_new {w : World} {ax ay bx by' px py qx qy : Int} {W : World} (h0 : BW W w.heap.size [.int .i64 ax, .int .i64 ay]) (h1 : BW W (w.heap.size + 1) [.int .i64 bx, .int .i64 by']) (h2 : BW W (w.heap.size + 1 + 1) [.int .i64 px, .int .i64 py]) (h3 : BW W (w.heap.size + 1 + 1 + 1) [.int .i64 qx, .int .i64 qy]) (h : Below w.heap.size w W) : St w W (PbL w ax ay bx by' px py qx qy) :=
  St.cons h0 (St.cons h1 (St.cons h2 (St.cons h3 (St.nil h))))
theorem meets_sides {a b p q : Pt} (hn : a.near ∧ b.near ∧ p.near ∧ q.near) :
    (ovl a.x b.x p.x q.x && (ovl a.y b.y p.y q.y && (decide (sideP a b p * sideP a b q ≤ 0) && decide (sideP p q a * sideP p q b ≤ 0)))) = meetsP a b p q := by
  rw [meets_ovl hn]
  unfold sideP
  rw [if_pos ⟨hn.1, hn.2.1, hn.2.2.1⟩, if_pos ⟨hn.1, hn.2.1, hn.2.2.2⟩, if_pos ⟨hn.2.2.1, hn.2.2.2, hn.1⟩, if_pos ⟨hn.2.2.1, hn.2.2.2, hn.2.1⟩]
  rw [Bool.eq_iff_iff]
  simp only [Bool.and_eq_true, decide_eq_true_iff, sgnA_le]
  exact ⟨fun h => ⟨⟨h.1, h.2.1⟩, h.2.2⟩, fun h => ⟨h.1.1, h.1.2, h.2⟩⟩
set_option maxRecDepth 100000 in
set_option maxHeartbeats 8000000 in
theorem plMeets_any (ax ay bx by' px py qx qy : Int) (w : World) :
    Calls Try.prog 20 #[.agg #[.int .i64 ax, .int .i64 ay], .agg #[.int .i64 bx, .int .i64 by'], .agg #[.int .i64 px, .int .i64 py], .agg #[.int .i64 qx, .int .i64 qy]] w fun e w' => e = .returned (.bool (meetsP ⟨ax, ay⟩ ⟨bx, by'⟩ ⟨px, py⟩ ⟨qx, qy⟩)) ∧ Below w.heap.size w w' := by
  by_cases h : (Rg ax ∧ Rg ay) ∧ (Rg bx ∧ Rg by') ∧ (Rg px ∧ Rg py) ∧ (Rg qx ∧ Rg qy)
  · have hP : Pt.near ⟨ax, ay⟩ ∧ Pt.near ⟨bx, by'⟩ ∧ Pt.near ⟨px, py⟩ ∧ Pt.near ⟨qx, qy⟩ := h
    have N := Lib.hid (show nearL [⟨ax, ay⟩, ⟨bx, by'⟩, ⟨px, py⟩, ⟨qx, qy⟩] = true by rw [nearL4]; exact decide_eq_true h)
    have hE := meets_sides hP
    have X1 := Lib.hid (fun (W : World) => plSide_any ax ay bx by' px py W)
    have X2 := Lib.hid (fun (W : World) => plSide_any ax ay bx by' qx qy W)
    have X3 := Lib.hid (fun (W : World) => plSide_any px py qx qy ax ay W)
    have X4 := Lib.hid (fun (W : World) => plSide_any px py qx qy bx by' W)
    have m1 := mul_1 (side_in ⟨ax, ay⟩ ⟨bx, by'⟩ ⟨px, py⟩) (side_in ⟨ax, ay⟩ ⟨bx, by'⟩ ⟨qx, qy⟩)
    have m2 := mul_1 (side_in ⟨px, py⟩ ⟨qx, qy⟩ ⟨ax, ay⟩) (side_in ⟨px, py⟩ ⟨qx, qy⟩ ⟨bx, by'⟩)
    generalize meetsP ⟨ax, ay⟩ ⟨bx, by'⟩ ⟨px, py⟩ ⟨qx, qy⟩ = r at *
    generalize sideP ⟨ax, ay⟩ ⟨bx, by'⟩ ⟨px, py⟩ = s1 at *
    generalize sideP ⟨ax, ay⟩ ⟨bx, by'⟩ ⟨qx, qy⟩ = s2 at *
    generalize sideP ⟨px, py⟩ ⟨qx, qy⟩ ⟨ax, ay⟩ = s3 at *
    generalize sideP ⟨px, py⟩ ⟨qx, qy⟩ ⟨bx, by'⟩ = s4 at *
    dsimp only at hE
    have U1 := Lib.hid (show IntKind.i64.wrap (s1 * s2) = s1 * s2 from IntWalk.i64_in _ (by omega))
    have U2 := Lib.hid (show IntKind.i64.wrap (s3 * s4) = s3 * s4 from IntWalk.i64_in _ (by omega))
    obtain ⟨b1, hb1⟩ : ∃ b, decide (s1 * s2 ≤ 0) = b := ⟨_, rfl⟩
    obtain ⟨b2, hb2⟩ : ∃ b, decide (s3 * s4 ≤ 0) = b := ⟨_, rfl⟩
    rw [hb1, hb2] at hE
    have B1 := Lib.hid hb1
    have B2 := Lib.hid hb2
    clear hb1 hb2 m1 m2 h hP
    obtain ⟨o1, ho1⟩ : ∃ b, ovl ax bx px qx = b := ⟨_, rfl⟩
    obtain ⟨o2, ho2⟩ : ∃ b, ovl ay by' py qy = b := ⟨_, rfl⟩
    rw [ho1, ho2] at hE
    have O1 := Lib.hid ho1
    have O2 := Lib.hid ho2
    have E := Lib.hid hE
    clear ho1 ho2 hE
    go_enter Try.func20, Try.ntmps20
    go_wp2_with fail
    refine calls_gen (S := fun W => St w W (PbL w ax ay bx by' px py qx qy) ∧ PW W (w.heap.size + 1 + 1 + 1 + 1) [⟨ax, ay⟩, ⟨bx, by'⟩, ⟨px, py⟩, ⟨qx, qy⟩])
      ⟨pb_new (((((BW.new w w.heap.size [_, _] _ rfl).alloc _).alloc _).alloc _).alloc _) ((((BW.new _ _ [_, _] _ (by simp)).alloc _).alloc _).alloc _) (((BW.new _ _ [_, _] _ (by simp)).alloc _).alloc _) ((BW.new _ _ [_, _] _ (by simp)).alloc _) (by repeat (first | exact Below.refl _ _ | assumption | refine Below.setCell ?_ (by first | omega | (simp; done) | (simp; omega)) _ | refine Below.alloc ?_ (by first | omega | (simp; done) | (simp; omega)) _ | refine below_drewN ?_ _ | refine Below.drew ?_ | refine Below.trans ?_ (Below.mono (by assumption) (by first | omega | (simp; done) | (simp; omega))))), PW.four (BW.new _ _ [_, _, _, _, _, _, _, _] _ (by simp))⟩ (fun W0 hS => ?_)
    have K0 := Lib.hid hS.1
    refine (plWithin_any _ 4 _ _ rfl (by omega) hS.2).mono ?_
    clear hS
    rintro e w1 ⟨rfl, h⟩
    have K1 := Lib.hid (K0.out.step h)
    clear h K0
    rw [N.out]
    go_wp2_with fail
    have K0 := Lib.hid K1.out.drew
    clear K1
    refine wp_region_held_drew (S := PbS w ax ay bx by' px py qx qy) (by kernel_rfl) (pb_sv K0.out) (fun hHeld => ?_)
    generalize W0.drew = w0 at *
    unfold PbS at *
    refine tkD 0 16 (v := ?_) ?_ hHeld ?_
    rotate_left 1
    (intro W hSw; (try dsimp only at hSw); go_simp; try with_reducible rfl)
    (try simp only [putA, putB, putC, putD])
    refine tkD 1 17 (v := ?_) ?_ hHeld ?_
    rotate_left 1
    (intro W hSw; (try dsimp only at hSw); go_simp; try with_reducible rfl)
    (try simp only [putA, putB, putC, putD])
    refine tkD 2 18 (v := ?_) ?_ hHeld ?_
    rotate_left 1
    (intro W hSw; (try dsimp only at hSw); go_simp; try with_reducible rfl)
    (try simp only [putA, putB, putC, putD])
    refine tkD 3 19 (v := ?_) ?_ hHeld ?_
    rotate_left 1
    (intro W hSw; (try dsimp only at hSw); go_simp; try with_reducible rfl)
    (try simp only [putA, putB, putC, putD])
    refine tkD 4 20 (v := ?_) ?_ hHeld ?_
    rotate_left 1
    (intro W hSw; (try dsimp only at hSw); go_simp; try with_reducible rfl)
    (try simp only [putA, putB, putC, putD])
    refine tkD 5 21 (v := ?_) ?_ hHeld ?_
    rotate_left 1
    (intro W hSw; (try dsimp only at hSw); go_simp; try with_reducible rfl)
    (try simp only [putA, putB, putC, putD])
    refine tkD 6 22 (v := ?_) ?_ hHeld ?_
    rotate_left 1
    (intro W hSw; (try dsimp only at hSw); go_simp; try with_reducible rfl)
    (try simp only [putA, putB, putC, putD])
    refine tkD 7 23 (v := ?_) ?_ hHeld ?_
    rotate_left 1
    (intro W hSw; (try dsimp only at hSw); go_simp; try with_reducible rfl)
    (try simp only [putA, putB, putC, putD])
    refine onlD 8 (fun K hK => ?_)
    go_simp
    refine (plOverlap_any _ _ _ _ _).mono ?_
    rintro e w1 ⟨rfl, rfl⟩
    go_wp2_with fail
    refine hK.out _ _ (pb_sv K0.out) ?_
    clear hK K hHeld
    intro hHeld
    rw [O1.out]
    cases o1 with
    | false =>
      refine tkD 9 25 (v := ?_) ?_ hHeld ?_
      rotate_left 1
      (intro W hSw; (try dsimp only at hSw); go_simp; try with_reducible rfl)
      (try simp only [putA, putB, putC, putD])
      refine wpAnyH_skipD 10 26 (by kernel_rfl) (by kernel_rfl) (by kernel_rfl) (by kernel_rfl) (by rfl) (fun _ _ _ h => h) hHeld ?_
      (try simp only [putA, putB, putC, putD])
      refine wpAnyH_skipD 11 27 (by kernel_rfl) (by kernel_rfl) (by kernel_rfl) (by kernel_rfl) (by rfl) (fun _ _ _ h => h) hHeld ?_
      (try simp only [putA, putB, putC, putD])
      refine wpAnyH_skipD 12 28 (by kernel_rfl) (by kernel_rfl) (by kernel_rfl) (by kernel_rfl) (by rfl) (fun _ _ _ h => h) hHeld ?_
      (try simp only [putA, putB, putC, putD])
      refine wpAnyH_skipD 13 29 (by kernel_rfl) (by kernel_rfl) (by kernel_rfl) (by kernel_rfl) (by rfl) (fun _ _ _ h => h) hHeld ?_
      (try simp only [putA, putB, putC, putD])
      refine wpAnyH_skipD 14 30 (by kernel_rfl) (by kernel_rfl) (by kernel_rfl) (by kernel_rfl) (by rfl) (fun _ _ _ h => h) hHeld ?_
      (try simp only [putA, putB, putC, putD])
      refine wpAnyH_skipD 15 31 (by kernel_rfl) (by kernel_rfl) (by kernel_rfl) (by kernel_rfl) (by rfl) (fun _ _ _ h => h) hHeld ?_
      (try simp only [putA, putB, putC, putD])
      refine wpAnyH_skipD 16 32 (by kernel_rfl) (by kernel_rfl) (by kernel_rfl) (by kernel_rfl) (by rfl) (fun _ _ _ h => h) hHeld ?_
      (try simp only [putA, putB, putC, putD])
      refine wpAnyH_skipD 17 33 (by kernel_rfl) (by kernel_rfl) (by kernel_rfl) (by kernel_rfl) (by rfl) (fun _ _ _ h => h) hHeld ?_
      (try simp only [putA, putB, putC, putD])
      refine wpAnyH_skipD 18 34 (by kernel_rfl) (by kernel_rfl) (by kernel_rfl) (by kernel_rfl) (by rfl) (fun _ _ _ h => h) hHeld ?_
      (try simp only [putA, putB, putC, putD])
      refine tkD 19 35 (v := ?_) ?_ hHeld ?_
      rotate_left 1
      (intro W hSw; (try dsimp only at hSw); go_simp; try with_reducible rfl)
      (try simp only [putA, putB, putC, putD])
      refine tkD 20 36 (v := ?_) ?_ hHeld ?_
      rotate_left 1
      (intro W hSw; (try dsimp only at hSw); go_simp; try with_reducible rfl)
      (try simp only [putA, putB, putC, putD])
      refine wpAnyH_skipD 21 37 (by kernel_rfl) (by kernel_rfl) (by kernel_rfl) (by kernel_rfl) (by rfl) (fun _ _ _ h => h) hHeld ?_
      (try simp only [putA, putB, putC, putD])
      refine wpAnyH_skipD 22 38 (by kernel_rfl) (by kernel_rfl) (by kernel_rfl) (by kernel_rfl) (by rfl) (fun _ _ _ h => h) hHeld ?_
      (try simp only [putA, putB, putC, putD])
      refine wpAnyH_skipD 23 39 (by kernel_rfl) (by kernel_rfl) (by kernel_rfl) (by kernel_rfl) (by rfl) (fun _ _ _ h => h) hHeld ?_
      (try simp only [putA, putB, putC, putD])
      refine wpAnyH_skipD 24 40 (by kernel_rfl) (by kernel_rfl) (by kernel_rfl) (by kernel_rfl) (by rfl) (fun _ _ _ h => h) hHeld ?_
      (try simp only [putA, putB, putC, putD])
      refine wpAnyH_skipD 25 41 (by kernel_rfl) (by kernel_rfl) (by kernel_rfl) (by kernel_rfl) (by rfl) (fun _ _ _ h => h) hHeld ?_
      (try simp only [putA, putB, putC, putD])
      refine wpAnyH_skipD 26 42 (by kernel_rfl) (by kernel_rfl) (by kernel_rfl) (by kernel_rfl) (by rfl) (fun _ _ _ h => h) hHeld ?_
      (try simp only [putA, putB, putC, putD])
      refine wpAnyH_skipD 27 43 (by kernel_rfl) (by kernel_rfl) (by kernel_rfl) (by kernel_rfl) (by rfl) (fun _ _ _ h => h) hHeld ?_
      (try simp only [putA, putB, putC, putD])
      refine wpAnyH_skipD 28 44 (by kernel_rfl) (by kernel_rfl) (by kernel_rfl) (by kernel_rfl) (by rfl) (fun _ _ _ h => h) hHeld ?_
      (try simp only [putA, putB, putC, putD])
      refine wpAnyH_skipD 29 45 (by kernel_rfl) (by kernel_rfl) (by kernel_rfl) (by kernel_rfl) (by rfl) (fun _ _ _ h => h) hHeld ?_
      (try simp only [putA, putB, putC, putD])
      refine wpAnyH_skipD 30 46 (by kernel_rfl) (by kernel_rfl) (by kernel_rfl) (by kernel_rfl) (by rfl) (fun _ _ _ h => h) hHeld ?_
      (try simp only [putA, putB, putC, putD])
      refine tkD 31 47 (v := ?_) ?_ hHeld ?_
      rotate_left 1
      (intro W hSw; (try dsimp only at hSw); go_simp; try with_reducible rfl)
      (try simp only [putA, putB, putC, putD])
      refine tkD 32 48 (v := ?_) ?_ hHeld ?_
      rotate_left 1
      (intro W hSw; (try dsimp only at hSw); go_simp; try with_reducible rfl)
      (try simp only [putA, putB, putC, putD])
      refine wpAnyH_skipD 33 49 (by kernel_rfl) (by kernel_rfl) (by kernel_rfl) (by kernel_rfl) (by rfl) (fun _ _ _ h => h) hHeld ?_
      (try simp only [putA, putB, putC, putD])
      refine wpAnyH_skipD 34 50 (by kernel_rfl) (by kernel_rfl) (by kernel_rfl) (by kernel_rfl) (by rfl) (fun _ _ _ h => h) hHeld ?_
      (try simp only [putA, putB, putC, putD])
      refine wpAnyH_skipD 35 51 (by kernel_rfl) (by kernel_rfl) (by kernel_rfl) (by kernel_rfl) (by rfl) (fun _ _ _ h => h) hHeld ?_
      (try simp only [putA, putB, putC, putD])
      refine wpAnyH_skipD 36 52 (by kernel_rfl) (by kernel_rfl) (by kernel_rfl) (by kernel_rfl) (by rfl) (fun _ _ _ h => h) hHeld ?_
      (try simp only [putA, putB, putC, putD])
      refine wpAnyH_skipD 37 53 (by kernel_rfl) (by kernel_rfl) (by kernel_rfl) (by kernel_rfl) (by rfl) (fun _ _ _ h => h) hHeld ?_
      (try simp only [putA, putB, putC, putD])
      refine wpAnyH_skipD 38 54 (by kernel_rfl) (by kernel_rfl) (by kernel_rfl) (by kernel_rfl) (by rfl) (fun _ _ _ h => h) hHeld ?_
      (try simp only [putA, putB, putC, putD])
      refine wpAnyH_skipD 39 55 (by kernel_rfl) (by kernel_rfl) (by kernel_rfl) (by kernel_rfl) (by rfl) (fun _ _ _ h => h) hHeld ?_
      (try simp only [putA, putB, putC, putD])
      refine wpAnyH_skipD 40 56 (by kernel_rfl) (by kernel_rfl) (by kernel_rfl) (by kernel_rfl) (by rfl) (fun _ _ _ h => h) hHeld ?_
      (try simp only [putA, putB, putC, putD])
      refine wpAnyH_skipD 41 57 (by kernel_rfl) (by kernel_rfl) (by kernel_rfl) (by kernel_rfl) (by rfl) (fun _ _ _ h => h) hHeld ?_
      (try simp only [putA, putB, putC, putD])
      refine wpAnyH_skipD 42 58 (by kernel_rfl) (by kernel_rfl) (by kernel_rfl) (by kernel_rfl) (by rfl) (fun _ _ _ h => h) hHeld ?_
      (try simp only [putA, putB, putC, putD])
      refine tkD 43 59 (v := ?_) ?_ hHeld ?_
      rotate_left 1
      (intro W hSw; (try dsimp only at hSw); go_simp; try with_reducible rfl)
      (try simp only [putA, putB, putC, putD])
      refine tkD 44 8 (v := ?_) ?_ hHeld ?_
      rotate_left 1
      (intro W hSw; (try dsimp only at hSw); go_simp; try with_reducible rfl)
      (try simp only [putA, putB, putC, putD])
      refine wpAnyH_done (by kernel_rfl) ?_ _
      go_wp2
      go_ret
      exact ⟨by rw [← E.out]; rfl, K0.out.l⟩
    | true =>
      refine tkD 9 25 (v := ?_) ?_ hHeld ?_
      rotate_left 1
      (intro W hSw; (try dsimp only at hSw); go_simp; try with_reducible rfl)
      (try simp only [putA, putB, putC, putD])
      refine tkD 10 26 (v := ?_) ?_ hHeld ?_
      rotate_left 1
      (intro W hSw; (try dsimp only at hSw); go_simp; try with_reducible rfl)
      (try simp only [putA, putB, putC, putD])
      refine tkD 11 27 (v := ?_) ?_ hHeld ?_
      rotate_left 1
      (intro W hSw; (try dsimp only at hSw); go_simp; try with_reducible rfl)
      (try simp only [putA, putB, putC, putD])
      refine tkD 12 28 (v := ?_) ?_ hHeld ?_
      rotate_left 1
      (intro W hSw; (try dsimp only at hSw); go_simp; try with_reducible rfl)
      (try simp only [putA, putB, putC, putD])
      refine tkD 13 29 (v := ?_) ?_ hHeld ?_
      rotate_left 1
      (intro W hSw; (try dsimp only at hSw); go_simp; try with_reducible rfl)
      (try simp only [putA, putB, putC, putD])
      refine tkD 14 30 (v := ?_) ?_ hHeld ?_
      rotate_left 1
      (intro W hSw; (try dsimp only at hSw); go_simp; try with_reducible rfl)
      (try simp only [putA, putB, putC, putD])
      refine tkD 15 31 (v := ?_) ?_ hHeld ?_
      rotate_left 1
      (intro W hSw; (try dsimp only at hSw); go_simp; try with_reducible rfl)
      (try simp only [putA, putB, putC, putD])
      refine tkD 16 32 (v := ?_) ?_ hHeld ?_
      rotate_left 1
      (intro W hSw; (try dsimp only at hSw); go_simp; try with_reducible rfl)
      (try simp only [putA, putB, putC, putD])
      refine tkD 17 33 (v := ?_) ?_ hHeld ?_
      rotate_left 1
      (intro W hSw; (try dsimp only at hSw); go_simp; try with_reducible rfl)
      (try simp only [putA, putB, putC, putD])
      refine onlD 18 (fun K hK => ?_)
      go_simp
      refine (plOverlap_any _ _ _ _ _).mono ?_
      rintro e w2 ⟨rfl, rfl⟩
      go_wp2_with fail
      refine hK.out _ _ (pb_sv K0.out) ?_
      clear hK K hHeld
      intro hHeld
      rw [O2.out]
      cases o2 with
      | false =>
        refine tkD 19 35 (v := ?_) ?_ hHeld ?_
        rotate_left 1
        (intro W hSw; (try dsimp only at hSw); go_simp; try with_reducible rfl)
        (try simp only [putA, putB, putC, putD])
        refine tkD 20 36 (v := ?_) ?_ hHeld ?_
        rotate_left 1
        (intro W hSw; (try dsimp only at hSw); go_simp; try with_reducible rfl)
        (try simp only [putA, putB, putC, putD])
        refine wpAnyH_skipD 21 37 (by kernel_rfl) (by kernel_rfl) (by kernel_rfl) (by kernel_rfl) (by rfl) (fun _ _ _ h => h) hHeld ?_
        (try simp only [putA, putB, putC, putD])
        refine wpAnyH_skipD 22 38 (by kernel_rfl) (by kernel_rfl) (by kernel_rfl) (by kernel_rfl) (by rfl) (fun _ _ _ h => h) hHeld ?_
        (try simp only [putA, putB, putC, putD])
        refine wpAnyH_skipD 23 39 (by kernel_rfl) (by kernel_rfl) (by kernel_rfl) (by kernel_rfl) (by rfl) (fun _ _ _ h => h) hHeld ?_
        (try simp only [putA, putB, putC, putD])
        refine wpAnyH_skipD 24 40 (by kernel_rfl) (by kernel_rfl) (by kernel_rfl) (by kernel_rfl) (by rfl) (fun _ _ _ h => h) hHeld ?_
        (try simp only [putA, putB, putC, putD])
        refine wpAnyH_skipD 25 41 (by kernel_rfl) (by kernel_rfl) (by kernel_rfl) (by kernel_rfl) (by rfl) (fun _ _ _ h => h) hHeld ?_
        (try simp only [putA, putB, putC, putD])
        refine wpAnyH_skipD 26 42 (by kernel_rfl) (by kernel_rfl) (by kernel_rfl) (by kernel_rfl) (by rfl) (fun _ _ _ h => h) hHeld ?_
        (try simp only [putA, putB, putC, putD])
        refine wpAnyH_skipD 27 43 (by kernel_rfl) (by kernel_rfl) (by kernel_rfl) (by kernel_rfl) (by rfl) (fun _ _ _ h => h) hHeld ?_
        (try simp only [putA, putB, putC, putD])
        refine wpAnyH_skipD 28 44 (by kernel_rfl) (by kernel_rfl) (by kernel_rfl) (by kernel_rfl) (by rfl) (fun _ _ _ h => h) hHeld ?_
        (try simp only [putA, putB, putC, putD])
        refine wpAnyH_skipD 29 45 (by kernel_rfl) (by kernel_rfl) (by kernel_rfl) (by kernel_rfl) (by rfl) (fun _ _ _ h => h) hHeld ?_
        (try simp only [putA, putB, putC, putD])
        refine wpAnyH_skipD 30 46 (by kernel_rfl) (by kernel_rfl) (by kernel_rfl) (by kernel_rfl) (by rfl) (fun _ _ _ h => h) hHeld ?_
        (try simp only [putA, putB, putC, putD])
        refine tkD 31 47 (v := ?_) ?_ hHeld ?_
        rotate_left 1
        (intro W hSw; (try dsimp only at hSw); go_simp; try with_reducible rfl)
        (try simp only [putA, putB, putC, putD])
        refine tkD 32 48 (v := ?_) ?_ hHeld ?_
        rotate_left 1
        (intro W hSw; (try dsimp only at hSw); go_simp; try with_reducible rfl)
        (try simp only [putA, putB, putC, putD])
        refine wpAnyH_skipD 33 49 (by kernel_rfl) (by kernel_rfl) (by kernel_rfl) (by kernel_rfl) (by rfl) (fun _ _ _ h => h) hHeld ?_
        (try simp only [putA, putB, putC, putD])
        refine wpAnyH_skipD 34 50 (by kernel_rfl) (by kernel_rfl) (by kernel_rfl) (by kernel_rfl) (by rfl) (fun _ _ _ h => h) hHeld ?_
        (try simp only [putA, putB, putC, putD])
        refine wpAnyH_skipD 35 51 (by kernel_rfl) (by kernel_rfl) (by kernel_rfl) (by kernel_rfl) (by rfl) (fun _ _ _ h => h) hHeld ?_
        (try simp only [putA, putB, putC, putD])
        refine wpAnyH_skipD 36 52 (by kernel_rfl) (by kernel_rfl) (by kernel_rfl) (by kernel_rfl) (by rfl) (fun _ _ _ h => h) hHeld ?_
        (try simp only [putA, putB, putC, putD])
        refine wpAnyH_skipD 37 53 (by kernel_rfl) (by kernel_rfl) (by kernel_rfl) (by kernel_rfl) (by rfl) (fun _ _ _ h => h) hHeld ?_
        (try simp only [putA, putB, putC, putD])
        refine wpAnyH_skipD 38 54 (by kernel_rfl) (by kernel_rfl) (by kernel_rfl) (by kernel_rfl) (by rfl) (fun _ _ _ h => h) hHeld ?_
        (try simp only [putA, putB, putC, putD])
        refine wpAnyH_skipD 39 55 (by kernel_rfl) (by kernel_rfl) (by kernel_rfl) (by kernel_rfl) (by rfl) (fun _ _ _ h => h) hHeld ?_
        (try simp only [putA, putB, putC, putD])
        refine wpAnyH_skipD 40 56 (by kernel_rfl) (by kernel_rfl) (by kernel_rfl) (by kernel_rfl) (by rfl) (fun _ _ _ h => h) hHeld ?_
        (try simp only [putA, putB, putC, putD])
        refine wpAnyH_skipD 41 57 (by kernel_rfl) (by kernel_rfl) (by kernel_rfl) (by kernel_rfl) (by rfl) (fun _ _ _ h => h) hHeld ?_
        (try simp only [putA, putB, putC, putD])
        refine wpAnyH_skipD 42 58 (by kernel_rfl) (by kernel_rfl) (by kernel_rfl) (by kernel_rfl) (by rfl) (fun _ _ _ h => h) hHeld ?_
        (try simp only [putA, putB, putC, putD])
        refine tkD 43 59 (v := ?_) ?_ hHeld ?_
        rotate_left 1
        (intro W hSw; (try dsimp only at hSw); go_simp; try with_reducible rfl)
        (try simp only [putA, putB, putC, putD])
        refine tkD 44 8 (v := ?_) ?_ hHeld ?_
        rotate_left 1
        (intro W hSw; (try dsimp only at hSw); go_simp; try with_reducible rfl)
        (try simp only [putA, putB, putC, putD])
        refine wpAnyH_done (by kernel_rfl) ?_ _
        go_wp2
        go_ret
        exact ⟨by rw [← E.out]; rfl, K0.out.l⟩
      | true =>
        refine tkD 19 35 (v := ?_) ?_ hHeld ?_
        rotate_left 1
        (intro W hSw; (try dsimp only at hSw); go_simp; try with_reducible rfl)
        (try simp only [putA, putB, putC, putD])
        refine tkD 20 36 (v := ?_) ?_ hHeld ?_
        rotate_left 1
        (intro W hSw; (try dsimp only at hSw); go_simp; try with_reducible rfl)
        (try simp only [putA, putB, putC, putD])
        refine tkD 21 37 (v := ?_) ?_ hHeld ?_
        rotate_left 1
        (intro W hSw; (try dsimp only at hSw); go_simp; try with_reducible rfl)
        (try simp only [putA, putB, putC, putD])
        refine tkD 22 38 (v := ?_) ?_ hHeld ?_
        rotate_left 1
        (intro W hSw; (try dsimp only at hSw); go_simp; try with_reducible rfl)
        (try simp only [putA, putB, putC, putD])
        refine tkD 23 39 (v := ?_) ?_ hHeld ?_
        rotate_left 1
        (intro W hSw; (try dsimp only at hSw); go_simp; try with_reducible rfl)
        (try simp only [putA, putB, putC, putD])
        refine tkD 25 41 (v := ?_) ?_ hHeld ?_
        rotate_left 1
        (intro W hSw; (try dsimp only at hSw); go_simp; try with_reducible rfl)
        (try simp only [putA, putB, putC, putD])
        refine tkD 26 42 (v := ?_) ?_ hHeld ?_
        rotate_left 1
        (intro W hSw; (try dsimp only at hSw); go_simp; try with_reducible rfl)
        (try simp only [putA, putB, putC, putD])
        refine tkD 27 43 (v := ?_) ?_ hHeld ?_
        rotate_left 1
        (intro W hSw; (try dsimp only at hSw); go_simp; try with_reducible rfl)
        (try simp only [putA, putB, putC, putD])
        refine onlD 24 (fun K hK => ?_)
        go_simp
        refine (X1.out _).mono ?_
        rintro e w3 ⟨rfl, h⟩
        have K3 := Lib.hid (K0.out.step h)
        go_wp2_with fail
        refine hK.out _ _ (pb_sv K3.out) ?_
        clear hK K hHeld
        intro hHeld
        clear h K0
        refine onlD 28 (fun K hK => ?_)
        go_simp
        refine (X2.out _).mono ?_
        rintro e w4 ⟨rfl, h⟩
        have K4 := Lib.hid (K3.out.step h)
        go_wp2_with fail
        refine hK.out _ _ (pb_sv K4.out) ?_
        clear hK K hHeld
        intro hHeld
        clear h K3
        refine tkD 29 45 (v := ?_) ?_ hHeld ?_
        rotate_left 1
        (intro W hSw; (try dsimp only at hSw); go_simp; try with_reducible rfl)
        (try simp only [putA, putB, putC, putD])
        rw [U1.out]
        refine tkD 30 46 (v := ?_) ?_ hHeld ?_
        rotate_left 1
        (intro W hSw; (try dsimp only at hSw); go_simp; try with_reducible rfl)
        (try simp only [putA, putB, putC, putD])
        rw [B1.out]
        refine tkD 31 47 (v := ?_) ?_ hHeld ?_
        rotate_left 1
        (intro W hSw; (try dsimp only at hSw); go_simp; try with_reducible rfl)
        (try simp only [putA, putB, putC, putD])
        refine tkD 32 48 (v := ?_) ?_ hHeld ?_
        rotate_left 1
        (intro W hSw; (try dsimp only at hSw); go_simp; try with_reducible rfl)
        (try simp only [putA, putB, putC, putD])
        cases b1 with
        | false =>
          refine wpAnyH_skipD 33 49 (by kernel_rfl) (by kernel_rfl) (by kernel_rfl) (by kernel_rfl) (by rfl) (fun _ _ _ h => h) hHeld ?_
          (try simp only [putA, putB, putC, putD])
          refine wpAnyH_skipD 34 50 (by kernel_rfl) (by kernel_rfl) (by kernel_rfl) (by kernel_rfl) (by rfl) (fun _ _ _ h => h) hHeld ?_
          (try simp only [putA, putB, putC, putD])
          refine wpAnyH_skipD 35 51 (by kernel_rfl) (by kernel_rfl) (by kernel_rfl) (by kernel_rfl) (by rfl) (fun _ _ _ h => h) hHeld ?_
          (try simp only [putA, putB, putC, putD])
          refine wpAnyH_skipD 36 52 (by kernel_rfl) (by kernel_rfl) (by kernel_rfl) (by kernel_rfl) (by rfl) (fun _ _ _ h => h) hHeld ?_
          (try simp only [putA, putB, putC, putD])
          refine wpAnyH_skipD 37 53 (by kernel_rfl) (by kernel_rfl) (by kernel_rfl) (by kernel_rfl) (by rfl) (fun _ _ _ h => h) hHeld ?_
          (try simp only [putA, putB, putC, putD])
          refine wpAnyH_skipD 38 54 (by kernel_rfl) (by kernel_rfl) (by kernel_rfl) (by kernel_rfl) (by rfl) (fun _ _ _ h => h) hHeld ?_
          (try simp only [putA, putB, putC, putD])
          refine wpAnyH_skipD 39 55 (by kernel_rfl) (by kernel_rfl) (by kernel_rfl) (by kernel_rfl) (by rfl) (fun _ _ _ h => h) hHeld ?_
          (try simp only [putA, putB, putC, putD])
          refine wpAnyH_skipD 40 56 (by kernel_rfl) (by kernel_rfl) (by kernel_rfl) (by kernel_rfl) (by rfl) (fun _ _ _ h => h) hHeld ?_
          (try simp only [putA, putB, putC, putD])
          refine wpAnyH_skipD 41 57 (by kernel_rfl) (by kernel_rfl) (by kernel_rfl) (by kernel_rfl) (by rfl) (fun _ _ _ h => h) hHeld ?_
          (try simp only [putA, putB, putC, putD])
          refine wpAnyH_skipD 42 58 (by kernel_rfl) (by kernel_rfl) (by kernel_rfl) (by kernel_rfl) (by rfl) (fun _ _ _ h => h) hHeld ?_
          (try simp only [putA, putB, putC, putD])
          refine tkD 43 59 (v := ?_) ?_ hHeld ?_
          rotate_left 1
          (intro W hSw; (try dsimp only at hSw); go_simp; try with_reducible rfl)
          (try simp only [putA, putB, putC, putD])
          refine tkD 44 8 (v := ?_) ?_ hHeld ?_
          rotate_left 1
          (intro W hSw; (try dsimp only at hSw); go_simp; try with_reducible rfl)
          (try simp only [putA, putB, putC, putD])
          refine wpAnyH_done (by kernel_rfl) ?_ _
          go_wp2
          go_ret
          exact ⟨by rw [← E.out]; rfl, K4.out.l⟩
        | true =>
          refine tkD 33 49 (v := ?_) ?_ hHeld ?_
          rotate_left 1
          (intro W hSw; (try dsimp only at hSw); go_simp; try with_reducible rfl)
          (try simp only [putA, putB, putC, putD])
          refine tkD 34 50 (v := ?_) ?_ hHeld ?_
          rotate_left 1
          (intro W hSw; (try dsimp only at hSw); go_simp; try with_reducible rfl)
          (try simp only [putA, putB, putC, putD])
          refine tkD 35 51 (v := ?_) ?_ hHeld ?_
          rotate_left 1
          (intro W hSw; (try dsimp only at hSw); go_simp; try with_reducible rfl)
          (try simp only [putA, putB, putC, putD])
          refine tkD 37 53 (v := ?_) ?_ hHeld ?_
          rotate_left 1
          (intro W hSw; (try dsimp only at hSw); go_simp; try with_reducible rfl)
          (try simp only [putA, putB, putC, putD])
          refine tkD 38 54 (v := ?_) ?_ hHeld ?_
          rotate_left 1
          (intro W hSw; (try dsimp only at hSw); go_simp; try with_reducible rfl)
          (try simp only [putA, putB, putC, putD])
          refine tkD 39 55 (v := ?_) ?_ hHeld ?_
          rotate_left 1
          (intro W hSw; (try dsimp only at hSw); go_simp; try with_reducible rfl)
          (try simp only [putA, putB, putC, putD])
          refine onlD 36 (fun K hK => ?_)
          go_simp
          refine (X3.out _).mono ?_
          rintro e w5 ⟨rfl, h⟩
          have K5 := Lib.hid (K4.out.step h)
          go_wp2_with fail
          refine hK.out _ _ (pb_sv K5.out) ?_
          clear hK K hHeld
          intro hHeld
          clear h K4
          refine onlD 40 (fun K hK => ?_)
          go_simp
          refine (X4.out _).mono ?_
          rintro e w6 ⟨rfl, h⟩
          have K6 := Lib.hid (K5.out.step h)
          go_wp2_with fail
          refine hK.out _ _ (pb_sv K6.out) ?_
          clear hK K hHeld
          intro hHeld
          clear h K5
          refine tkD 41 57 (v := ?_) ?_ hHeld ?_
          rotate_left 1
          (intro W hSw; (try dsimp only at hSw); go_simp; try with_reducible rfl)
          (try simp only [putA, putB, putC, putD])
          rw [U2.out]
          refine tkD 42 58 (v := ?_) ?_ hHeld ?_
          rotate_left 1
          (intro W hSw; (try dsimp only at hSw); go_simp; try with_reducible rfl)
          (try simp only [putA, putB, putC, putD])
          rw [B2.out]
          refine tkD 43 59 (v := ?_) ?_ hHeld ?_
          rotate_left 1
          (intro W hSw; (try dsimp only at hSw); go_simp; try with_reducible rfl)
          (try simp only [putA, putB, putC, putD])
          refine tkD 44 8 (v := ?_) ?_ hHeld ?_
          rotate_left 1
          (intro W hSw; (try dsimp only at hSw); go_simp; try with_reducible rfl)
          (try simp only [putA, putB, putC, putD])
          refine wpAnyH_done (by kernel_rfl) ?_ _
          go_wp2
          go_ret
          exact ⟨by rw [← E.out]; rfl, K6.out.l⟩
  · have N := Lib.hid (show nearL [⟨ax, ay⟩, ⟨bx, by'⟩, ⟨px, py⟩, ⟨qx, qy⟩] = false by rw [nearL4]; exact decide_eq_false h)
    have EM := Lib.hid (show false = meetsP ⟨ax, ay⟩ ⟨bx, by'⟩ ⟨px, py⟩ ⟨qx, qy⟩ by
      symm; unfold meetsP; rw [decide_eq_false (show ¬ (Pt.near ⟨ax, ay⟩ ∧ Pt.near ⟨bx, by'⟩ ∧ Pt.near ⟨px, py⟩ ∧ Pt.near ⟨qx, qy⟩) from h)]; rfl)
    generalize meetsP ⟨ax, ay⟩ ⟨bx, by'⟩ ⟨px, py⟩ ⟨qx, qy⟩ = r at *
    clear h
    go_enter Try.func20, Try.ntmps20
    go_wp2_with fail
    refine calls_gen (S := fun W => St w W (PbL w ax ay bx by' px py qx qy) ∧ PW W (w.heap.size + 1 + 1 + 1 + 1) [⟨ax, ay⟩, ⟨bx, by'⟩, ⟨px, py⟩, ⟨qx, qy⟩])
      ⟨pb_new (((((BW.new w w.heap.size [_, _] _ rfl).alloc _).alloc _).alloc _).alloc _) ((((BW.new _ _ [_, _] _ (by simp)).alloc _).alloc _).alloc _) (((BW.new _ _ [_, _] _ (by simp)).alloc _).alloc _) ((BW.new _ _ [_, _] _ (by simp)).alloc _) (by repeat (first | exact Below.refl _ _ | assumption | refine Below.setCell ?_ (by first | omega | (simp; done) | (simp; omega)) _ | refine Below.alloc ?_ (by first | omega | (simp; done) | (simp; omega)) _ | refine below_drewN ?_ _ | refine Below.drew ?_ | refine Below.trans ?_ (Below.mono (by assumption) (by first | omega | (simp; done) | (simp; omega))))), PW.four (BW.new _ _ [_, _, _, _, _, _, _, _] _ (by simp))⟩ (fun W0 hS => ?_)
    have K0 := Lib.hid hS.1
    refine (plWithin_any _ 4 _ _ rfl (by omega) hS.2).mono ?_
    clear hS
    rintro e w1 ⟨rfl, h⟩
    have K1 := Lib.hid (K0.out.step h)
    clear h K0
    rw [N.out]
    go_wp2
    go_ret
    exact ⟨by rw [← EM.out]; rfl, K1.out.l⟩
theorem beyond_nums {A L : Int} (hA : A < 0) (h1 : 1 ≤ L) (h2 : L ≤ 1125899906842624) (h3 : -A ≤ L * 2251799813685248) :
    ∃ q, divI (-A) L = q ∧ 0 ≤ q ∧ q ≤ 2251799813685249 ∧ In128 (-A) ∧ In128 (q * L) ∧ (cmpI (q * L) (-A) < 0 → q + 1 = -(A / L)) ∧ (¬ cmpI (q * L) (-A) < 0 → q = -(A / L)) := by
  obtain ⟨n1, n2⟩ := rndN_near (n := -A) (d := L) (by omega) (by omega)
  have n0 := rndN_nn (n := -A) (d := L) (by omega) (by omega)
  obtain ⟨k1, k2⟩ := div_up (A := -A) (L := L) (q := rndN (-A) L) (by omega) (by omega) rfl
  rw [Int.neg_neg] at k1 k2
  have top : rndN (-A) L ≤ 2251799813685249 := by
    apply Classical.byContradiction; intro c
    have := Int.mul_le_mul_of_nonneg_right (show 2251799813685250 ≤ rndN (-A) L by omega) (show 0 ≤ L by omega)
    omega
  have l2 : rndN (-A) L * L ≤ 2251799813685249 * 1125899906842624 := Int.mul_le_mul top h2 (by omega) (by omega)
  have l3 := Int.mul_nonneg n0 (show 0 ≤ L by omega)
  refine ⟨rndN (-A) L, ?_, n0, top, by unfold In128; omega, by unfold In128; omega, fun h => k1 (cmpI_neg_iff.mp h), fun h => k2 (fun k => h (cmpI_neg_iff.mpr k))⟩
  unfold divI
  rw [if_neg (by omega), show ((-A).natAbs : Int) = -A by omega, show (L.natAbs : Int) = L by omega, decide_eq_false (show ¬ -A < 0 by omega), decide_eq_false (show ¬ L < 0 by omega)]
  unfold sgnI
  simp only [bne_self_eq_false, Bool.false_eq_true, if_false]
  rw [if_pos (by omega)]
set_option maxRecDepth 100000 in
set_option maxHeartbeats 4000000 in
theorem plBeyond_any (ax ay bx by' px py : Int) (w : World) :
    Calls Try.prog 37 #[.agg #[.int .i64 ax, .int .i64 ay], .agg #[.int .i64 bx, .int .i64 by'], .agg #[.int .i64 px, .int .i64 py]] w fun e w' => e = .returned (.int .i64 (beyondN ⟨ax, ay⟩ ⟨bx, by'⟩ ⟨px, py⟩)) ∧ Below w.heap.size w w' := by
  have X0 := Lib.hid (fun (W : World) => plSide_any ax ay bx by' px py W)
  by_cases hs : 0 ≤ sideP ⟨ax, ay⟩ ⟨bx, by'⟩ ⟨px, py⟩
  · have E := Lib.hid (show 0 = beyondN ⟨ax, ay⟩ ⟨bx, by'⟩ ⟨px, py⟩ by
      symm; unfold beyondN; rw [if_neg]; rintro ⟨n, a, -⟩
      unfold sideP at hs; rw [if_pos n, sgnA_nn] at hs; omega)
    generalize beyondN ⟨ax, ay⟩ ⟨bx, by'⟩ ⟨px, py⟩ = r at *
    generalize sideP ⟨ax, ay⟩ ⟨bx, by'⟩ ⟨px, py⟩ = s at *
    go_enter Try.func37, Try.ntmps37
    go_wp2_with fail
    refine calls_gen (S := fun W => Below w.heap.size w W) (by repeat (first | exact Below.refl _ _ | assumption | refine Below.setCell ?_ (by first | omega | (simp; done) | (simp; omega)) _ | refine Below.alloc ?_ (by first | omega | (simp; done) | (simp; omega)) _ | refine below_drewN ?_ _ | refine Below.drew ?_ | refine Below.trans ?_ (Below.mono (by assumption) (by first | omega | (simp; done) | (simp; omega))))) (fun W0 hS => ?_)
    have L0 := Lib.hid hS
    clear hS
    refine (X0.out _).mono ?_
    rintro e w1 ⟨rfl, h⟩
    have L1 := Lib.hid (L0.out.trans (h.mono L0.out.size))
    clear h L0 X0
    go_wp2
    go_ret
    exact ⟨by rw [← E.out]; rfl, L1.out⟩
  · have hP : Pt.near ⟨ax, ay⟩ ∧ Pt.near ⟨bx, by'⟩ ∧ Pt.near ⟨px, py⟩ := by
      apply Classical.byContradiction; intro c; unfold sideP at hs; rw [if_neg c] at hs; omega
    have hA : area ⟨ax, ay⟩ ⟨bx, by'⟩ ⟨px, py⟩ < 0 := by
      unfold sideP at hs; rw [if_pos hP, sgnA_nn] at hs; omega
    obtain ⟨t1, t2, t3, t4⟩ := area_top hP.1 hP.2.1 hP.2.2 hA
    obtain ⟨q, hq, q0, q1, i1, i2, c1, c2⟩ := beyond_nums hA t1 t2 t3
    obtain ⟨⟨g1, g2⟩, ⟨g3, g4⟩, ⟨g5, g6⟩⟩ := hP
    have HB := Lib.hid (show (if 0 ≤ dotP ⟨ax, ay⟩ ⟨bx, by'⟩ ⟨px, py⟩ ∧ 0 ≤ dotP ⟨bx, by'⟩ ⟨ax, ay⟩ ⟨px, py⟩ then -(area ⟨ax, ay⟩ ⟨bx, by'⟩ ⟨px, py⟩ / rootI (sqP ⟨ax, ay⟩ ⟨bx, by'⟩)) else 0) = beyondN ⟨ax, ay⟩ ⟨bx, by'⟩ ⟨px, py⟩ by
      unfold beyondN; simp only [show Pt.near ⟨ax, ay⟩ ∧ Pt.near ⟨bx, by'⟩ ∧ Pt.near ⟨px, py⟩ from ⟨⟨g1, g2⟩, ⟨g3, g4⟩, ⟨g5, g6⟩⟩, hA, true_and])
    have X1 := Lib.hid (fun (W : World) => plBeside_any ax ay bx by' px py W g1 g2 g3 g4 g5 g6)
    have X2 := Lib.hid (fun (W : World) => plArea_any ax ay bx by' px py _ W g1 g2 g3 g4 g5 g6 rfl)
    have X3 := Lib.hid (fun (W : World) => plMinus_any 0 (area ⟨ax, ay⟩ ⟨bx, by'⟩ ⟨px, py⟩) (-(area ⟨ax, ay⟩ ⟨bx, by'⟩ ⟨px, py⟩)) W (by unfold In128; omega) (area_fit g1 g2 g3 g4 g5 g6).2.2.2.2 i1 (by omega) i1)
    rw [show hiW 0 = 0 from rfl, show loW 0 = 0 from rfl] at X3
    have X4 := Lib.hid (fun (W : World) => plDot_any ax ay bx by' bx by' (sqP ⟨ax, ay⟩ ⟨bx, by'⟩) W g1 g2 g3 g4 g3 g4 rfl)
    have X5 := Lib.hid (fun (W : World) => Root_any _ _ (sqP ⟨ax, ay⟩ ⟨bx, by'⟩) W (isW_of t4))
    obtain ⟨o, ho⟩ : ∃ o, decide (0 ≤ dotP ⟨ax, ay⟩ ⟨bx, by'⟩ ⟨px, py⟩ ∧ 0 ≤ dotP ⟨bx, by'⟩ ⟨ax, ay⟩ ⟨px, py⟩) = o := ⟨_, rfl⟩
    have R1 := Lib.hid (fun (k : o = true) => HB.out ▸ (if_pos (of_decide_eq_true (ho.trans k))).symm)
    have R0 := Lib.hid (fun (k : o = false) => HB.out ▸ (if_neg (of_decide_eq_false (ho.trans k))).symm)
    rw [ho] at X1
    clear HB ho
    have X6 := Lib.hid (fun (W : World) => Div_any _ _ (-(area ⟨ax, ay⟩ ⟨bx, by'⟩ ⟨px, py⟩)) (rootI (sqP ⟨ax, ay⟩ ⟨bx, by'⟩)) W (isW_of i1) (by omega) (by omega))
    rw [hq] at X6
    have X7 := Lib.hid (fun (W : World) => Mul_n q (rootI (sqP ⟨ax, ay⟩ ⟨bx, by'⟩)) _ W rfl (by omega) (by omega) (by omega) (by omega))
    have X8 := Lib.hid (fun (W : World) => Cmp_n (q * rootI (sqP ⟨ax, ay⟩ ⟨bx, by'⟩)) (-(area ⟨ax, ay⟩ ⟨bx, by'⟩ ⟨px, py⟩)) W i2 i1)
    clear i1 i2 t3 t4 hA hq g1 g2 g3 g4 g5 g6
    generalize sideP ⟨ax, ay⟩ ⟨bx, by'⟩ ⟨px, py⟩ = s at *
    generalize beyondN ⟨ax, ay⟩ ⟨bx, by'⟩ ⟨px, py⟩ = r at *
    generalize area ⟨ax, ay⟩ ⟨bx, by'⟩ ⟨px, py⟩ = A at *
    generalize rootI (sqP ⟨ax, ay⟩ ⟨bx, by'⟩) = L at *
    generalize sqP ⟨ax, ay⟩ ⟨bx, by'⟩ = S at *
    generalize divB (-A) L = dB at *
    generalize cmpI (q * L) (-A) = c at *
    have uL : IntKind.i64.wrap L = L := IntWalk.i64_in _ (by omega)
    have uq : IntKind.i64.wrap (q + 1) = q + 1 := IntWalk.i64_in _ (by omega)
    have C1 := Lib.hid c1
    have C2 := Lib.hid c2
    clear c1 c2
    go_enter Try.func37, Try.ntmps37
    go_wp2_with fail
    refine calls_gen (S := fun W => St w W (PaL w ax ay bx by' px py)) (pa_new (((BW.new w w.heap.size [_, _] _ rfl).alloc _).alloc _) ((BW.new _ _ [_, _] _ (by simp)).alloc _) (BW.new _ _ [_, _] _ (by simp)) (by repeat (first | exact Below.refl _ _ | assumption | refine Below.setCell ?_ (by first | omega | (simp; done) | (simp; omega)) _ | refine Below.alloc ?_ (by first | omega | (simp; done) | (simp; omega)) _ | refine below_drewN ?_ _ | refine Below.drew ?_ | refine Below.trans ?_ (Below.mono (by assumption) (by first | omega | (simp; done) | (simp; omega)))))) (fun W0 hS => ?_)
    have K0 := Lib.hid hS
    clear hS
    refine (X0.out _).mono ?_
    rintro e w1 ⟨rfl, h⟩
    have K1 := Lib.hid (K0.out.step h)
    clear h K0 X0
    obtain ⟨⟨a0, a1⟩, ⟨b0, b1⟩, ⟨p0, p1⟩⟩ := pa_sv K1.out
    go_wp2_with fail
    refine (X1.out _).mono ?_
    rintro e w2 ⟨rfl, h⟩
    have K2 := Lib.hid (K1.out.step h)
    clear h K1 X1 a0 a1 b0 b1 p0 p1
    cases o with
    | false =>
      have R := Lib.hid (R0.out rfl)
      clear R0 R1
      go_wp2
      go_ret
      exact ⟨by rw [R.out]; rfl, K2.out.l⟩
    | true =>
      have R := Lib.hid (R1.out rfl)
      clear R0 R1
      obtain ⟨⟨a0, a1⟩, ⟨b0, b1⟩, ⟨p0, p1⟩⟩ := pa_sv K2.out
      go_wp2_with fail
      refine (X2.out _).mono ?_
      rintro e w3 ⟨rfl, h⟩
      have K3 := Lib.hid (K2.out.step h)
      clear h K2 X2 a0 a1 b0 b1 p0 p1
      go_wp2_with fail
      refine (X3.out _).mono ?_
      rintro e w4 ⟨rfl, h⟩
      have K4 := Lib.hid (K3.out.step h)
      clear h K3 X3
      obtain ⟨⟨a0, a1⟩, ⟨b0, b1⟩, ⟨p0, p1⟩⟩ := pa_sv K4.out
      have hl := pa_lt K4.out
      have hl1 : w.heap.size + 1 < w4.heap.size := by omega
      have hl2 : w.heap.size < w4.heap.size := by omega
      go_wp2_with fail
      refine calls_gen (S := fun W => St w W (PaL w ax ay bx by' px py) ∧ BW W w4.heap.size [.int .i64 (hiW (-A)), .int .u64 (loW (-A))]) ⟨K4.out.alloc _, BW.new _ _ [_, _] _ rfl⟩ (fun W1 hS => ?_)
      have K5 := Lib.hid hS.1
      have V5 := Lib.hid hS.2
      clear hS K4 a0 a1 b0 b1 p0 p1 hl hl1 hl2
      generalize w4.heap.size = n7 at *
      refine (X4.out _).mono ?_
      rintro e w6 ⟨rfl, h⟩
      have K6 := Lib.hid (K5.out.step h)
      have V6 := Lib.hid (V5.out.below h V5.out.lt)
      clear h K5 V5 X4
      go_wp2_with fail
      refine (X5.out _).mono ?_
      rintro e w7 ⟨rfl, h⟩
      have K7 := Lib.hid (K6.out.step h)
      have V7 := Lib.hid (V6.out.below h V6.out.lt)
      clear h K6 V6 X5
      obtain ⟨v0, v1⟩ := V7.out.h2'
      go_wp2_with fail
      refine (X6.out _).mono ?_
      rintro e w8 ⟨rfl, h⟩
      have K8 := Lib.hid (K7.out.step h)
      have V8 := Lib.hid (V7.out.below h V7.out.lt)
      clear h K7 V7 X6 v0 v1
      go_wp2_with fail
      have K0 := Lib.hid K8.out.drew
      have V0 := Lib.hid V8.out.drew
      clear K8 V8
      refine wp_region_held_drew (S := fun W => W.cell? ⟨n7, 0, none⟩ = some (.int .i64 (hiW (-A))) ∧ W.cell? ⟨n7, 1, none⟩ = some (.int .u64 (loW (-A)))) (by kernel_rfl) V0.out.h2' (fun hHeld => ?_)
      generalize w8.drew = w0 at *
      refine tkD 0 41 (v := ?_) ?_ hHeld ?_
      rotate_left 1
      (intro W hSw; (try dsimp only at hSw); go_simp; try with_reducible rfl)
      (try simp only [putA, putB, putC, putD])
      refine tkD 1 42 (v := ?_) ?_ hHeld ?_
      rotate_left 1
      (intro W hSw; (try dsimp only at hSw); go_simp; try with_reducible rfl)
      (try simp only [putA, putB, putC, putD])
      refine tkD 3 44 (v := ?_) ?_ hHeld ?_
      rotate_left 1
      (intro W hSw; (try dsimp only at hSw); go_simp; try with_reducible rfl)
      (try simp only [putA, putB, putC, putD])
      refine onlD 2 (fun K hK => ?_)
      go_simp
      refine (X7.out _).mono ?_
      rintro e w1 ⟨rfl, h⟩
      have K1 := Lib.hid (K0.out.step h)
      have V1 := Lib.hid (V0.out.below h V0.out.lt)
      go_wp2_with fail
      refine hK.out _ _ (V1.out.h2') ?_
      clear hK K hHeld
      intro hHeld
      clear h K0 V0 X7
      refine onlD 4 (fun K hK => ?_)
      go_simp
      refine (X8.out _).mono ?_
      rintro e w2 ⟨rfl, h⟩
      have K2 := Lib.hid (K1.out.step h)
      have V2 := Lib.hid (V1.out.below h V1.out.lt)
      go_wp2_with fail
      refine hK.out _ _ (V2.out.h2') ?_
      clear hK K hHeld
      intro hHeld
      clear h K1 V1 X8
      refine tkD 5 46 (v := ?_) ?_ hHeld ?_
      rotate_left 1
      (intro W hSw; (try dsimp only at hSw); go_simp; try with_reducible rfl)
      (try simp only [putA, putB, putC, putD])
      refine wpAnyH_done (by kernel_rfl) ?_ _
      by_cases hc : c < 0
      · have E := Lib.hid (R.out.symm.trans (C1.out hc).symm)
        clear C1 C2 R
        go_wp2
        go_ret
        exact ⟨by rw [E.out]; rfl, K2.out.l⟩
      · have E := Lib.hid (R.out.symm.trans (C2.out (by omega)).symm)
        clear C1 C2 R
        go_wp2
        go_ret
        exact ⟨by rw [E.out]; rfl, K2.out.l⟩
end Go.Proofs.Ytllkhgcokbpggaa
