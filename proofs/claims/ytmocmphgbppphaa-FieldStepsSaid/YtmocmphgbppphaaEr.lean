/- The ground's corners as numbers: the place of a height, and how high it is told. -/
import Derived.Test.YtmocmphgbppphaaBe
import Derived.Test.YtmocmphgbppphaaBm
namespace Go.Proofs.Ytmocmphgbppphaa
open Go.RowKit
set_option linter.unusedVariables false

theorem axis_corner {cell cx : Int} {C c0 : Nat} (hc : 17179869184 ≤ cell ∧ cell ≤ 274877906944) (hx : -140737488355328 ≤ cx ∧ cx ≤ 140737488355328) (h0 : 0 < C) (hC : C ≤ 64) (hk : c0 ≤ C) :
    axK (axF (cx + c0 * cell) cx) cell C = min c0 (C - 1) ∧ axD (axF (cx + c0 * cell) cx) cell C = if c0 = C then cell else 0 := by
  have p0 : 0 ≤ (c0 : Int) * cell := Int.mul_nonneg (by omega) (by omega)
  have p1 : (c0 : Int) * cell ≤ 17592186044416 := by
    have := Int.mul_le_mul (show (c0 : Int) ≤ 64 by omega) hc.2 (by omega) (by omega)
    omega
  have e1 : axF (cx + c0 * cell) cx = c0 * cell := by
    unfold axF clampF
    rw [if_neg (by omega), if_neg (by omega)]; omega
  have e2 : axK ((c0 : Int) * cell) cell C = min c0 (C - 1) := by
    unfold axK
    rw [if_neg (by omega), Int.mul_ediv_cancel _ (by omega)]; rfl
  rw [e1, e2]
  refine ⟨rfl, ?_⟩
  unfold axD
  rw [e2]
  by_cases k : c0 = C
  · rw [if_pos k, k, show min C (C - 1) = C - 1 by omega]
    obtain ⟨d, rfl⟩ : ∃ d, C = d + 1 := ⟨C - 1, by omega⟩
    have : ((d + 1 : Nat) : Int) * cell = (d : Int) * cell + cell := by push_cast; grind
    rw [show d + 1 - 1 = d by omega]
    omega
  · rw [if_neg k, show min c0 (C - 1) = c0 by omega]; omega
/-- a height's place, and how high the ground is told there -/
theorem corner_hg {t : Trk} (h : cntP t) (f : frP t) {at' : Nat} (ha : at' < t.H.n) {c0 r0 C : Nat} (hC : t.cols = (C : Int)) (hc0 : at' % (C + 1) = c0) (hr0 : at' / (C + 1) = r0) :
    -66 ≤ heightF t (t.cx + c0 * t.cell) (t.cy + r0 * t.cell) - t.H.v at' ∧ heightF t (t.cx + c0 * t.cell) (t.cy + r0 * t.cell) - t.H.v at' ≤ 66 := by
  have CR := cell_right h f (wh_ok h (t.cx + c0 * t.cell) (t.cy + r0 * t.cell))
  obtain ⟨⟨m1, m2⟩, hn, -⟩ := h
  obtain ⟨f1, f2, f3, -⟩ := f
  obtain ⟨R, hR⟩ : ∃ R : Nat, t.rows = (R : Int) := ⟨t.rows.toNat, by omega⟩
  have eC : t.cols.toNat = C := by omega
  have eR : t.rows.toNat = R := by omega
  have k0 : c0 ≤ C := by have := Nat.mod_lt at' (show 0 < C + 1 by omega); omega
  have dm := Nat.div_add_mod at' (C + 1)
  rw [hc0, hr0] at dm
  have hn' : t.H.n = (C + 1) * (R + 1) := by rw [hC, hR] at hn; exact_mod_cast hn
  have k1 : r0 ≤ R := by
    apply Classical.byContradiction; intro c
    have : (C + 1) * (R + 1) ≤ (C + 1) * r0 := Nat.mul_le_mul_left _ (by omega)
    omega
  obtain ⟨x1, x2⟩ := axis_corner (cx := t.cx) f1 f2 (show 0 < C by omega) (by omega) k0
  obtain ⟨y1, y2⟩ := axis_corner (cx := t.cy) f1 f3 (show 0 < R by omega) (by omega) k1
  obtain ⟨g1, g2, g3, g4⟩ := hg_corner CR
  unfold heightF
  have wX : whX t (t.cx + c0 * t.cell) = if c0 = C then t.cell else 0 := by unfold whX; rw [eC]; exact x2
  have wY : whY t (t.cy + r0 * t.cell) = if r0 = R then t.cell else 0 := by unfold whY; rw [eR]; exact y2
  have wK : whK t (t.cx + c0 * t.cell) = min c0 (C - 1) := by unfold whK; rw [eC]; exact x1
  have wR : whR t (t.cy + r0 * t.cell) = min r0 (R - 1) := by unfold whR; rw [eR]; exact y1
  rw [wX, wY]
  generalize whK t (t.cx + c0 * t.cell) = a at *
  generalize whR t (t.cy + r0 * t.cell) = b at *
  have eA : atC t a b = b * (C + 1) + a := by
    unfold atC; rw [hC]
    have : (b : Int) * ((C : Int) + 1) + (a : Int) = ((b * (C + 1) + a : Nat) : Int) := by push_cast; rfl
    rw [this]; rfl
  by_cases e1 : c0 = C <;> by_cases e2 : r0 = R
  · rw [if_pos e1, if_pos e2]
    have e : h11 t a b = t.H.v at' := by
      unfold h11; rw [eA, eC]
      congr 1
      have a1 : a + 1 = C := by omega
      have b1 : b + 1 = r0 := by omega
      rw [← b1] at dm
      have : (C + 1) * (b + 1) = b * (C + 1) + (C + 1) := by rw [Nat.mul_comm, Nat.add_mul, Nat.one_mul]
      omega
    rw [e] at g4 ⊢; exact g4
  · rw [if_pos e1, if_neg e2]
    have e : h10 t a b = t.H.v at' := by
      unfold h10; rw [eA]
      congr 1
      have a1 : a + 1 = C := by omega
      have b1 : b = r0 := by omega
      rw [b1, Nat.mul_comm]; omega
    rw [e] at g2 ⊢; exact g2
  · rw [if_neg e1, if_pos e2]
    have e : h01 t a b = t.H.v at' := by
      unfold h01; rw [eA, eC]
      congr 1
      have a1 : a = c0 := by omega
      have b1 : b + 1 = r0 := by omega
      rw [← b1] at dm
      have : (C + 1) * (b + 1) = b * (C + 1) + (C + 1) := by rw [Nat.mul_comm, Nat.add_mul, Nat.one_mul]
      omega
    rw [e] at g3 ⊢; exact g3
  · rw [if_neg e1, if_neg e2]
    have e : h00 t a b = t.H.v at' := by
      unfold h00; rw [eA]
      congr 1
      have a1 : a = c0 := by omega
      have b1 : b = r0 := by omega
      rw [a1, b1, Nat.mul_comm]; exact dm
    rw [e] at g1 ⊢; exact g1
/-- a height's place in Go's words -/
theorem corner_at {t : Trk} (h : cntP t) (f : frP t) {j : Nat} (hj : j < t.H.n) : ∃ c0 r0 : Nat, Int.tmod j (t.cols + 1) = c0 ∧ Int.tdiv j (t.cols + 1) = r0 ∧ (c0 ≤ 64 ∧ r0 ≤ 64) ∧ (0 ≤ (c0 : Int) * t.cell ∧ (c0 : Int) * t.cell ≤ 17592186044416) ∧ (0 ≤ (r0 : Int) * t.cell ∧ (r0 : Int) * t.cell ≤ 17592186044416) ∧
    -66 ≤ heightF t (t.cx + c0 * t.cell) (t.cy + r0 * t.cell) - t.H.v j ∧ heightF t (t.cx + c0 * t.cell) (t.cy + r0 * t.cell) - t.H.v j ≤ 66 := by
  obtain ⟨⟨m1, m2⟩, hn, -⟩ := id h
  obtain ⟨f1, f2, f3, -⟩ := id f
  obtain ⟨C, hC⟩ : ∃ C : Nat, t.cols = (C : Int) := ⟨t.cols.toNat, by omega⟩
  obtain ⟨R, hR⟩ : ∃ R : Nat, t.rows = (R : Int) := ⟨t.rows.toNat, by omega⟩
  have hn' : t.H.n = (C + 1) * (R + 1) := by rw [hC, hR] at hn; exact_mod_cast hn
  have k0 : j % (C + 1) ≤ 64 := by have := Nat.mod_lt j (show 0 < C + 1 by omega); omega
  have dm := Nat.div_add_mod j (C + 1)
  have k1 : j / (C + 1) ≤ 64 := by
    apply Classical.byContradiction; intro c
    have : (C + 1) * (R + 1) ≤ (C + 1) * (j / (C + 1)) := Nat.mul_le_mul_left _ (by omega)
    omega
  have pr : ∀ q : Nat, q ≤ 64 → 0 ≤ (q : Int) * t.cell ∧ (q : Int) * t.cell ≤ 17592186044416 := fun q hq => ⟨Int.mul_nonneg (by omega) (by omega), by
    have := Int.mul_le_mul (show (q : Int) ≤ 64 by omega) f1.2 (by omega) (by omega)
    omega⟩
  refine ⟨j % (C + 1), j / (C + 1), ?_, ?_, ⟨k0, k1⟩, pr _ k0, pr _ k1, corner_hg h f hj hC rfl rfl⟩
  · rw [hC, Int.tmod_eq_emod_of_nonneg (by omega)]; rfl
  · rw [hC, Int.tdiv_eq_ediv_of_nonneg (by omega)]; rfl
theorem abs_ok {a : Int} (h0 : -4611686018427387904 ≤ a) (h1 : a ≤ 4611686018427387904) : absO a = false ∧ (absF a = a ∨ absF a = -a) ∧ a ≤ absF a ∧ -a ≤ absF a := by
  have c := clip64_of (n := 0 - a) (by unfold In64; omega)
  unfold absO absF
  by_cases k : a < 0
  · rw [if_pos k, if_pos k]
    unfold subO subF
    rw [c.1, c.2]
    exact ⟨rfl, Or.inr (by omega), by omega, by omega⟩
  · rw [if_neg k, if_neg k]
    exact ⟨rfl, Or.inl rfl, by omega, by omega⟩
theorem sub_ok {a b : Int} (h0 : -4611686018427387904 ≤ a - b) (h1 : a - b ≤ 4611686018427387904) : subF a b = a - b ∧ subO a b = false := clip64_of (by unfold In64; omega)
theorem add_ok {a b : Int} (h0 : -4611686018427387904 ≤ a + b) (h1 : a + b ≤ 4611686018427387904) : addF a b = a + b ∧ addO a b = false := clip64_of (by unfold In64; omega)
/-- two places of one cell -/
theorem steps_num {t : Trk} (h : cntP t) (f : frP t) {x y p q : Int} (e1 : whK t x = whK t p) (e2 : whR t y = whR t q) :
    (subO (whX t x) (whX t p) = false ∧ absO (subF (whX t x) (whX t p)) = false) ∧ (subO (whY t y) (whY t q) = false ∧ absO (subF (whY t y) (whY t q)) = false) ∧
    addO (absF (subF (whX t x) (whX t p))) (absF (subF (whY t y) (whY t q))) = false ∧ addO (addF (absF (subF (whX t x) (whX t p))) (absF (subF (whY t y) (whY t q)))) 1048576 = false ∧
    (subO (heightF t x y) (heightF t p q) = false ∧ absO (subF (heightF t x y) (heightF t p q)) = false) ∧
    absF (subF (heightF t x y) (heightF t p q)) ≤ addF (addF (absF (subF (whX t x) (whX t p))) (absF (subF (whY t y) (whY t q)))) 1048576 := by
  have CR := cell_right h f (wh_ok h x y)
  have x1 := wh_offX f x
  have x2 := wh_offX f p
  have y1 := wh_offY f y
  have y2 := wh_offY f q
  have HS : ∀ u v, (-u ≤ whX t x - whX t p ∧ whX t x - whX t p ≤ u) → (u = whX t x - whX t p ∨ u = whX t p - whX t x) → (-v ≤ whY t y - whY t q ∧ whY t y - whY t q ≤ v) → (v = whY t y - whY t q ∨ v = whY t q - whY t y) → heightF t x y - heightF t p q ≤ u + v + 262144 ∧ -(u + v + 262144) ≤ heightF t x y - heightF t p q := by
    intro u v h1 h2 h3 h4
    have := hg_steps CR x1 y1 x2 y2 h1 h2 h3 h4
    unfold heightF
    rw [← e1, ← e2]
    exact this
  generalize heightF t x y = H1 at *
  generalize heightF t p q = H2 at *
  generalize whX t x = a at *
  generalize whX t p = b at *
  generalize whY t y = c at *
  generalize whY t q = d at *
  clear CR
  unfold Off at x1 x2 y1 y2
  obtain ⟨s1, o1⟩ := sub_ok (a := a) (b := b) (by omega) (by omega)
  obtain ⟨s2, o2⟩ := sub_ok (a := c) (b := d) (by omega) (by omega)
  obtain ⟨o3, c3, l3, m3⟩ := abs_ok (a := a - b) (by omega) (by omega)
  obtain ⟨o4, c4, l4, m4⟩ := abs_ok (a := c - d) (by omega) (by omega)
  rw [s1, s2]
  generalize absF (a - b) = u at *
  generalize absF (c - d) = v at *
  have K := HS u v ⟨by omega, by omega⟩ (by omega) ⟨by omega, by omega⟩ (by omega)
  obtain ⟨s5, o5⟩ := add_ok (a := u) (b := v) (by omega) (by omega)
  rw [s5]
  obtain ⟨s6, o6⟩ := add_ok (a := u + v) (b := 1048576) (by omega) (by omega)
  rw [s6]
  obtain ⟨s7, o7⟩ := sub_ok (a := H1) (b := H2) (by omega) (by omega)
  rw [s7]
  obtain ⟨o8, c8, l8, m8⟩ := abs_ok (a := H1 - H2) (by omega) (by omega)
  exact ⟨⟨o1, o3⟩, ⟨o2, o4⟩, o5, o6, ⟨o7, o8⟩, by omega⟩
end Go.Proofs.Ytmocmphgbppphaa
