/- Small whole numbers as floating-point and complex numbers. -/
import Derived.WalkLawsBesides
import Derived.Test.YtinahmhiopgcnaaProg
import Derived.Test.YtinahmhiopgcnaaBb
namespace Go.Proofs.Ytinahmhiopgcnaa
open Go.RowKit
set_option linter.unusedVariables false
set_option linter.unusedSimpArgs false

/-- a whole number's bits -/
def fz (z : Int) : Nat := floatOfInt .f64 z
theorem fz_ord : ∀ a < 66, ∀ b < 66, FloatKind.f64.format.order (fz (a : Nat)) (fz (b : Nat)) = some (compare a b) := by decide +kernel
theorem fz_sub : ∀ a < 65, ∀ b < 65, floatBits .sub .f64 (fz (a : Nat)) (fz (b : Nat)) = some (fz ((a : Int) - (b : Nat))) := by decide +kernel
theorem fz_up : ∀ a < 65, floatBits .add .f64 (fz (a : Nat)) 4607182418800017408 = some (fz ((a + 1 : Nat))) ∧ floatBits .add .f64 (fz (a : Nat)) 0 = some (fz (a : Nat)) := by decide +kernel
theorem fz_int : ∀ a < 65, floatToIntVal .f64 (fz (a : Nat)) .i64 = some ((a : Nat) : Int) ∧ floatToIntVal .f64 (fz (-(a : Int))) .i64 = some (-(a : Int)) := by decide +kernel
theorem fz_leq {a b : Nat} (ha : a < 66) (hb : b < 66) : (FloatKind.f64.format.order (fz a) (fz b) == some .lt || FloatKind.f64.format.order (fz a) (fz b) == some .eq) = decide (a ≤ b) := by
  rw [fz_ord a ha b hb]
  rcases Nat.lt_trichotomy a b with h | h | h
  · rw [Nat.compare_eq_lt.2 h, decide_eq_true (by omega)]; rfl
  · rw [Nat.compare_eq_eq.2 h, decide_eq_true (by omega)]; rfl
  · rw [Nat.compare_eq_gt.2 h, decide_eq_false (by omega)]; rfl
theorem fz_eq {a b : Nat} (ha : a < 66) (hb : b < 66) : (FloatKind.f64.format.order (fz a) (fz b) == some .eq) = decide (a = b) := by
  rw [fz_ord a ha b hb]
  rcases Nat.lt_trichotomy a b with h | h | h
  · rw [Nat.compare_eq_lt.2 h, decide_eq_false (by omega)]; rfl
  · rw [Nat.compare_eq_eq.2 h, decide_eq_true (by omega)]; rfl
  · rw [Nat.compare_eq_gt.2 h, decide_eq_false (by omega)]; rfl
section
variable {P : Program} (w : World)
theorem fz_min {a b : Nat} (ha : a < 66) (hb : b < 66) (ts : Array TypeId) (t : TypeId) : (Builtin.min_ ts t #[.float .f64 (fz a), .float .f64 (fz b)]).run P w = .ok (.float .f64 (fz ((min a b : Nat)))) w := by
  have h := fz_ord a ha b hb
  rcases Nat.lt_trichotomy a b with g | g | g
  · rw [Nat.compare_eq_lt.2 g] at h
    rw [Nat.min_eq_left (by omega)]
    simp [Builtin.min_, Builtin.min2, h]
  · rw [Nat.compare_eq_eq.2 g] at h
    rw [Nat.min_eq_left (by omega)]
    subst g
    simp [Builtin.min_, Builtin.min2, h]
  · rw [Nat.compare_eq_gt.2 g] at h
    rw [Nat.min_eq_right (by omega)]
    simp [Builtin.min_, Builtin.min2, h]
theorem fz_max {a b : Nat} (ha : a < 66) (hb : b < 66) (ts : Array TypeId) (t : TypeId) : (Builtin.max_ ts t #[.float .f64 (fz a), .float .f64 (fz b)]).run P w = .ok (.float .f64 (fz ((max a b : Nat)))) w := by
  have h := fz_ord a ha b hb
  rcases Nat.lt_trichotomy a b with g | g | g
  · rw [Nat.compare_eq_lt.2 g] at h
    rw [Nat.max_eq_right (by omega)]
    simp [Builtin.max_, Builtin.max2, h]
  · rw [Nat.compare_eq_eq.2 g] at h
    rw [Nat.max_eq_left (by omega)]
    subst g
    simp [Builtin.max_, Builtin.max2, h]
  · rw [Nat.compare_eq_gt.2 g] at h
    rw [Nat.max_eq_left (by omega)]
    simp [Builtin.max_, Builtin.max2, h]
theorem fz_csub {a b c d : Nat} (ha : a < 65) (hb : b < 65) (hc : c < 65) (hd : d < 65) (t : TypeId) : (binOp .sub t (.complex .f64 (fz a) (fz b)) (.complex .f64 (fz c) (fz d))).run P w = .ok (.complex .f64 (fz ((a : Int) - (c : Nat))) (fz ((b : Int) - (d : Nat)))) w :=
  run_complex_sum w .sub (Or.inr rfl) t .f64 _ _ _ _ _ _ (by unfold cSumBits; rw [fz_sub a ha c hc, fz_sub b hb d hd]; rfl)
theorem fz_right {a b : Nat} (ha : a < 65) (hb : b < 65) (t : TypeId) : (binOp .add t (.complex .f64 (fz a) (fz b)) (.complex .f64 4607182418800017408 0)).run P w = .ok (.complex .f64 (fz ((a + 1 : Nat))) (fz b)) w :=
  run_complex_sum w .add (Or.inl rfl) t .f64 _ _ _ _ _ _ (by unfold cSumBits; rw [(fz_up a ha).1, (fz_up b hb).2]; rfl)
theorem fz_down {a b : Nat} (ha : a < 65) (hb : b < 65) (t : TypeId) : (binOp .add t (.complex .f64 (fz a) (fz b)) (.complex .f64 0 4607182418800017408)).run P w = .ok (.complex .f64 (fz a) (fz ((b + 1 : Nat)))) w :=
  run_complex_sum w .add (Or.inl rfl) t .f64 _ _ _ _ _ _ (by unfold cSumBits; rw [(fz_up a ha).2, (fz_up b hb).1]; rfl)
theorem fz_conv {a : Nat} (ha : a < 65) (src dst : TypeId) (hs : (P.underlying src).isSome = true) (hd : P.underlying dst = some (.int .i64)) : (convert src dst (.float .f64 (fz a))).run P w = .ok (.int .i64 (a : Nat)) w :=
  run_convert_float_int w src dst .f64 .i64 _ _ hs hd (fz_int a ha).1
theorem fz_cdif {a b : Nat} (ha : a < 65) (hb : b < 65) (src dst : TypeId) (hs : (P.underlying src).isSome = true) (hd : P.underlying dst = some (.int .i64)) : (convert src dst (.float .f64 (fz ((a : Int) - (b : Nat))))).run P w = .ok (.int .i64 ((a : Int) - (b : Nat))) w := by
  refine run_convert_float_int w src dst .f64 .i64 _ _ hs hd ?_
  rcases Nat.le_total b a with h | h
  · have := (fz_int (a - b) (by omega)).1
    rw [show ((a - b : Nat) : Int) = (a : Int) - (b : Nat) by omega] at this
    exact this
  · have := (fz_int (b - a) (by omega)).2
    rw [show -((b - a : Nat) : Int) = (a : Int) - (b : Nat) by omega] at this
    exact this
end
end Go.Proofs.Ytinahmhiopgcnaa
namespace Go.Proofs.Ytinahmhiopgcnaa
open Go.RowKit
set_option linter.unusedVariables false
set_option linter.unusedSimpArgs false

theorem mulF_up {d s s' : Int} (hd : 0 ≤ d) (h : s ≤ s') : mulF d s ≤ mulF d s' := by
  unfold mulF
  exact quoF_mono (by omega) (Int.mul_le_mul_of_nonneg_left h hd)
theorem mulF_dn {d s s' : Int} (hd : d ≤ 0) (h : s ≤ s') : mulF d s' ≤ mulF d s := by
  unfold mulF
  exact quoF_mono (by omega) (Int.mul_le_mul_of_nonpos_left hd h)
theorem pnt_zero {o : Int} (d : Int) (ho : In64 o) : pntF o d 0 = o := by
  have e : mulF d 0 = 0 := by
    have : mulF d 0 = quoF 0 4294967296 := by unfold mulF; rw [Int.mul_zero]
    rw [this]; decide +kernel
  unfold pntF addF
  rw [e, Int.add_zero]
  exact (clip64_of ho).1
theorem axK_mono {d d' cell : Int} {many : Nat} (hc : 0 < cell) (h : d ≤ d') : axK d cell many ≤ axK d' cell many := by
  unfold axK
  by_cases p : d < 0
  · rw [if_pos p]; omega
  · rw [if_neg p, if_neg (by omega)]
    have q := Int.ediv_le_ediv hc h
    have q0 := Int.ediv_nonneg (show 0 ≤ d by omega) (show 0 ≤ cell by omega)
    omega
theorem axF_mono {n n' from_ : Int} (h : n ≤ n') : axF n from_ ≤ axF n' from_ := by
  unfold axF clampF
  split <;> split <;> (try split) <;> (try split) <;> omega
/-- the cell of a place of a ray is between those of both ends -/
theorem ax_between {o d s L from_ cell : Int} {many : Nat} (hc : 0 < cell) (ho : In64 o) (s0 : 0 ≤ s) (s1 : s ≤ L) :
    min (axK (axF o from_) cell many) (axK (axF (pntF o d L) from_) cell many) ≤ axK (axF (pntF o d s) from_) cell many ∧ axK (axF (pntF o d s) from_) cell many ≤ max (axK (axF o from_) cell many) (axK (axF (pntF o d L) from_) cell many) := by
  have z := pnt_zero d ho
  have add {x y : Int} (h : x ≤ y) : addF o x ≤ addF o y := by unfold addF; exact clip64_mono (by omega)
  rcases Int.le_total 0 d with hd | hd
  · have h1 : pntF o d 0 ≤ pntF o d s := add (mulF_up hd s0)
    have h2 : pntF o d s ≤ pntF o d L := add (mulF_up hd s1)
    rw [z] at h1
    have k1 := axK_mono (many := many) hc (axF_mono (from_ := from_) h1)
    have k2 := axK_mono (many := many) hc (axF_mono (from_ := from_) h2)
    omega
  · have h1 : pntF o d s ≤ pntF o d 0 := add (mulF_dn hd s0)
    have h2 : pntF o d L ≤ pntF o d s := add (mulF_dn hd s1)
    rw [z] at h1
    have k1 := axK_mono (many := many) hc (axF_mono (from_ := from_) h1)
    have k2 := axK_mono (many := many) hc (axF_mono (from_ := from_) h2)
    omega
/-- the distance as the program reckons it -/
theorem dst_max {t : Trk} {c r : Int} {up : Bool} {a : Ry} (h : stpF t c r up a < 0) : divF (if 0 < ovrF t c r up a then ovrF t c r up a else 0) (subF 0 (stpF t c r up a)) = dstF t c r up a := by
  unfold dstF
  by_cases p : 0 < ovrF t c r up a
  · rw [if_pos p, if_pos p]
  · rw [if_neg p, if_neg p]
    have n : 0 < subF 0 (stpF t c r up a) := by
      have := clip64_mono (a := 1) (b := 0 - stpF t c r up a) (by omega)
      have e : clip64 1 = 1 := by decide
      unfold subF; omega
    generalize subF 0 (stpF t c r up a) = y at *
    have := divF_mono (a := 0) (b := 0) n (Int.le_refl _)
    unfold divF quoF
    rw [if_neg (by omega), Int.zero_mul]
    have hq : rq 0 y = 0 := by
      have := rq_near (a := 0) n
      apply Classical.byContradiction; intro k
      rcases Int.lt_or_gt_of_ne k with g | g
      · have := Int.mul_le_mul_of_nonneg_right (show rq 0 y ≤ -1 by omega) (show 0 ≤ y by omega)
        omega
      · have := Int.mul_le_mul_of_nonneg_right (show 1 ≤ rq 0 y by omega) (show 0 ≤ y by omega)
        omega
    rw [hq]; decide
theorem dst_nn {t : Trk} {c r : Int} {up : Bool} {a : Ry} (h : stpF t c r up a < 0) : 0 ≤ dstF t c r up a := by
  rw [← dst_max h]
  have n : 0 < subF 0 (stpF t c r up a) := by
    have := clip64_mono (a := 1) (b := 0 - stpF t c r up a) (by omega)
    have e : clip64 1 = 1 := by decide
    unfold subF; omega
  have z : divF 0 (subF 0 (stpF t c r up a)) = 0 ∨ 0 ≤ divF 0 (subF 0 (stpF t c r up a)) := by
    right
    generalize subF 0 (stpF t c r up a) = y at *
    unfold divF quoF
    rw [if_neg (by omega), Int.zero_mul]
    have hq : 0 ≤ rq 0 y := by
      have := rq_near (a := 0) n
      apply Classical.byContradiction; intro k
      have := Int.mul_le_mul_of_nonneg_right (show rq 0 y ≤ -1 by omega) (show 0 ≤ y by omega)
      omega
    have := clip64_mono hq
    have e : clip64 0 = 0 := by decide
    omega
  have m := divF_mono n (show 0 ≤ (if 0 < ovrF t c r up a then ovrF t c r up a else 0) by split <;> omega)
  omega
/-- the ray meets a triangle, however far -/
def hitP (t : Trk) (a : Ry) (c r : Nat) (up : Bool) : Prop := stpF t c r up a < 0 ∧ inTri t c r up (pntF a.ox a.dx (dstF t c r up a)) (pntF a.oy a.dy (dstF t c r up a)) = true
theorem met_hit {t : Trk} {a : Ry} {c r : Nat} {up : Bool} : metF t c r up a = true ↔ hitP t a c r up ∧ dstF t c r up a ≤ a.long := by
  unfold metF hitP
  rw [Bool.and_eq_true, decide_eq_true_iff]
  exact ⟨fun h => ⟨⟨h.1.1, h.2⟩, h.1.2⟩, fun h => ⟨⟨h.1.1, h.2⟩, h.1.2⟩⟩
/-- what is known of the least distance when some triangles have been asked -/
structure Near (t : Trk) (a : Ry) (V : Nat → Nat → Bool → Prop) (L : Int) : Prop where
  le : L ≤ a.long + 1
  nn : 0 ≤ L
  ex : L = a.long + 1 ∨ ∃ c r up, c < t.cols.toNat ∧ r < t.rows.toNat ∧ hitP t a c r up ∧ dstF t c r up a = L
  all : ∀ c r up, V c r up → hitP t a c r up → L ≤ dstF t c r up a
theorem Near.sub {t : Trk} {a : Ry} {V V' : Nat → Nat → Bool → Prop} {L : Int} (N : Near t a V L) (h : ∀ c r up, V' c r up → V c r up) : Near t a V' L := ⟨N.le, N.nn, N.ex, fun c r up v => N.all c r up (h c r up v)⟩
/-- a triangle is asked -/
theorem Near.yes {t : Trk} {a : Ry} {V V' : Nat → Nat → Bool → Prop} {L : Int} {c r : Nat} {up : Bool} (N : Near t a V L) (hc : c < t.cols.toNat) (hr : r < t.rows.toNat) (v : ∀ c' r' up', V' c' r' up' → V c' r' up' ∨ (c' = c ∧ r' = r ∧ up' = up)) (h : hitP t a c r up) (l : dstF t c r up a < L) : Near t a V' (dstF t c r up a) :=
  ⟨by have := N.le; omega, dst_nn h.1, Or.inr ⟨c, r, up, hc, hr, h, rfl⟩, fun c' r' up' w k => by
    rcases v c' r' up' w with q | ⟨rfl, rfl, rfl⟩
    · have := N.all c' r' up' q k; omega
    · exact Int.le_refl _⟩
theorem Near.no {t : Trk} {a : Ry} {V V' : Nat → Nat → Bool → Prop} {L : Int} {c r : Nat} {up : Bool} (N : Near t a V L) (v : ∀ c' r' up', V' c' r' up' → V c' r' up' ∨ (c' = c ∧ r' = r ∧ up' = up)) (h : ¬ (hitP t a c r up ∧ dstF t c r up a < L)) : Near t a V' L :=
  ⟨N.le, N.nn, N.ex, fun c' r' up' w k => by
    rcases v c' r' up' w with q | ⟨rfl, rfl, rfl⟩
    · exact N.all c' r' up' q k
    · apply Classical.byContradiction; intro g; exact h ⟨k, by omega⟩⟩
theorem Near.start {t : Trk} {a : Ry} {V : Nat → Nat → Bool → Prop} (ha : a.may) (v : ∀ c r up, ¬ V c r up) : Near t a V (a.long + 1) :=
  ⟨Int.le_refl _, by have := ha.2.2.2.2.2.2.1; omega, Or.inl rfl, fun c r up w => absurd w (v c r up)⟩
/-- a triangle's number -/
theorem tri_at {t : Trk} (h : cntP t) {c r : Nat} (up : Bool) (hc : c < t.cols.toNat) (hr : r < t.rows.toNat) :
    ∃ i, i < casN t ∧ rcC t i = c ∧ rcR t i = r ∧ rcU i = up := by
  refine ⟨(r * t.cols.toNat + c) * 2 + up.toNat, ?_, ?_, ?_, ?_⟩
  · have : (r + 1) * t.cols.toNat ≤ t.rows.toNat * t.cols.toNat := Nat.mul_le_mul_right _ hr
    have e : (r + 1) * t.cols.toNat = r * t.cols.toNat + t.cols.toNat := Nat.succ_mul _ _
    unfold casN
    rw [Nat.mul_comm t.cols.toNat]
    cases up <;> simp <;> omega
  · unfold rcC
    have : ((r * t.cols.toNat + c) * 2 + up.toNat) / 2 = r * t.cols.toNat + c := by cases up <;> simp <;> omega
    rw [this, Nat.mul_add_mod_self_right, Nat.mod_eq_of_lt hc]
  · unfold rcR
    have : ((r * t.cols.toNat + c) * 2 + up.toNat) / 2 = r * t.cols.toNat + c := by cases up <;> simp <;> omega
    rw [this, Nat.mul_comm, Nat.mul_add_div (by omega), Nat.div_eq_of_lt hc, Nat.add_zero]
  · unfold rcU
    cases up <;> simp
theorem in_tri {t : Trk} {c r : Nat} {up : Bool} {x y : Int} (h : inTri t c r up x y = true) : whK t x = c ∧ whR t y = r ∧ decide (whX t x < whY t y) = up := by
  unfold inTri at h
  simp only [Bool.and_eq_true, decide_eq_true_iff, beq_iff_eq] at h
  exact ⟨by omega, by omega, h.2⟩
/-- what the program finds is what the document finds -/
theorem Near.done {t : Trk} {a : Ry} {V : Nat → Nat → Bool → Prop} {L : Int} (N : Near t a V L) (hcn : cntP t) (hf : frP t) (hi : a.ins) (ha : a.may)
    (v : ∀ c r up, (min (whK t a.ox) (whK t (pntF a.ox a.dx a.long)) ≤ c ∧ c ≤ max (whK t a.ox) (whK t (pntF a.ox a.dx a.long))) → (min (whR t a.oy) (whR t (pntF a.oy a.dy a.long)) ≤ r ∧ r ≤ max (whR t a.oy) (whR t (pntF a.oy a.dy a.long))) → V c r up) :
    (casI t a = -1 ∧ L = a.long + 1) ∨ (0 ≤ casI t a ∧ L ≤ a.long ∧ tcS t a (casI t a) = L ∧ slpA t (pntF a.ox a.dx L) (pntF a.oy a.dy L) = tcA t (casI t a) ∧ slpB t (pntF a.ox a.dx L) (pntF a.oy a.dy L) = tcB t (casI t a) ∧ kindFd t (pntF a.ox a.dx L) (pntF a.oy a.dy L) = tcK t (casI t a)) := by
  have hcell : 0 < t.cell := by have := hf.1; omega
  have near : ∀ c r up, hitP t a c r up → dstF t c r up a ≤ a.long → L ≤ dstF t c r up a := by
    intro c r up h l
    obtain ⟨e1, e2, -⟩ := in_tri h.2
    have b1 := ax_between (o := a.ox) (d := a.dx) (from_ := t.cx) (many := t.cols.toNat) hcell ⟨hi.o.x0, hi.o.x1⟩ (dst_nn h.1) l
    have b2 := ax_between (o := a.oy) (d := a.dy) (from_ := t.cy) (many := t.rows.toNat) hcell ⟨hi.o.y0, hi.o.y1⟩ (dst_nn h.1) l
    refine N.all c r up (v c r up ?_ ?_) h
    · rw [← e1]; exact b1
    · rw [← e2]; exact b2
  have ec : casI t a = casU t a (casN t) := by unfold casI; rw [if_pos ha]
  have lo := (casU_lo t a (casN t)).1
  by_cases n : casU t a (casN t) < 0
  · left
    refine ⟨by omega, ?_⟩
    rcases N.ex with e | ⟨c, r, up, hc, hr, h, l⟩
    · exact e
    · obtain ⟨i, hi', r1, r2, r3⟩ := tri_at hcn up hc hr
      have := casU_no t a (casN t) n i hi'
      unfold mtI at this
      rw [r1, r2, r3] at this
      apply Classical.byContradiction; intro k
      have := N.le
      have g : metF t c r up a = true := met_hit.2 ⟨h, by omega⟩
      simp_all
  · right
    obtain ⟨m, least⟩ := casU_yes t a (casN t) (by omega)
    rw [← ec] at m least n lo
    obtain ⟨i, hi'⟩ : ∃ i : Nat, casI t a = (i : Int) := ⟨(casI t a).toNat, by omega⟩
    rw [hi', Int.toNat_natCast] at m least
    rw [hi']
    unfold mtI at m
    obtain ⟨h, l⟩ := met_hit.1 m
    have le := near _ _ _ h l
    have e : L = dsI t a i := by
      rcases N.ex with e | ⟨c, r, up, hc, hr, h', l'⟩
      · omega
      · obtain ⟨j, hj, r1, r2, r3⟩ := tri_at hcn up hc hr
        have g := least j hj (by unfold mtI; rw [r1, r2, r3]; exact met_hit.2 ⟨h', by omega⟩)
        have q : dsI t a j = L := by unfold dsI; rw [r1, r2, r3]; exact l'
        have q' : dstF t (rcC t i) (rcR t i) (rcU i) a = dsI t a i := rfl
        omega
    obtain ⟨e1, e2, e3⟩ := in_tri h.2
    have q' : dstF t (rcC t i) (rcR t i) (rcU i) a = L := e.symm
    rw [q'] at e1 e2 e3
    refine ⟨by omega, by omega, by unfold tcS; rw [if_neg (by omega), Int.toNat_natCast]; exact e.symm, ?_, ?_, ?_⟩
    · unfold slpA tcA; rw [e1, e2, e3, Int.toNat_natCast]
    · unfold slpB tcB; rw [e1, e2, e3, Int.toNat_natCast]
    · unfold kindFd tcK; rw [e1, e2, if_neg (by omega), Int.toNat_natCast]
end Go.Proofs.Ytinahmhiopgcnaa
