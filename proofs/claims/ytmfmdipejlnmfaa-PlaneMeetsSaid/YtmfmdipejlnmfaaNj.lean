/- The contract of the document's Meets. -/
import Derived.Test.YtmfmdipejlnmfaaNi
namespace Go.Proofs.Ytmfmdipejlnmfaa
open Go.RowKit
set_option linter.unusedVariables false
set_option linter.unusedSimpArgs false

theorem sgnA_zero {n : Int} : sgnA n = 0 ↔ n = 0 := by unfold sgnA; split <;> (try split) <;> omega
theorem sgnA_mul {x y : Int} : sgnA x * sgnA y < 0 ↔ x * y < 0 := by
  rcases Int.lt_trichotomy x 0 with hx | hx | hx <;> rcases Int.lt_trichotomy y 0 with hy | hy | hy
  · have := Int.mul_pos_of_neg_of_neg hx hy
    unfold sgnA; rw [if_pos hx, if_pos hy]; omega
  · subst hy; simp [sgnA]
  · have := Int.mul_neg_of_neg_of_pos hx hy
    unfold sgnA; rw [if_pos hx, if_neg (by omega), if_pos hy]; omega
  · subst hx; simp [sgnA]
  · subst hx; simp [sgnA]
  · subst hx; simp [sgnA]
  · have := Int.mul_neg_of_pos_of_neg hx hy
    unfold sgnA; rw [if_neg (by omega), if_pos hx, if_pos hy]; omega
  · subst hy; simp [sgnA]
  · have := Int.mul_pos hx hy
    unfold sgnA; rw [if_neg (by omega), if_pos hx, if_neg (by omega), if_pos hy]; omega
/-- stretches near the middle meet by four sides, and by what lies on them -/
theorem meets_near {a b p q : Pt} (h : a.near ∧ b.near ∧ p.near ∧ q.near) : meetsP a b p q = ((decide (sideP a b p * sideP a b q < 0) && decide (sideP p q a * sideP p q b < 0)) ||
    ((((decide (sideP a b p = 0) && onB a b p) || (decide (sideP a b q = 0) && onB a b q)) || (decide (sideP p q a = 0) && onB p q a)) || (decide (sideP p q b = 0) && onB p q b))) := by
  unfold meetsP sideP
  rw [if_pos ⟨h.1, h.2.1, h.2.2.1⟩, if_pos ⟨h.1, h.2.1, h.2.2.2⟩, if_pos ⟨h.2.2.1, h.2.2.2, h.1⟩, if_pos ⟨h.2.2.1, h.2.2.2, h.2.1⟩, decide_eq_true h, Bool.true_and]
  simp only [sgnA_mul, sgnA_zero]
theorem side_in (a b p : Pt) : -1 ≤ sideP a b p ∧ sideP a b p ≤ 1 := by
  unfold sideP; split
  · exact sgnA_in _
  · omega
theorem mul_1 {x y : Int} (hx : -1 ≤ x ∧ x ≤ 1) (hy : -1 ≤ y ∧ y ≤ 1) : -1 ≤ x * y ∧ x * y ≤ 1 := by
  obtain rfl | rfl | rfl : x = -1 ∨ x = 0 ∨ x = 1 := by omega
  all_goals omega
set_option maxRecDepth 100000 in
set_option maxHeartbeats 16000000 in
theorem rMeets_any (ax ay bx by' px py qx qy : Int) (w : World) :
    Calls Try.prog 16 #[.agg #[.int .i64 ax, .int .i64 ay], .agg #[.int .i64 bx, .int .i64 by'], .agg #[.int .i64 px, .int .i64 py], .agg #[.int .i64 qx, .int .i64 qy]] w fun e w' => e = .returned (.bool (meetsP ⟨ax, ay⟩ ⟨bx, by'⟩ ⟨px, py⟩ ⟨qx, qy⟩)) ∧ Below w.heap.size w w' := by
  by_cases h : (Rg ax ∧ Rg ay) ∧ (Rg bx ∧ Rg by') ∧ (Rg px ∧ Rg py) ∧ (Rg qx ∧ Rg qy)
  · have N := Lib.hid (fun (n : Nat) (W : World) (B : BW W n [.int .i64 ax, .int .i64 ay, .int .i64 bx, .int .i64 by', .int .i64 px, .int .i64 py, .int .i64 qx, .int .i64 qy]) => rNear4_any ax ay bx by' px py qx qy n W B)
    rw [decide_eq_true h] at N
    have hP : Pt.near ⟨ax, ay⟩ ∧ Pt.near ⟨bx, by'⟩ ∧ Pt.near ⟨px, py⟩ ∧ Pt.near ⟨qx, qy⟩ := h
    have HR := Lib.hid (meets_near hP)
    have X0 := Lib.hid (fun (W : World) => rSide_any ax ay bx by' px py W)
    have I0 := side_in ⟨ax, ay⟩ ⟨bx, by'⟩ ⟨px, py⟩
    have O0 := Lib.hid (fun (W : World) => rOn_any ax ay bx by' px py W)
    have X1 := Lib.hid (fun (W : World) => rSide_any ax ay bx by' qx qy W)
    have I1 := side_in ⟨ax, ay⟩ ⟨bx, by'⟩ ⟨qx, qy⟩
    have O1 := Lib.hid (fun (W : World) => rOn_any ax ay bx by' qx qy W)
    have X2 := Lib.hid (fun (W : World) => rSide_any px py qx qy ax ay W)
    have I2 := side_in ⟨px, py⟩ ⟨qx, qy⟩ ⟨ax, ay⟩
    have O2 := Lib.hid (fun (W : World) => rOn_any px py qx qy ax ay W)
    have X3 := Lib.hid (fun (W : World) => rSide_any px py qx qy bx by' W)
    have I3 := side_in ⟨px, py⟩ ⟨qx, qy⟩ ⟨bx, by'⟩
    have O3 := Lib.hid (fun (W : World) => rOn_any px py qx qy bx by' W)
    generalize meetsP ⟨ax, ay⟩ ⟨bx, by'⟩ ⟨px, py⟩ ⟨qx, qy⟩ = r at *
    generalize sideP ⟨ax, ay⟩ ⟨bx, by'⟩ ⟨px, py⟩ = c at *
    generalize onB ⟨ax, ay⟩ ⟨bx, by'⟩ ⟨px, py⟩ = o0 at *
    generalize sideP ⟨ax, ay⟩ ⟨bx, by'⟩ ⟨qx, qy⟩ = d at *
    generalize onB ⟨ax, ay⟩ ⟨bx, by'⟩ ⟨qx, qy⟩ = o1 at *
    generalize sideP ⟨px, py⟩ ⟨qx, qy⟩ ⟨ax, ay⟩ = e' at *
    generalize onB ⟨px, py⟩ ⟨qx, qy⟩ ⟨ax, ay⟩ = o2 at *
    generalize sideP ⟨px, py⟩ ⟨qx, qy⟩ ⟨bx, by'⟩ = f at *
    generalize onB ⟨px, py⟩ ⟨qx, qy⟩ ⟨bx, by'⟩ = o3 at *
    have M1 := mul_1 I0 I1
    have M2 := mul_1 I2 I3
    have w1' : IntKind.i64.wrap (c * d) = c * d := IntWalk.i64_in _ (by omega)
    have w2' : IntKind.i64.wrap (e' * f) = e' * f := IntWalk.i64_in _ (by omega)
    have w3' : wrap64 (c * d) = c * d := by unfold wrap64; omega
    have w4' : wrap64 (e' * f) = e' * f := by unfold wrap64; omega
    clear hP h I0 I1 I2 I3 M1 M2
    go_enter Try.func16, Try.ntmps16
    go_wp2_with fail
    refine (N.out _ _ (BW.new _ _ [_, _, _, _, _, _, _, _] _ (by simp))).mono ?_
    rintro e w1 ⟨rfl, rfl⟩
    go_wp2_with fail
    refine calls_gen (S := fun W => St w W (CrL w ax ay bx by' px py qx qy)) (cr_new (((((BW.new w w.heap.size [_, _] _ rfl).alloc _).alloc _).alloc _).alloc _) ((((BW.new _ _ [_, _] _ (by simp)).alloc _).alloc _).alloc _) (((BW.new _ _ [_, _] _ (by simp)).alloc _).alloc _) ((BW.new _ _ [_, _] _ (by simp)).alloc _) (by repeat (first | exact Below.refl _ _ | assumption | refine Below.setCell ?_ (by first | omega | (simp; done) | (simp; omega)) _ | refine Below.alloc ?_ (by first | omega | (simp; done) | (simp; omega)) _ | refine below_drewN ?_ _ | refine Below.drew ?_ | refine Below.trans ?_ (Below.mono (by assumption) (by first | omega | (simp; done) | (simp; omega)))))) (fun W0 hS => ?_)
    have K0 := Lib.hid hS
    clear hS N
    refine (X0.out _).mono ?_
    rintro e w1 ⟨rfl, h⟩
    have K1 := Lib.hid (K0.out.step h)
    clear h K0
    obtain ⟨⟨a0, a1⟩, ⟨b0, b1⟩, ⟨p0, p1⟩, ⟨q0, q1⟩⟩ := cr_sv (K1.out)
    go_wp2_with fail
    refine (X1.out _).mono ?_
    clear a0 a1 b0 b1 p0 p1 q0 q1
    rintro e w2 ⟨rfl, h⟩
    have K2 := Lib.hid (K1.out.step h)
    clear h K1
    obtain ⟨⟨a0, a1⟩, ⟨b0, b1⟩, ⟨p0, p1⟩, ⟨q0, q1⟩⟩ := cr_sv (K2.out)
    go_wp2_with fail
    refine (X2.out _).mono ?_
    clear a0 a1 b0 b1 p0 p1 q0 q1
    rintro e w3 ⟨rfl, h⟩
    have K3 := Lib.hid (K2.out.step h)
    clear h K2
    obtain ⟨⟨a0, a1⟩, ⟨b0, b1⟩, ⟨p0, p1⟩, ⟨q0, q1⟩⟩ := cr_sv (K3.out)
    go_wp2_with fail
    refine (X3.out _).mono ?_
    clear a0 a1 b0 b1 p0 p1 q0 q1
    rintro e w4 ⟨rfl, h⟩
    have K4 := Lib.hid (K3.out.step h)
    clear h K3
    clear X0 X1 X2 X3
    by_cases g1 : c * d < 0
    · by_cases g2 : e' * f < 0
      · go_wp2
        go_ret
        exact ⟨retB (by rw [HR.out]; simp [g1, g2]), K4.out.l⟩
      · skip
        by_cases q0 : c = 0
        · skip
          obtain ⟨⟨a0, a1⟩, ⟨b0, b1⟩, ⟨p0, p1⟩, ⟨q0, q1⟩⟩ := cr_sv (K4.out)
          go_wp2_with fail
          refine (O0.out _).mono ?_
          clear a0 a1 b0 b1 p0 p1 q0 q1
          rintro e w5 ⟨rfl, h⟩
          have K5 := Lib.hid (K4.out.step h)
          clear h K4
          by_cases y0 : o0 = true
          · skip
            go_wp2
            go_ret
            exact ⟨retB (by rw [HR.out]; simp [g1, g2, q0, y0] <;> (intro hh; omega)), K5.out.l⟩
          · skip
            by_cases q1 : d = 0
            · skip
              obtain ⟨⟨a0, a1⟩, ⟨b0, b1⟩, ⟨p0, p1⟩, ⟨q0, q1⟩⟩ := cr_sv (K5.out)
              go_wp2_with fail
              refine (O1.out _).mono ?_
              clear a0 a1 b0 b1 p0 p1 q0 q1
              rintro e w6 ⟨rfl, h⟩
              have K6 := Lib.hid (K5.out.step h)
              clear h K5
              by_cases y1 : o1 = true
              · skip
                go_wp2
                go_ret
                exact ⟨retB (by rw [HR.out]; simp [g1, g2, q0, y0, q1, y1] <;> (intro hh; omega)), K6.out.l⟩
              · skip
                by_cases q2 : e' = 0
                · skip
                  obtain ⟨⟨a0, a1⟩, ⟨b0, b1⟩, ⟨p0, p1⟩, ⟨q0, q1⟩⟩ := cr_sv (K6.out)
                  go_wp2_with fail
                  refine (O2.out _).mono ?_
                  clear a0 a1 b0 b1 p0 p1 q0 q1
                  rintro e w7 ⟨rfl, h⟩
                  have K7 := Lib.hid (K6.out.step h)
                  clear h K6
                  by_cases y2 : o2 = true
                  · skip
                    go_wp2
                    go_ret
                    exact ⟨retB (by rw [HR.out]; simp [g1, g2, q0, y0, q1, y1, q2, y2] <;> (intro hh; omega)), K7.out.l⟩
                  · skip
                    by_cases q3 : f = 0
                    · skip
                      obtain ⟨⟨a0, a1⟩, ⟨b0, b1⟩, ⟨p0, p1⟩, ⟨q0, q1⟩⟩ := cr_sv (K7.out)
                      go_wp2_with fail
                      refine (O3.out _).mono ?_
                      clear a0 a1 b0 b1 p0 p1 q0 q1
                      rintro e w8 ⟨rfl, h⟩
                      have K8 := Lib.hid (K7.out.step h)
                      clear h K7
                      go_wp2
                      go_ret
                      exact ⟨retB (by rw [HR.out]; simp [g1, g2, q0, y0, q1, y1, q2, y2, q3] <;> (intro hh; omega)), K8.out.l⟩
                    · skip
                      go_wp2
                      go_ret
                      exact ⟨retB (by rw [HR.out]; simp [g1, g2, q0, y0, q1, y1, q2, y2, q3] <;> (intro hh; omega)), K7.out.l⟩
                · skip
                  by_cases q3 : f = 0
                  · skip
                    obtain ⟨⟨a0, a1⟩, ⟨b0, b1⟩, ⟨p0, p1⟩, ⟨q0, q1⟩⟩ := cr_sv (K6.out)
                    go_wp2_with fail
                    refine (O3.out _).mono ?_
                    clear a0 a1 b0 b1 p0 p1 q0 q1
                    rintro e w7 ⟨rfl, h⟩
                    have K7 := Lib.hid (K6.out.step h)
                    clear h K6
                    go_wp2
                    go_ret
                    exact ⟨retB (by rw [HR.out]; simp [g1, g2, q0, y0, q1, y1, q2, q3] <;> (intro hh; omega)), K7.out.l⟩
                  · skip
                    go_wp2
                    go_ret
                    exact ⟨retB (by rw [HR.out]; simp [g1, g2, q0, y0, q1, y1, q2, q3] <;> (intro hh; omega)), K6.out.l⟩
            · skip
              by_cases q2 : e' = 0
              · skip
                obtain ⟨⟨a0, a1⟩, ⟨b0, b1⟩, ⟨p0, p1⟩, ⟨q0, q1⟩⟩ := cr_sv (K5.out)
                go_wp2_with fail
                refine (O2.out _).mono ?_
                clear a0 a1 b0 b1 p0 p1 q0 q1
                rintro e w6 ⟨rfl, h⟩
                have K6 := Lib.hid (K5.out.step h)
                clear h K5
                by_cases y2 : o2 = true
                · skip
                  go_wp2
                  go_ret
                  exact ⟨retB (by rw [HR.out]; simp [g1, g2, q0, y0, q1, q2, y2] <;> (intro hh; omega)), K6.out.l⟩
                · skip
                  by_cases q3 : f = 0
                  · skip
                    obtain ⟨⟨a0, a1⟩, ⟨b0, b1⟩, ⟨p0, p1⟩, ⟨q0, q1⟩⟩ := cr_sv (K6.out)
                    go_wp2_with fail
                    refine (O3.out _).mono ?_
                    clear a0 a1 b0 b1 p0 p1 q0 q1
                    rintro e w7 ⟨rfl, h⟩
                    have K7 := Lib.hid (K6.out.step h)
                    clear h K6
                    go_wp2
                    go_ret
                    exact ⟨retB (by rw [HR.out]; simp [g1, g2, q0, y0, q1, q2, y2, q3] <;> (intro hh; omega)), K7.out.l⟩
                  · skip
                    go_wp2
                    go_ret
                    exact ⟨retB (by rw [HR.out]; simp [g1, g2, q0, y0, q1, q2, y2, q3] <;> (intro hh; omega)), K6.out.l⟩
              · skip
                by_cases q3 : f = 0
                · skip
                  obtain ⟨⟨a0, a1⟩, ⟨b0, b1⟩, ⟨p0, p1⟩, ⟨q0, q1⟩⟩ := cr_sv (K5.out)
                  go_wp2_with fail
                  refine (O3.out _).mono ?_
                  clear a0 a1 b0 b1 p0 p1 q0 q1
                  rintro e w6 ⟨rfl, h⟩
                  have K6 := Lib.hid (K5.out.step h)
                  clear h K5
                  go_wp2
                  go_ret
                  exact ⟨retB (by rw [HR.out]; simp [g1, g2, q0, y0, q1, q2, q3] <;> (intro hh; omega)), K6.out.l⟩
                · skip
                  go_wp2
                  go_ret
                  exact ⟨retB (by rw [HR.out]; simp [g1, g2, q0, y0, q1, q2, q3] <;> (intro hh; omega)), K5.out.l⟩
        · skip
          by_cases q1 : d = 0
          · skip
            obtain ⟨⟨a0, a1⟩, ⟨b0, b1⟩, ⟨p0, p1⟩, ⟨q0, q1⟩⟩ := cr_sv (K4.out)
            go_wp2_with fail
            refine (O1.out _).mono ?_
            clear a0 a1 b0 b1 p0 p1 q0 q1
            rintro e w5 ⟨rfl, h⟩
            have K5 := Lib.hid (K4.out.step h)
            clear h K4
            by_cases y1 : o1 = true
            · skip
              go_wp2
              go_ret
              exact ⟨retB (by rw [HR.out]; simp [g1, g2, q0, q1, y1] <;> (intro hh; omega)), K5.out.l⟩
            · skip
              by_cases q2 : e' = 0
              · skip
                obtain ⟨⟨a0, a1⟩, ⟨b0, b1⟩, ⟨p0, p1⟩, ⟨q0, q1⟩⟩ := cr_sv (K5.out)
                go_wp2_with fail
                refine (O2.out _).mono ?_
                clear a0 a1 b0 b1 p0 p1 q0 q1
                rintro e w6 ⟨rfl, h⟩
                have K6 := Lib.hid (K5.out.step h)
                clear h K5
                by_cases y2 : o2 = true
                · skip
                  go_wp2
                  go_ret
                  exact ⟨retB (by rw [HR.out]; simp [g1, g2, q0, q1, y1, q2, y2] <;> (intro hh; omega)), K6.out.l⟩
                · skip
                  by_cases q3 : f = 0
                  · skip
                    obtain ⟨⟨a0, a1⟩, ⟨b0, b1⟩, ⟨p0, p1⟩, ⟨q0, q1⟩⟩ := cr_sv (K6.out)
                    go_wp2_with fail
                    refine (O3.out _).mono ?_
                    clear a0 a1 b0 b1 p0 p1 q0 q1
                    rintro e w7 ⟨rfl, h⟩
                    have K7 := Lib.hid (K6.out.step h)
                    clear h K6
                    go_wp2
                    go_ret
                    exact ⟨retB (by rw [HR.out]; simp [g1, g2, q0, q1, y1, q2, y2, q3] <;> (intro hh; omega)), K7.out.l⟩
                  · skip
                    go_wp2
                    go_ret
                    exact ⟨retB (by rw [HR.out]; simp [g1, g2, q0, q1, y1, q2, y2, q3] <;> (intro hh; omega)), K6.out.l⟩
              · skip
                by_cases q3 : f = 0
                · skip
                  obtain ⟨⟨a0, a1⟩, ⟨b0, b1⟩, ⟨p0, p1⟩, ⟨q0, q1⟩⟩ := cr_sv (K5.out)
                  go_wp2_with fail
                  refine (O3.out _).mono ?_
                  clear a0 a1 b0 b1 p0 p1 q0 q1
                  rintro e w6 ⟨rfl, h⟩
                  have K6 := Lib.hid (K5.out.step h)
                  clear h K5
                  go_wp2
                  go_ret
                  exact ⟨retB (by rw [HR.out]; simp [g1, g2, q0, q1, y1, q2, q3] <;> (intro hh; omega)), K6.out.l⟩
                · skip
                  go_wp2
                  go_ret
                  exact ⟨retB (by rw [HR.out]; simp [g1, g2, q0, q1, y1, q2, q3] <;> (intro hh; omega)), K5.out.l⟩
          · skip
            by_cases q2 : e' = 0
            · skip
              obtain ⟨⟨a0, a1⟩, ⟨b0, b1⟩, ⟨p0, p1⟩, ⟨q0, q1⟩⟩ := cr_sv (K4.out)
              go_wp2_with fail
              refine (O2.out _).mono ?_
              clear a0 a1 b0 b1 p0 p1 q0 q1
              rintro e w5 ⟨rfl, h⟩
              have K5 := Lib.hid (K4.out.step h)
              clear h K4
              by_cases y2 : o2 = true
              · skip
                go_wp2
                go_ret
                exact ⟨retB (by rw [HR.out]; simp [g1, g2, q0, q1, q2, y2] <;> (intro hh; omega)), K5.out.l⟩
              · skip
                by_cases q3 : f = 0
                · skip
                  obtain ⟨⟨a0, a1⟩, ⟨b0, b1⟩, ⟨p0, p1⟩, ⟨q0, q1⟩⟩ := cr_sv (K5.out)
                  go_wp2_with fail
                  refine (O3.out _).mono ?_
                  clear a0 a1 b0 b1 p0 p1 q0 q1
                  rintro e w6 ⟨rfl, h⟩
                  have K6 := Lib.hid (K5.out.step h)
                  clear h K5
                  go_wp2
                  go_ret
                  exact ⟨retB (by rw [HR.out]; simp [g1, g2, q0, q1, q2, y2, q3] <;> (intro hh; omega)), K6.out.l⟩
                · skip
                  go_wp2
                  go_ret
                  exact ⟨retB (by rw [HR.out]; simp [g1, g2, q0, q1, q2, y2, q3] <;> (intro hh; omega)), K5.out.l⟩
            · skip
              by_cases q3 : f = 0
              · skip
                obtain ⟨⟨a0, a1⟩, ⟨b0, b1⟩, ⟨p0, p1⟩, ⟨q0, q1⟩⟩ := cr_sv (K4.out)
                go_wp2_with fail
                refine (O3.out _).mono ?_
                clear a0 a1 b0 b1 p0 p1 q0 q1
                rintro e w5 ⟨rfl, h⟩
                have K5 := Lib.hid (K4.out.step h)
                clear h K4
                go_wp2
                go_ret
                exact ⟨retB (by rw [HR.out]; simp [g1, g2, q0, q1, q2, q3] <;> (intro hh; omega)), K5.out.l⟩
              · skip
                go_wp2
                go_ret
                exact ⟨retB (by rw [HR.out]; simp [g1, g2, q0, q1, q2, q3] <;> (intro hh; omega)), K4.out.l⟩
    · skip
      by_cases q0 : c = 0
      · skip
        obtain ⟨⟨a0, a1⟩, ⟨b0, b1⟩, ⟨p0, p1⟩, ⟨q0, q1⟩⟩ := cr_sv (K4.out)
        go_wp2_with fail
        refine (O0.out _).mono ?_
        clear a0 a1 b0 b1 p0 p1 q0 q1
        rintro e w5 ⟨rfl, h⟩
        have K5 := Lib.hid (K4.out.step h)
        clear h K4
        by_cases y0 : o0 = true
        · skip
          go_wp2
          go_ret
          exact ⟨retB (by rw [HR.out]; simp [g1, q0, y0] <;> (intro hh; omega)), K5.out.l⟩
        · skip
          by_cases q1 : d = 0
          · skip
            obtain ⟨⟨a0, a1⟩, ⟨b0, b1⟩, ⟨p0, p1⟩, ⟨q0, q1⟩⟩ := cr_sv (K5.out)
            go_wp2_with fail
            refine (O1.out _).mono ?_
            clear a0 a1 b0 b1 p0 p1 q0 q1
            rintro e w6 ⟨rfl, h⟩
            have K6 := Lib.hid (K5.out.step h)
            clear h K5
            by_cases y1 : o1 = true
            · skip
              go_wp2
              go_ret
              exact ⟨retB (by rw [HR.out]; simp [g1, q0, y0, q1, y1] <;> (intro hh; omega)), K6.out.l⟩
            · skip
              by_cases q2 : e' = 0
              · skip
                obtain ⟨⟨a0, a1⟩, ⟨b0, b1⟩, ⟨p0, p1⟩, ⟨q0, q1⟩⟩ := cr_sv (K6.out)
                go_wp2_with fail
                refine (O2.out _).mono ?_
                clear a0 a1 b0 b1 p0 p1 q0 q1
                rintro e w7 ⟨rfl, h⟩
                have K7 := Lib.hid (K6.out.step h)
                clear h K6
                by_cases y2 : o2 = true
                · skip
                  go_wp2
                  go_ret
                  exact ⟨retB (by rw [HR.out]; simp [g1, q0, y0, q1, y1, q2, y2] <;> (intro hh; omega)), K7.out.l⟩
                · skip
                  by_cases q3 : f = 0
                  · skip
                    obtain ⟨⟨a0, a1⟩, ⟨b0, b1⟩, ⟨p0, p1⟩, ⟨q0, q1⟩⟩ := cr_sv (K7.out)
                    go_wp2_with fail
                    refine (O3.out _).mono ?_
                    clear a0 a1 b0 b1 p0 p1 q0 q1
                    rintro e w8 ⟨rfl, h⟩
                    have K8 := Lib.hid (K7.out.step h)
                    clear h K7
                    go_wp2
                    go_ret
                    exact ⟨retB (by rw [HR.out]; simp [g1, q0, y0, q1, y1, q2, y2, q3] <;> (intro hh; omega)), K8.out.l⟩
                  · skip
                    go_wp2
                    go_ret
                    exact ⟨retB (by rw [HR.out]; simp [g1, q0, y0, q1, y1, q2, y2, q3] <;> (intro hh; omega)), K7.out.l⟩
              · skip
                by_cases q3 : f = 0
                · skip
                  obtain ⟨⟨a0, a1⟩, ⟨b0, b1⟩, ⟨p0, p1⟩, ⟨q0, q1⟩⟩ := cr_sv (K6.out)
                  go_wp2_with fail
                  refine (O3.out _).mono ?_
                  clear a0 a1 b0 b1 p0 p1 q0 q1
                  rintro e w7 ⟨rfl, h⟩
                  have K7 := Lib.hid (K6.out.step h)
                  clear h K6
                  go_wp2
                  go_ret
                  exact ⟨retB (by rw [HR.out]; simp [g1, q0, y0, q1, y1, q2, q3] <;> (intro hh; omega)), K7.out.l⟩
                · skip
                  go_wp2
                  go_ret
                  exact ⟨retB (by rw [HR.out]; simp [g1, q0, y0, q1, y1, q2, q3] <;> (intro hh; omega)), K6.out.l⟩
          · skip
            by_cases q2 : e' = 0
            · skip
              obtain ⟨⟨a0, a1⟩, ⟨b0, b1⟩, ⟨p0, p1⟩, ⟨q0, q1⟩⟩ := cr_sv (K5.out)
              go_wp2_with fail
              refine (O2.out _).mono ?_
              clear a0 a1 b0 b1 p0 p1 q0 q1
              rintro e w6 ⟨rfl, h⟩
              have K6 := Lib.hid (K5.out.step h)
              clear h K5
              by_cases y2 : o2 = true
              · skip
                go_wp2
                go_ret
                exact ⟨retB (by rw [HR.out]; simp [g1, q0, y0, q1, q2, y2] <;> (intro hh; omega)), K6.out.l⟩
              · skip
                by_cases q3 : f = 0
                · skip
                  obtain ⟨⟨a0, a1⟩, ⟨b0, b1⟩, ⟨p0, p1⟩, ⟨q0, q1⟩⟩ := cr_sv (K6.out)
                  go_wp2_with fail
                  refine (O3.out _).mono ?_
                  clear a0 a1 b0 b1 p0 p1 q0 q1
                  rintro e w7 ⟨rfl, h⟩
                  have K7 := Lib.hid (K6.out.step h)
                  clear h K6
                  go_wp2
                  go_ret
                  exact ⟨retB (by rw [HR.out]; simp [g1, q0, y0, q1, q2, y2, q3] <;> (intro hh; omega)), K7.out.l⟩
                · skip
                  go_wp2
                  go_ret
                  exact ⟨retB (by rw [HR.out]; simp [g1, q0, y0, q1, q2, y2, q3] <;> (intro hh; omega)), K6.out.l⟩
            · skip
              by_cases q3 : f = 0
              · skip
                obtain ⟨⟨a0, a1⟩, ⟨b0, b1⟩, ⟨p0, p1⟩, ⟨q0, q1⟩⟩ := cr_sv (K5.out)
                go_wp2_with fail
                refine (O3.out _).mono ?_
                clear a0 a1 b0 b1 p0 p1 q0 q1
                rintro e w6 ⟨rfl, h⟩
                have K6 := Lib.hid (K5.out.step h)
                clear h K5
                go_wp2
                go_ret
                exact ⟨retB (by rw [HR.out]; simp [g1, q0, y0, q1, q2, q3] <;> (intro hh; omega)), K6.out.l⟩
              · skip
                go_wp2
                go_ret
                exact ⟨retB (by rw [HR.out]; simp [g1, q0, y0, q1, q2, q3] <;> (intro hh; omega)), K5.out.l⟩
      · skip
        by_cases q1 : d = 0
        · skip
          obtain ⟨⟨a0, a1⟩, ⟨b0, b1⟩, ⟨p0, p1⟩, ⟨q0, q1⟩⟩ := cr_sv (K4.out)
          go_wp2_with fail
          refine (O1.out _).mono ?_
          clear a0 a1 b0 b1 p0 p1 q0 q1
          rintro e w5 ⟨rfl, h⟩
          have K5 := Lib.hid (K4.out.step h)
          clear h K4
          by_cases y1 : o1 = true
          · skip
            go_wp2
            go_ret
            exact ⟨retB (by rw [HR.out]; simp [g1, q0, q1, y1] <;> (intro hh; omega)), K5.out.l⟩
          · skip
            by_cases q2 : e' = 0
            · skip
              obtain ⟨⟨a0, a1⟩, ⟨b0, b1⟩, ⟨p0, p1⟩, ⟨q0, q1⟩⟩ := cr_sv (K5.out)
              go_wp2_with fail
              refine (O2.out _).mono ?_
              clear a0 a1 b0 b1 p0 p1 q0 q1
              rintro e w6 ⟨rfl, h⟩
              have K6 := Lib.hid (K5.out.step h)
              clear h K5
              by_cases y2 : o2 = true
              · skip
                go_wp2
                go_ret
                exact ⟨retB (by rw [HR.out]; simp [g1, q0, q1, y1, q2, y2] <;> (intro hh; omega)), K6.out.l⟩
              · skip
                by_cases q3 : f = 0
                · skip
                  obtain ⟨⟨a0, a1⟩, ⟨b0, b1⟩, ⟨p0, p1⟩, ⟨q0, q1⟩⟩ := cr_sv (K6.out)
                  go_wp2_with fail
                  refine (O3.out _).mono ?_
                  clear a0 a1 b0 b1 p0 p1 q0 q1
                  rintro e w7 ⟨rfl, h⟩
                  have K7 := Lib.hid (K6.out.step h)
                  clear h K6
                  go_wp2
                  go_ret
                  exact ⟨retB (by rw [HR.out]; simp [g1, q0, q1, y1, q2, y2, q3] <;> (intro hh; omega)), K7.out.l⟩
                · skip
                  go_wp2
                  go_ret
                  exact ⟨retB (by rw [HR.out]; simp [g1, q0, q1, y1, q2, y2, q3] <;> (intro hh; omega)), K6.out.l⟩
            · skip
              by_cases q3 : f = 0
              · skip
                obtain ⟨⟨a0, a1⟩, ⟨b0, b1⟩, ⟨p0, p1⟩, ⟨q0, q1⟩⟩ := cr_sv (K5.out)
                go_wp2_with fail
                refine (O3.out _).mono ?_
                clear a0 a1 b0 b1 p0 p1 q0 q1
                rintro e w6 ⟨rfl, h⟩
                have K6 := Lib.hid (K5.out.step h)
                clear h K5
                go_wp2
                go_ret
                exact ⟨retB (by rw [HR.out]; simp [g1, q0, q1, y1, q2, q3] <;> (intro hh; omega)), K6.out.l⟩
              · skip
                go_wp2
                go_ret
                exact ⟨retB (by rw [HR.out]; simp [g1, q0, q1, y1, q2, q3] <;> (intro hh; omega)), K5.out.l⟩
        · skip
          by_cases q2 : e' = 0
          · skip
            obtain ⟨⟨a0, a1⟩, ⟨b0, b1⟩, ⟨p0, p1⟩, ⟨q0, q1⟩⟩ := cr_sv (K4.out)
            go_wp2_with fail
            refine (O2.out _).mono ?_
            clear a0 a1 b0 b1 p0 p1 q0 q1
            rintro e w5 ⟨rfl, h⟩
            have K5 := Lib.hid (K4.out.step h)
            clear h K4
            by_cases y2 : o2 = true
            · skip
              go_wp2
              go_ret
              exact ⟨retB (by rw [HR.out]; simp [g1, q0, q1, q2, y2] <;> (intro hh; omega)), K5.out.l⟩
            · skip
              by_cases q3 : f = 0
              · skip
                obtain ⟨⟨a0, a1⟩, ⟨b0, b1⟩, ⟨p0, p1⟩, ⟨q0, q1⟩⟩ := cr_sv (K5.out)
                go_wp2_with fail
                refine (O3.out _).mono ?_
                clear a0 a1 b0 b1 p0 p1 q0 q1
                rintro e w6 ⟨rfl, h⟩
                have K6 := Lib.hid (K5.out.step h)
                clear h K5
                go_wp2
                go_ret
                exact ⟨retB (by rw [HR.out]; simp [g1, q0, q1, q2, y2, q3] <;> (intro hh; omega)), K6.out.l⟩
              · skip
                go_wp2
                go_ret
                exact ⟨retB (by rw [HR.out]; simp [g1, q0, q1, q2, y2, q3] <;> (intro hh; omega)), K5.out.l⟩
          · skip
            by_cases q3 : f = 0
            · skip
              obtain ⟨⟨a0, a1⟩, ⟨b0, b1⟩, ⟨p0, p1⟩, ⟨q0, q1⟩⟩ := cr_sv (K4.out)
              go_wp2_with fail
              refine (O3.out _).mono ?_
              clear a0 a1 b0 b1 p0 p1 q0 q1
              rintro e w5 ⟨rfl, h⟩
              have K5 := Lib.hid (K4.out.step h)
              clear h K4
              go_wp2
              go_ret
              exact ⟨retB (by rw [HR.out]; simp [g1, q0, q1, q2, q3] <;> (intro hh; omega)), K5.out.l⟩
            · skip
              go_wp2
              go_ret
              exact ⟨retB (by rw [HR.out]; simp [g1, q0, q1, q2, q3] <;> (intro hh; omega)), K4.out.l⟩
  · have hP : ¬ (Pt.near ⟨ax, ay⟩ ∧ Pt.near ⟨bx, by'⟩ ∧ Pt.near ⟨px, py⟩ ∧ Pt.near ⟨qx, qy⟩) := h
    have EE : meetsP ⟨ax, ay⟩ ⟨bx, by'⟩ ⟨px, py⟩ ⟨qx, qy⟩ = false := by unfold meetsP; rw [decide_eq_false hP]; rfl
    rw [EE]
    have N := Lib.hid (fun (n : Nat) (W : World) (B : BW W n [.int .i64 ax, .int .i64 ay, .int .i64 bx, .int .i64 by', .int .i64 px, .int .i64 py, .int .i64 qx, .int .i64 qy]) => rNear4_any ax ay bx by' px py qx qy n W B)
    rw [decide_eq_false h] at N
    clear h hP EE
    go_enter Try.func16, Try.ntmps16
    go_wp2_with fail
    refine (N.out _ _ (BW.new _ _ [_, _, _, _, _, _, _, _] _ (by simp))).mono ?_
    rintro e w1 ⟨rfl, rfl⟩
    go_wp2
    go_ret
    exact ⟨rfl, by repeat (first | exact Below.refl _ _ | assumption | refine Below.setCell ?_ (by first | omega | (simp; done) | (simp; omega)) _ | refine Below.alloc ?_ (by first | omega | (simp; done) | (simp; omega)) _ | refine below_drewN ?_ _ | refine Below.drew ?_ | refine Below.trans ?_ (Below.mono (by assumption) (by first | omega | (simp; done) | (simp; omega))))⟩
end Go.Proofs.Ytmfmdipejlnmfaa
