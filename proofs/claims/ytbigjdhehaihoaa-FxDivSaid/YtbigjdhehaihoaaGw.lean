/- The contract of the document's Div and Ratio for fx. -/
import Derived.Test.YtbigjdhehaihoaaGv
namespace Go.Proofs.Ytbigjdhehaihoaa
open Go.RowKit

theorem divF_eq {x y : Int} (hy : y ≠ 0) : divF x y = clip64 (sgnW (decide (x < 0) != decide (y < 0)) (rndN ((x.natAbs : Int) * 4294967296) y.natAbs)) ∧ divO x y = out64 (sgnW (decide (x < 0) != decide (y < 0)) (rndN ((x.natAbs : Int) * 4294967296) y.natAbs)) := by
  unfold divF divO quoF quoO
  rw [if_neg hy, if_neg hy, rq_div]
  exact ⟨rfl, rfl⟩
theorem divF_zero (x : Int) : divF x 0 = satS x ∧ divO x 0 = true := by
  unfold divF divO quoF quoO
  rw [if_pos rfl, if_pos rfl]
  refine ⟨?_, rfl⟩
  unfold satS
  by_cases p : 0 < x
  · rw [if_pos (by omega), if_pos p]
  · rw [if_neg (by omega), if_neg p]
    by_cases q : x < 0
    · rw [if_pos (by omega), if_pos q]
    · rw [if_neg (by omega), if_neg q]
set_option maxRecDepth 100000 in
set_option maxHeartbeats 4000000 in
theorem rfDiv_any (x y : Int) (b k : Nat) (o : Bool) (w : World) (x0' : -9223372036854775808 ≤ x) (x1' : x ≤ 9223372036854775807) (y0' : -9223372036854775808 ≤ y) (y1' : y ≤ 9223372036854775807) (m : MAt w b k o) :
    Calls Try.prog 35 #[.pointer (some ⟨b, k, none⟩), .int .i64 x, .int .i64 y] w fun e w' => e = .returned (.int .i64 (divF x y)) ∧ FxW w.heap.size w b k (o || divO x y) w' := by
  have HM := Lib.hid m
  have mc := m.c
  have mf := m.f
  by_cases hy : y = 0
  · subst hy
    have E := Lib.hid (divF_zero x)
    by_cases p : x = 0
    · subst p
      have K := Lib.hid (show (0 : Int) = divF 0 0 from E.out.1.symm)
      clear m
      go_enter Try.func35, Try.ntmps35
      go_wp2
      go_ret
      exact ⟨retI K.out, by rw [E.out.2, Bool.or_true]; exact FxW.put'⟩
    · have t : (x == 0) = false := by simp; exact p
      have H1 := Lib.hid (show FxW w.heap.size w b k true (w.setCell ⟨b, k, none⟩ (.bool true)) from FxW.put')
      have M1 := Lib.hid (H1.out.at HM.out m.lt)
      clear m
      by_cases q : x < 0
      · have K := Lib.hid (show boundI true = divF x 0 by rw [E.out.1]; unfold satS; rw [if_neg (by omega), if_pos q]; rfl)
        have tq : decide (x < 0) = true := by rw [decide_eq_true_iff]; exact q
        clear p
        go_enter Try.func35, Try.ntmps35
        go_wp2_with fail
        refine (rbound_any b k true _ _ M1.out).mono ?_
        rintro e w3 ⟨rfl, rfl⟩
        go_wp2
        go_ret
        exact ⟨retI K.out, by rw [E.out.2, Bool.or_true, set_set]; exact FxW.put'⟩
      · have K := Lib.hid (show boundI false = divF x 0 by rw [E.out.1]; unfold satS; rw [if_pos (by omega)]; rfl)
        have tq : decide (x < 0) = false := by rw [decide_eq_false_iff_not]; exact q
        clear p
        go_enter Try.func35, Try.ntmps35
        go_wp2_with fail
        refine (rbound_any b k true _ _ M1.out).mono ?_
        rintro e w3 ⟨rfl, rfl⟩
        go_wp2
        go_ret
        exact ⟨retI K.out, by rw [E.out.2, Bool.or_true, set_set]; exact FxW.put'⟩
  · have E := divF_eq (x := x) hy
    obtain ⟨X, hX⟩ : ∃ X : Int, (x.natAbs : Int) = X := ⟨_, rfl⟩
    obtain ⟨Y, hY⟩ : ∃ Y : Int, (y.natAbs : Int) = Y := ⟨_, rfl⟩
    have X0 : 0 ≤ X := by omega
    have X1 : X ≤ 9223372036854775808 := by omega
    have Y0 : 0 < Y := by omega
    have Y1 : Y ≤ 9223372036854775808 := by omega
    obtain ⟨neg, hneg⟩ : ∃ neg, (!decide (x < 0) == decide (y < 0)) = neg := ⟨_, rfl⟩
    rw [show (decide (x < 0) != decide (y < 0)) = neg from hneg, hX, hY] at E
    have t : (y == 0) = false := by simp; exact hy
    have rn := rndN_nn (n := X * 4294967296) (d := Y) (by omega) Y0
    clear hy m mc mf
    by_cases c : rndN (X * 4294967296) Y ≤ 18446744073709551615
    · have OV := ov_yes (N := X * 4294967296) (y := Y) rfl c
      obtain ⟨R, hR⟩ : ∃ R, rndN (X * 4294967296) Y = R := ⟨_, rfl⟩
      rw [hR] at E OV c rn
      have E1 := Lib.hid E
      have OV1 := Lib.hid OV
      clear hR E OV
      go_enter Try.func35, Try.ntmps35
      go_wp2_with fail
      refine (Size_any x _ x0' x1').mono ?_
      rintro e w1 ⟨rfl, rfl⟩
      go_wp2_with fail
      refine (Size_any y _ y0' y1').mono ?_
      rintro e w1 ⟨rfl, rfl⟩
      go_wp2_with fail
      refine (rover_any X Y _ X0 X1 Y0 Y1).mono ?_
      rw [← OV1.out.1, ← OV1.out.2]
      rintro e w1 ⟨rfl, rfl⟩
      go_wp2_with fail
      refine (rsigned_any R b k o neg _ rn c HM.out).mono ?_
      rintro e w3 ⟨rfl, h3⟩
      go_wp2
      go_ret
      exact ⟨retI E1.out.1.symm, by rw [E1.out.2]; exact h3⟩
    · have OV := Lib.hid (ov_no (N := X * 4294967296) (y := Y) (by omega))
      have K0 : boundI neg = divF x y ∧ divO x y = true := by
        rw [E.1, E.2]
        cases neg with
        | true => exact clip_low (by unfold sgnW; rw [if_pos rfl]; omega)
        | false => exact clip_high (by unfold sgnW; rw [if_neg (by decide)]; omega)
      have K := Lib.hid K0
      clear E c rn K0
      go_enter Try.func35, Try.ntmps35
      go_wp2_with fail
      refine (Size_any x _ x0' x1').mono ?_
      rintro e w1 ⟨rfl, rfl⟩
      go_wp2_with fail
      refine (Size_any y _ y0' y1').mono ?_
      rintro e w1 ⟨rfl, rfl⟩
      go_wp2_with fail
      refine (rover_any X Y _ X0 X1 Y0 Y1).mono ?_
      rw [← OV.out.1, ← OV.out.2]
      rintro e w1 ⟨rfl, rfl⟩
      go_wp2_with fail
      refine (rbound_any b k o _ _ HM.out).mono ?_
      rintro e w3 ⟨rfl, rfl⟩
      go_wp2
      go_ret
      exact ⟨retI K.out.1, by rw [K.out.2, Bool.or_true]; exact FxW.put'⟩
theorem rfRatio_any (x y : Int) (b k : Nat) (o : Bool) (w : World) (x0 : -9223372036854775808 ≤ x) (x1 : x ≤ 9223372036854775807) (y0 : -9223372036854775808 ≤ y) (y1 : y ≤ 9223372036854775807) (m : MAt w b k o) :
    Calls Try.prog 37 #[.pointer (some ⟨b, k, none⟩), .int .i64 x, .int .i64 y] w fun e w' => e = .returned (.int .i64 (divF x y)) ∧ FxW w.heap.size w b k (o || divO x y) w' := by
  go_enter Try.func37, Try.ntmps37
  go_wp2_with fail
  refine (rfDiv_any x y b k o _ x0 x1 y0 y1 m).mono ?_
  rintro e w9 ⟨rfl, hb9⟩
  go_wp2
  go_ret
  exact ⟨rfl, hb9⟩
end Go.Proofs.Ytbigjdhehaihoaa
