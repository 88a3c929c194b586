/- Contracts of the document's spline: Near of any list, Right, one. -/
import Derived.Test.YtjdhjabbojceeaaSa
import Derived.Test.YtjdhjabbojceeaaNb
import Derived.Test.YtjdhjabbojceeaaPb
import Derived.Test.YtjdhjabbojceeaaBz
namespace Go.Proofs.Ytjdhjabbojceeaa
open Go.RowKit
set_option linter.unusedVariables false
set_option linter.unusedSimpArgs false

theorem all_next' {P : Nat → Prop} {j : Nat} (h : ∀ k, k < j → P k) (p : P j) : ∀ k, k < j + 1 → P k := fun k hk => by
  rcases Nat.lt_or_ge k j with l | l
  · exact h k l
  · have e : k = j := by omega
    subst e; exact p
set_option maxHeartbeats 4000000 in
theorem rNearL_any (a : Option Addr) (n c : Nat) (X Y : Nat → Int) (w : World) (hmax : n ≤ 1000) (D : Dots w a n c X Y) :
    Calls Try.prog 26 #[.slice a n c] w fun e w' => e = .returned (.bool (decide (nearN n X Y))) ∧ w' = w := by
  have HD := Lib.hid D
  obtain ⟨N, hN⟩ : ∃ N, decide (nearN n X Y) = N := ⟨_, rfl⟩
  rw [hN]
  have HN := Lib.hid hN
  clear D hN
  go_enter Try.func26, Try.ntmps26
  go_wp2
  go_loopw [3] (fun i wr => ∃ j : Nat, j ≤ n ∧ i = .int .i64 j ∧ Hid (∀ k, k < j → Rg (X k) ∧ Rg (Y k)) ∧ wr = w) (fun i _ => n - (intOf i).toNat)
  case atStart => exact ⟨0, by omega, rfl, Lib.hid (fun k h => absurd h (by omega)), rfl⟩
  case round =>
    obtain ⟨j, hj, rfl, I, rfl⟩ := hrel
    by_cases hlt : j < n
    · obtain ⟨b, off, ha, hb, hcell⟩ := HD.out.at' (by omega)
      subst ha
      obtain ⟨c0, c1⟩ := hcell j hlt
      have z0 : (0 : Int) ≤ (j : Int) := by omega
      have z1 : (j : Int) < (n : Int) := by omega
      clear hcell hb
      by_cases q1 : 281474976710656 < X j
      · skip
        have E := Lib.hid (show false = N by rw [← HN.out]; symm; rw [decide_eq_false_iff_not]; intro k; have := k j hlt; unfold Rg at this; omega)
        clear I
        go_wp2
        go_ret
        exact ⟨by rw [← E.out]; rfl, rfl⟩
      · by_cases q2 : X j < -281474976710656
        · skip
          have E := Lib.hid (show false = N by rw [← HN.out]; symm; rw [decide_eq_false_iff_not]; intro k; have := k j hlt; unfold Rg at this; omega)
          clear I
          go_wp2
          go_ret
          exact ⟨by rw [← E.out]; rfl, rfl⟩
        · by_cases q3 : 281474976710656 < Y j
          · skip
            have E := Lib.hid (show false = N by rw [← HN.out]; symm; rw [decide_eq_false_iff_not]; intro k; have := k j hlt; unfold Rg at this; omega)
            clear I
            go_wp2
            go_ret
            exact ⟨by rw [← E.out]; rfl, rfl⟩
          · by_cases q4 : Y j < -281474976710656
            · skip
              have E := Lib.hid (show false = N by rw [← HN.out]; symm; rw [decide_eq_false_iff_not]; intro k; have := k j hlt; unfold Rg at this; omega)
              clear I
              go_wp2
              go_ret
              exact ⟨by rw [← E.out]; rfl, rfl⟩
            · have I2 := Lib.hid (all_next' (P := fun k => Rg (X k) ∧ Rg (Y k)) I.out (by unfold Rg; omega))
              clear I
              go_wp2
              go_roundw
              case rel => exact ⟨j + 1, by omega, by go_num, I2, trivial⟩
              case measure => simp [intOf]; omega
    · have E := Lib.hid (show true = N by rw [← HN.out]; symm; rw [decide_eq_true_iff]; intro k hk; exact I.out k (by omega))
      clear I
      go_wp2
      go_ret
      exact ⟨by rw [← E.out]; rfl, rfl⟩
theorem rSRight_any (a : Option Addr) (n c : Nat) (X Y : Nat → Int) (w : World) (hmax : n ≤ 1000) (D : Dots w a n c X Y) :
    Calls Try.prog 10 #[.slice a n c] w fun e w' => e = .returned (.int .i64 (lineR n X Y)) ∧ w' = w := by
  have V := Lib.hid (rNearL_any a n c X Y w hmax D)
  obtain ⟨q, hq⟩ : ∃ q, lineR n X Y = q := ⟨_, rfl⟩
  rw [hq]
  have HQ := Lib.hid hq
  clear D hq
  by_cases s1 : n < 3
  · have g1 : (n : Int) < 3 := by omega
    have E := Lib.hid (show 42 = q by rw [← HQ.out]; unfold lineR; rw [if_pos (Or.inl s1)])
    clear V
    go_enter Try.func10, Try.ntmps10
    go_wp2
    go_ret
    exact ⟨retI E.out, rfl⟩
  have g1 : ¬ (n : Int) < 3 := by omega
  by_cases s2 : 64 < n
  · have g2 : (64 : Int) < n := by omega
    have E := Lib.hid (show 42 = q by rw [← HQ.out]; unfold lineR; rw [if_pos (Or.inr s2)])
    clear V
    go_enter Try.func10, Try.ntmps10
    go_wp2
    go_ret
    exact ⟨retI E.out, rfl⟩
  have g2 : ¬ (64 : Int) < n := by omega
  by_cases hn : nearN n X Y
  · rw [decide_eq_true hn] at V
    have E := Lib.hid (show 0 = q by rw [← HQ.out]; unfold lineR; rw [if_neg (by omega), if_pos hn])
    go_enter Try.func10, Try.ntmps10
    go_wp2_with fail
    refine (V.out).mono ?_
    rintro e w1 ⟨rfl, rfl⟩
    go_wp2
    go_ret
    exact ⟨retI E.out, rfl⟩
  · rw [decide_eq_false hn] at V
    have E := Lib.hid (show 40 = q by rw [← HQ.out]; unfold lineR; rw [if_neg (by omega), if_neg hn])
    go_enter Try.func10, Try.ntmps10
    go_wp2_with fail
    refine (V.out).mono ?_
    rintro e w1 ⟨rfl, rfl⟩
    go_wp2
    go_ret
    exact ⟨retI E.out, rfl⟩
theorem wrap_in {n : Int} (h : In64 n) : IntKind.i64.wrap n = n ∧ wrap64 n = n := by
  unfold In64 at h
  exact ⟨IntWalk.i64_in _ (by omega), by unfold wrap64; omega⟩
set_option maxHeartbeats 4000000 in
theorem rOne_any (p0 p1 p2 p3 t : Int) (b k : Nat) (o : Bool) (w : World) (h0 : Rg p0) (h1 : Rg p1) (h2 : Rg p2) (h3 : Rg p3) (ht : In64 t) (m : MAt w b k o) :
    Calls Try.prog 28 #[.pointer (some ⟨b, k, none⟩), .int .i64 p0, .int .i64 p1, .int .i64 p2, .int .i64 p3, .int .i64 t] w fun e w' => e = .returned (.int .i64 (oneF p0 p1 p2 p3 t)) ∧ FxW w.heap.size w b k (o || oneO p0 p1 p2 p3 t) w' := by
  have G0 := Lib.hid (Flag.start m (Below.refl w.heap.size w))
  clear m
  unfold Rg at h0 h1 h2 h3
  obtain ⟨u1, v1⟩ := wrap_in (n := p2 - p0) (by unfold In64; omega)
  obtain ⟨u2, v2⟩ := wrap_in (n := 2 * p0) (by unfold In64; omega)
  obtain ⟨u3, v3⟩ := wrap_in (n := 5 * p1) (by unfold In64; omega)
  obtain ⟨u4, v4⟩ := wrap_in (n := 4 * p2) (by unfold In64; omega)
  obtain ⟨u5, v5⟩ := wrap_in (n := 2 * p0 - 5 * p1) (by unfold In64; omega)
  obtain ⟨u6, v6⟩ := wrap_in (n := 2 * p0 - 5 * p1 + 4 * p2) (by unfold In64; omega)
  obtain ⟨u7, v7⟩ := wrap_in (n := 2 * p0 - 5 * p1 + 4 * p2 - p3) (by unfold In64; omega)
  obtain ⟨u8, v8⟩ := wrap_in (n := 3 * p1) (by unfold In64; omega)
  obtain ⟨u9, v9⟩ := wrap_in (n := 3 * p1 - p0) (by unfold In64; omega)
  obtain ⟨ua, va⟩ := wrap_in (n := 3 * p2) (by unfold In64; omega)
  obtain ⟨ub, vb⟩ := wrap_in (n := 3 * p1 - p0 - 3 * p2) (by unfold In64; omega)
  obtain ⟨uc, vc⟩ := wrap_in (n := 3 * p1 - p0 - 3 * p2 + p3) (by unfold In64; omega)
  obtain ⟨ud, vd⟩ := wrap_in (n := 2 * p1) (by unfold In64; omega)
  have JA := Lib.hid (show In64 (p2 - p0) by unfold In64; omega)
  have JB := Lib.hid (show In64 (2 * p0 - 5 * p1 + 4 * p2 - p3) by unfold In64; omega)
  have JC := Lib.hid (show In64 (3 * p1 - p0 - 3 * p2 + p3) by unfold In64; omega)
  have JD := Lib.hid (show In64 (2 * p1) by unfold In64; omega)
  have JT := Lib.hid ht
  unfold oneF oneO
  obtain ⟨A, hA⟩ : ∃ A, p2 - p0 = A := ⟨_, rfl⟩
  obtain ⟨B, hB⟩ : ∃ A, 2 * p0 - 5 * p1 + 4 * p2 - p3 = A := ⟨_, rfl⟩
  obtain ⟨C, hC⟩ : ∃ A, 3 * p1 - p0 - 3 * p2 + p3 = A := ⟨_, rfl⟩
  obtain ⟨D, hD⟩ : ∃ A, 2 * p1 = A := ⟨_, rfl⟩
  rw [hA, hB, hC, hD]
  rw [hA] at JA
  rw [hB] at JB
  rw [hC] at JC
  rw [hD] at JD
  have w1 : IntKind.i64.wrap (p2 - p0) = A := u1.trans hA
  have w2 : IntKind.i64.wrap (2 * p0 - 5 * p1 + 4 * p2 - p3) = B := u7.trans hB
  have w3 : IntKind.i64.wrap (3 * p1 - p0 - 3 * p2 + p3) = C := uc.trans hC
  have w4 : IntKind.i64.wrap (2 * p1) = D := ud.trans hD
  have w5 : wrap64 (p2 - p0) = A := v1.trans hA
  have w6 : wrap64 (2 * p0 - 5 * p1 + 4 * p2 - p3) = B := v7.trans hB
  have w7 : wrap64 (3 * p1 - p0 - 3 * p2 + p3) = C := vc.trans hC
  have w8 : wrap64 (2 * p1) = D := vd.trans hD
  clear u1 u7 uc ud v1 v7 vc vd hA hB hC hD h0 h1 h2 h3 ht
  go_enter Try.func28, Try.ntmps28
  go_wp2_with fail
  refine (rfMul_any C t b k _ _ JC.out.1 JC.out.2 JT.out.1 JT.out.2 G0.out.m).mono ?_
  rintro e w1 ⟨rfl, h⟩
  have G1 := Lib.hid (G0.out.fx h)
  clear h G0
  go_wp2_with fail
  refine (rfAdd_any B (mulF C t) b k _ _ JB.out.1 JB.out.2 (mulF_in _ _).1 (mulF_in _ _).2 G1.out.m).mono ?_
  rintro e w2 ⟨rfl, h⟩
  have G2 := Lib.hid (G1.out.fx h)
  clear h G1
  go_wp2_with fail
  refine (rfMul_any (addF B (mulF C t)) t b k _ _ (addF_in _ _).1 (addF_in _ _).2 JT.out.1 JT.out.2 G2.out.m).mono ?_
  rintro e w3 ⟨rfl, h⟩
  have G3 := Lib.hid (G2.out.fx h)
  clear h G2
  go_wp2_with fail
  refine (rfAdd_any A (mulF (addF B (mulF C t)) t) b k _ _ JA.out.1 JA.out.2 (mulF_in _ _).1 (mulF_in _ _).2 G3.out.m).mono ?_
  rintro e w4 ⟨rfl, h⟩
  have G4 := Lib.hid (G3.out.fx h)
  clear h G3
  go_wp2_with fail
  refine (rfMul_any (addF A (mulF (addF B (mulF C t)) t)) t b k _ _ (addF_in _ _).1 (addF_in _ _).2 JT.out.1 JT.out.2 G4.out.m).mono ?_
  rintro e w5 ⟨rfl, h⟩
  have G5 := Lib.hid (G4.out.fx h)
  clear h G4
  go_wp2_with fail
  refine (rfAdd_any D (mulF (addF A (mulF (addF B (mulF C t)) t)) t) b k _ _ JD.out.1 JD.out.2 (mulF_in _ _).1 (mulF_in _ _).2 G5.out.m).mono ?_
  rintro e w6 ⟨rfl, h⟩
  have G6 := Lib.hid (G5.out.fx h)
  clear h G5
  go_wp2_with fail
  refine (rfMul_any (addF D (mulF (addF A (mulF (addF B (mulF C t)) t)) t)) 2147483648 b k _ _ (addF_in _ _).1 (addF_in _ _).2 (by omega) (by omega) G6.out.m).mono ?_
  rintro e w7 ⟨rfl, h⟩
  have G7 := Lib.hid (G6.out.fx h)
  clear h G6
  go_wp2
  go_ret
  exact ⟨rfl, by have := G7.out.f; simp only [Bool.or_assoc] at this ⊢; exact this⟩
end Go.Proofs.Ytjdhjabbojceeaa
