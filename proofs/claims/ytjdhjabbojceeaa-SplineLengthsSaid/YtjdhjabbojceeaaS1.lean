/- The program's spline: points against the bounds, a line, the closure of a coordinate, a place. -/
import Derived.Test.YtjdhjabbojceeaaSd
import Derived.Test.YtjdhjabbojceeaaJe
import Derived.Test.YtjdhjabbojceeaaBq
import Derived.Test.YtjdhjabbojceeaaZi
namespace Go.Proofs.Ytjdhjabbojceeaa
open Go.RowKit
set_option linter.unusedVariables false
set_option linter.unusedSimpArgs false

theorem spInside_any (c : Int) (w : World) :
    Calls Try.prog 43 #[.int .i64 c] w fun e w' => e = .returned (.bool (decide (Rg c))) ∧ w' = w := by
  obtain ⟨r, hr⟩ : ∃ r, decide (Rg c) = r := ⟨_, rfl⟩
  rw [hr]
  have R := Lib.hid hr
  clear hr
  go_enter Try.func43, Try.ntmps43
  by_cases h : -281474976710656 ≤ c
  · have E := Lib.hid (show decide (c ≤ 281474976710656) = r by rw [← R.out, decide_eq_decide]; unfold Rg; omega)
    clear R
    go_wp2
    go_ret
    exact ⟨by rw [← E.out]; rfl, rfl⟩
  · have E := Lib.hid (show false = r by rw [← R.out]; symm; rw [decide_eq_false_iff_not]; unfold Rg; omega)
    clear R
    go_wp2
    go_ret
    exact ⟨by rw [← E.out]; rfl, rfl⟩
set_option maxHeartbeats 4000000 in
theorem spWithin_any (a : Option Addr) (n c : Nat) (X Y : Nat → Int) (w : World) (hmax : n ≤ 1000) (D : Dots w a n c X Y) :
    Calls Try.prog 25 #[.slice a n c] w fun e w' => e = .returned (.bool (decide (nearN n X Y))) ∧ Below w.heap.size w w' := by
  have HD := Lib.hid D
  obtain ⟨N, hN⟩ : ∃ N, decide (nearN n X Y) = N := ⟨_, rfl⟩
  rw [hN]
  have HN := Lib.hid hN
  clear D hN
  go_enter Try.func25, Try.ntmps25
  go_wp2
  go_loopw [7] (fun i wr => ∃ j : Nat, j ≤ n ∧ i = .int .i64 j ∧ Hid (∀ k, k < j → Rg (X k) ∧ Rg (Y k)) ∧ Dots wr a n c X Y ∧ Below w.heap.size w wr) (fun i _ => n - (intOf i).toNat)
  case atStart => exact ⟨0, by omega, rfl, Lib.hid (fun k h => absurd h (by omega)), HD.out, Below.refl _ _⟩
  case round =>
    obtain ⟨j, hj, rfl, I, hD, hB⟩ := hrel
    have D1 := Lib.hid hD
    have B1 := Lib.hid hB
    clear hD hB HD
    by_cases hlt : j < n
    · obtain ⟨b, off, ha, hb, hcell⟩ := D1.out.at' (by omega)
      subst ha
      obtain ⟨c0, c1⟩ := hcell j hlt
      have z0 : (0 : Int) ≤ (j : Int) := by omega
      have z1 : (j : Int) < (n : Int) := by omega
      have I2 := Lib.hid (fun (q : Rg (X j) ∧ Rg (Y j)) => all_next' (P := fun k => Rg (X k) ∧ Rg (Y k)) I.out q)
      have I3 := Lib.hid (fun (q : ¬ (Rg (X j) ∧ Rg (Y j))) => show false = N by rw [← HN.out]; symm; rw [decide_eq_false_iff_not]; exact fun k => q (k j hlt))
      clear hcell I
      go_wp2_with fail
      refine calls_gen (S := fun W => BW W wr.heap.size [.int .i64 (X j), .int .i64 (Y j)] ∧ Dots W (some ⟨b, off, none⟩) n c X Y ∧ Below w.heap.size w W) ⟨BW.new wr _ [_, _] _ rfl, D1.out.below ((Below.refl _ _).alloc (Nat.le_refl _) _) (Nat.le_refl _), B1.out.alloc B1.out.size _⟩ (fun W0 hS => ?_)
      have a1 : W0.cell? ⟨wr.heap.size, 1, none⟩ = some (.int .i64 (Y j)) := hS.1.c 1 _ rfl
      have D2 := Lib.hid hS.2.1
      have B2 := Lib.hid hS.2.2
      clear hS D1 B1 c0 c1
      generalize wr.heap.size = n1 at *
      refine (spInside_any (X j) _).mono ?_
      rintro e w1 ⟨rfl, rfl⟩
      by_cases hx : Rg (X j)
      · rw [decide_eq_true hx]
        go_wp2_with fail
        refine (spInside_any (Y j) _).mono ?_
        rintro e w2 ⟨rfl, rfl⟩
        by_cases hy : Rg (Y j)
        · rw [decide_eq_true hy]
          have E2 := Lib.hid (I2.out ⟨hx, hy⟩)
          clear hx hy I2 I3
          go_wp2
          go_roundw
          case rel => exact ⟨j + 1, by omega, by go_num, E2, D2.out, B2.out⟩
          case measure => simp [intOf]; omega
        · rw [decide_eq_false hy]
          have E2 := Lib.hid (I3.out (fun h => hy h.2))
          clear hx hy I2 I3
          go_wp2
          go_ret
          exact ⟨by rw [← E2.out]; rfl, B2.out⟩
      · rw [decide_eq_false hx]
        have E2 := Lib.hid (I3.out (fun h => hx h.1))
        clear hx I2 I3
        go_wp2
        go_ret
        exact ⟨by rw [← E2.out]; rfl, B2.out⟩
    · have E := Lib.hid (show true = N by rw [← HN.out]; symm; rw [decide_eq_true_iff]; intro k hk; exact I.out k (by omega))
      clear I
      go_wp2
      go_ret
      exact ⟨by rw [← E.out]; rfl, B1.out⟩
theorem spRight_any (a : Option Addr) (n c : Nat) (X Y : Nat → Int) (w : World) (hmax : n ≤ 1000) (D : Dots w a n c X Y) :
    Calls Try.prog 9 #[.slice a n c] w fun e w' => e = .returned (.int .i64 (lineR n X Y)) ∧ Below w.heap.size w w' := by
  have V := Lib.hid (spWithin_any a n c X Y w hmax D)
  obtain ⟨q, hq⟩ : ∃ q, lineR n X Y = q := ⟨_, rfl⟩
  rw [hq]
  have HQ := Lib.hid hq
  clear D hq
  by_cases s1 : n < 3
  · have g1 : (n : Int) < 3 := by omega
    have E := Lib.hid (show 42 = q by rw [← HQ.out]; unfold lineR; rw [if_pos (Or.inl s1)])
    clear V
    go_enter Try.func9, Try.ntmps9
    go_wp2
    go_ret
    exact ⟨retI E.out, Below.refl _ _⟩
  have g1 : ¬ (n : Int) < 3 := by omega
  by_cases s2 : 64 < n
  · have g2 : (64 : Int) < n := by omega
    have E := Lib.hid (show 42 = q by rw [← HQ.out]; unfold lineR; rw [if_pos (Or.inr s2)])
    clear V
    go_enter Try.func9, Try.ntmps9
    go_wp2
    go_ret
    exact ⟨retI E.out, Below.refl _ _⟩
  have g2 : ¬ (64 : Int) < n := by omega
  by_cases hn : nearN n X Y
  · rw [decide_eq_true hn] at V
    have E := Lib.hid (show 0 = q by rw [← HQ.out]; unfold lineR; rw [if_neg (by omega), if_pos hn])
    go_enter Try.func9, Try.ntmps9
    go_wp2_with fail
    refine (V.out).mono ?_
    rintro e w1 ⟨rfl, h⟩
    have HB := Lib.hid h
    clear h
    go_wp2
    go_ret
    exact ⟨retI E.out, HB.out⟩
  · rw [decide_eq_false hn] at V
    have E := Lib.hid (show 40 = q by rw [← HQ.out]; unfold lineR; rw [if_neg (by omega), if_neg hn])
    go_enter Try.func9, Try.ntmps9
    go_wp2_with fail
    refine (V.out).mono ?_
    rintro e w1 ⟨rfl, h⟩
    have HB := Lib.hid h
    clear h
    go_wp2
    go_ret
    exact ⟨retI E.out, HB.out⟩
set_option maxRecDepth 100000 in
set_option maxHeartbeats 4000000 in
theorem cPlace_any (p0 p1 p2 p3 t : Int) (n1 n2 b k : Nat) (o : Bool) (w : World) (h0 : Rg p0) (h1 : Rg p1) (h2 : Rg p2) (h3 : Rg p3) (ht : In64 t) (hbi : b ≠ n2) (P : PB w n1 b k) (I : IB w n2 t) (m : MAt w b k o) :
    Calls Try.prog 44 #[.int .i64 p0, .int .i64 p1, .int .i64 p2, .int .i64 p3, .pointer (some ⟨n1, 0, none⟩), .pointer (some ⟨n2, 0, none⟩)] w fun e w' => e = .returned (.int .i64 (oneF p0 p1 p2 p3 t)) ∧ FxW w.heap.size w b k (o || oneO p0 p1 p2 p3 t) w' := by
  have G0 := Lib.hid (Flag.start m (Below.refl w.heap.size w))
  have P0 := Lib.hid P
  have I0 := Lib.hid I
  clear m P I
  unfold Rg at h0 h1 h2 h3
  obtain ⟨u1, v1⟩ := wrap_in (n := p2 - p0) (by unfold In64; omega)
  obtain ⟨u2, v2⟩ := wrap_in (n := 2 * p0) (by unfold In64; omega)
  obtain ⟨u3, v3⟩ := wrap_in (n := 5 * p1) (by unfold In64; omega)
  obtain ⟨u4, v4⟩ := wrap_in (n := 4 * p2) (by unfold In64; omega)
  obtain ⟨u5, v5⟩ := wrap_in (n := 2 * p0 - 5 * p1) (by unfold In64; omega)
  obtain ⟨u6, v6⟩ := wrap_in (n := 2 * p0 - 5 * p1 + 4 * p2) (by unfold In64; omega)
  obtain ⟨u7, v7⟩ := wrap_in (n := 2 * p0 - 5 * p1 + 4 * p2 - p3) (by unfold In64; omega)
  obtain ⟨u8, v8⟩ := wrap_in (n := 3 * p1) (by unfold In64; omega)
  obtain ⟨u9, v9⟩ := wrap_in (n := 3 * p1 - p0) (by unfold In64; omega)
  obtain ⟨ua, va⟩ := wrap_in (n := 3 * p2) (by unfold In64; omega)
  obtain ⟨ub, vb⟩ := wrap_in (n := 3 * p1 - p0 - 3 * p2) (by unfold In64; omega)
  obtain ⟨uc, vc⟩ := wrap_in (n := 3 * p1 - p0 - 3 * p2 + p3) (by unfold In64; omega)
  obtain ⟨ud, vd⟩ := wrap_in (n := 2 * p1) (by unfold In64; omega)
  have JA := Lib.hid (show In64 (p2 - p0) by unfold In64; omega)
  have JB := Lib.hid (show In64 (2 * p0 - 5 * p1 + 4 * p2 - p3) by unfold In64; omega)
  have JC := Lib.hid (show In64 (3 * p1 - p0 - 3 * p2 + p3) by unfold In64; omega)
  have JD := Lib.hid (show In64 (2 * p1) by unfold In64; omega)
  have JT := Lib.hid ht
  unfold oneF oneO
  obtain ⟨A, hA⟩ : ∃ A, p2 - p0 = A := ⟨_, rfl⟩
  obtain ⟨B, hB⟩ : ∃ A, 2 * p0 - 5 * p1 + 4 * p2 - p3 = A := ⟨_, rfl⟩
  obtain ⟨C, hC⟩ : ∃ A, 3 * p1 - p0 - 3 * p2 + p3 = A := ⟨_, rfl⟩
  obtain ⟨D, hD⟩ : ∃ A, 2 * p1 = A := ⟨_, rfl⟩
  rw [hA, hB, hC, hD]
  rw [hA] at JA
  rw [hB] at JB
  rw [hC] at JC
  rw [hD] at JD
  have w1 : IntKind.i64.wrap (p2 - p0) = A := u1.trans hA
  have w2 : IntKind.i64.wrap (2 * p0 - 5 * p1 + 4 * p2 - p3) = B := u7.trans hB
  have w3 : IntKind.i64.wrap (3 * p1 - p0 - 3 * p2 + p3) = C := uc.trans hC
  have w4 : IntKind.i64.wrap (2 * p1) = D := ud.trans hD
  have w5 : wrap64 (p2 - p0) = A := v1.trans hA
  have w6 : wrap64 (2 * p0 - 5 * p1 + 4 * p2 - p3) = B := v7.trans hB
  have w7 : wrap64 (3 * p1 - p0 - 3 * p2 + p3) = C := vc.trans hC
  have w8 : wrap64 (2 * p1) = D := vd.trans hD
  clear u1 u7 uc ud v1 v7 vc vd hA hB hC hD h0 h1 h2 h3 ht
  go_enter Try.func44, Try.ntmps44
  go_wp2_with fail
  have P1 := Lib.hid P0.out.drew
  have I1 := Lib.hid I0.out.drew
  have G1 := Lib.hid (G0.out.more ((Below.refl _ _).drew))
  clear P0 I0 G0
  refine wp_region_held_drew (S := fun W => W.cell? ⟨n1, 0, none⟩ = some (.pointer (some ⟨b, k, none⟩)) ∧ W.cell? ⟨n2, 0, none⟩ = some (.int .i64 t)) (by kernel_rfl) ⟨P1.out.c, I1.out.c⟩ (fun hHeld => ?_)
  refine wpAnyH_takeD 0 37 (v := ?_) (by kernel_rfl) (by kernel_rfl) (by kernel_rfl) (by kernel_rfl) (by rfl) (fun _ _ _ h => h) ?_ hHeld ?_
  rotate_left 1
  (intro o ho W hSw; simp only [List.getElem?_toArray, List.getElem?_cons_succ, List.getElem?_cons_zero, Option.some.injEq] at ho; subst ho; (try dsimp only at hSw); go_simp; try with_reducible rfl)
  (try simp only [Act.put, List.setIfInBounds_toArray, List.set_cons_zero, List.set_cons_succ])
  refine wpAnyH_takeD 1 38 (v := ?_) (by kernel_rfl) (by kernel_rfl) (by kernel_rfl) (by kernel_rfl) (by rfl) (fun _ _ _ h => h) ?_ hHeld ?_
  rotate_left 1
  (intro o ho W hSw; simp only [List.getElem?_toArray, List.getElem?_cons_succ, List.getElem?_cons_zero, Option.some.injEq] at ho; subst ho; (try dsimp only at hSw); go_simp; try with_reducible rfl)
  (try simp only [Act.put, List.setIfInBounds_toArray, List.set_cons_zero, List.set_cons_succ])
  refine wpAnyH_takeD 2 39 (v := ?_) (by kernel_rfl) (by kernel_rfl) (by kernel_rfl) (by kernel_rfl) (by rfl) (fun _ _ _ h => h) ?_ hHeld ?_
  rotate_left 1
  (intro o ho W hSw; simp only [List.getElem?_toArray, List.getElem?_cons_succ, List.getElem?_cons_zero, Option.some.injEq] at ho; subst ho; (try dsimp only at hSw); go_simp; try with_reducible rfl)
  (try simp only [Act.put, List.setIfInBounds_toArray, List.set_cons_zero, List.set_cons_succ])
  refine wpAnyH_takeD 3 40 (v := ?_) (by kernel_rfl) (by kernel_rfl) (by kernel_rfl) (by kernel_rfl) (by rfl) (fun _ _ _ h => h) ?_ hHeld ?_
  rotate_left 1
  (intro o ho W hSw; simp only [List.getElem?_toArray, List.getElem?_cons_succ, List.getElem?_cons_zero, Option.some.injEq] at ho; subst ho; (try dsimp only at hSw); go_simp; try with_reducible rfl)
  (try simp only [Act.put, List.setIfInBounds_toArray, List.set_cons_zero, List.set_cons_succ])
  refine wpAnyH_takeD 4 41 (v := ?_) (by kernel_rfl) (by kernel_rfl) (by kernel_rfl) (by kernel_rfl) (by rfl) (fun _ _ _ h => h) ?_ hHeld ?_
  rotate_left 1
  (intro o ho W hSw; simp only [List.getElem?_toArray, List.getElem?_cons_succ, List.getElem?_cons_zero, Option.some.injEq] at ho; subst ho; (try dsimp only at hSw); go_simp; try with_reducible rfl)
  (try simp only [Act.put, List.setIfInBounds_toArray, List.set_cons_zero, List.set_cons_succ])
  refine wpAnyH_onlyD 5 (by kernel_rfl) (fun o ho K hK => ?_) (by kernel_rfl)
  simp only [List.getElem?_toArray, List.getElem?_cons_succ, List.getElem?_cons_zero, Option.some.injEq] at ho
  subst ho
  go_simp
  (try rw [w4])
  (try rw [w8])
  refine (fxMul_any C t b k _ _ JC.out.1 JC.out.2 JT.out.1 JT.out.2 G1.out.m).mono ?_
  rintro e w2' ⟨rfl, h⟩
  have G2 := Lib.hid (G1.out.fx h)
  have P2 := Lib.hid (P1.out.fx h)
  have I2 := Lib.hid (I1.out.fx h hbi)
  go_wp2_with fail
  refine hK.out _ _ (⟨P2.out.c, I2.out.c⟩) ?_
  clear hK K hHeld
  intro hHeld
  clear h G1 P1 I1
  refine wpAnyH_onlyD 6 (by kernel_rfl) (fun o ho K hK => ?_) (by kernel_rfl)
  simp only [List.getElem?_toArray, List.getElem?_cons_succ, List.getElem?_cons_zero, Option.some.injEq] at ho
  subst ho
  go_simp
  (try rw [w4])
  (try rw [w8])
  refine (fxAdd_any B (mulF C t) b k _ _ JB.out.1 JB.out.2 (mulF_in _ _).1 (mulF_in _ _).2 G2.out.m).mono ?_
  rintro e w3' ⟨rfl, h⟩
  have G3 := Lib.hid (G2.out.fx h)
  have P3 := Lib.hid (P2.out.fx h)
  have I3 := Lib.hid (I2.out.fx h hbi)
  go_wp2_with fail
  refine hK.out _ _ (⟨P3.out.c, I3.out.c⟩) ?_
  clear hK K hHeld
  intro hHeld
  clear h G2 P2 I2
  refine wpAnyH_takeD 7 14 (v := ?_) (by kernel_rfl) (by kernel_rfl) (by kernel_rfl) (by kernel_rfl) (by rfl) (fun _ _ _ h => h) ?_ hHeld ?_
  rotate_left 1
  (intro o ho W hSw; simp only [List.getElem?_toArray, List.getElem?_cons_succ, List.getElem?_cons_zero, Option.some.injEq] at ho; subst ho; (try dsimp only at hSw); go_simp; try with_reducible rfl)
  (try simp only [Act.put, List.setIfInBounds_toArray, List.set_cons_zero, List.set_cons_succ])
  refine wpAnyH_done (by kernel_rfl) ?_ _
  clear hHeld
  go_wp2_with fail
  have P4 := Lib.hid P3.out.drew
  have I4 := Lib.hid I3.out.drew
  have G4 := Lib.hid (G3.out.more ((Below.refl _ _).drew))
  clear P3 I3 G3
  refine wp_region_held_drew (S := fun W => W.cell? ⟨n1, 0, none⟩ = some (.pointer (some ⟨b, k, none⟩)) ∧ W.cell? ⟨n2, 0, none⟩ = some (.int .i64 t)) (by kernel_rfl) ⟨P4.out.c, I4.out.c⟩ (fun hHeld => ?_)
  refine wpAnyH_takeD 0 44 (v := ?_) (by kernel_rfl) (by kernel_rfl) (by kernel_rfl) (by kernel_rfl) (by rfl) (fun _ _ _ h => h) ?_ hHeld ?_
  rotate_left 1
  (intro o ho W hSw; simp only [List.getElem?_toArray, List.getElem?_cons_succ, List.getElem?_cons_zero, Option.some.injEq] at ho; subst ho; (try dsimp only at hSw); go_simp; try with_reducible rfl)
  (try simp only [Act.put, List.setIfInBounds_toArray, List.set_cons_zero, List.set_cons_succ])
  refine wpAnyH_takeD 1 45 (v := ?_) (by kernel_rfl) (by kernel_rfl) (by kernel_rfl) (by kernel_rfl) (by rfl) (fun _ _ _ h => h) ?_ hHeld ?_
  rotate_left 1
  (intro o ho W hSw; simp only [List.getElem?_toArray, List.getElem?_cons_succ, List.getElem?_cons_zero, Option.some.injEq] at ho; subst ho; (try dsimp only at hSw); go_simp; try with_reducible rfl)
  (try simp only [Act.put, List.setIfInBounds_toArray, List.set_cons_zero, List.set_cons_succ])
  refine wpAnyH_takeD 2 46 (v := ?_) (by kernel_rfl) (by kernel_rfl) (by kernel_rfl) (by kernel_rfl) (by rfl) (fun _ _ _ h => h) ?_ hHeld ?_
  rotate_left 1
  (intro o ho W hSw; simp only [List.getElem?_toArray, List.getElem?_cons_succ, List.getElem?_cons_zero, Option.some.injEq] at ho; subst ho; (try dsimp only at hSw); go_simp; try with_reducible rfl)
  (try simp only [Act.put, List.setIfInBounds_toArray, List.set_cons_zero, List.set_cons_succ])
  refine wpAnyH_takeD 3 47 (v := ?_) (by kernel_rfl) (by kernel_rfl) (by kernel_rfl) (by kernel_rfl) (by rfl) (fun _ _ _ h => h) ?_ hHeld ?_
  rotate_left 1
  (intro o ho W hSw; simp only [List.getElem?_toArray, List.getElem?_cons_succ, List.getElem?_cons_zero, Option.some.injEq] at ho; subst ho; (try dsimp only at hSw); go_simp; try with_reducible rfl)
  (try simp only [Act.put, List.setIfInBounds_toArray, List.set_cons_zero, List.set_cons_succ])
  refine wpAnyH_takeD 4 48 (v := ?_) (by kernel_rfl) (by kernel_rfl) (by kernel_rfl) (by kernel_rfl) (by rfl) (fun _ _ _ h => h) ?_ hHeld ?_
  rotate_left 1
  (intro o ho W hSw; simp only [List.getElem?_toArray, List.getElem?_cons_succ, List.getElem?_cons_zero, Option.some.injEq] at ho; subst ho; (try dsimp only at hSw); go_simp; try with_reducible rfl)
  (try simp only [Act.put, List.setIfInBounds_toArray, List.set_cons_zero, List.set_cons_succ])
  refine wpAnyH_onlyD 5 (by kernel_rfl) (fun o ho K hK => ?_) (by kernel_rfl)
  simp only [List.getElem?_toArray, List.getElem?_cons_succ, List.getElem?_cons_zero, Option.some.injEq] at ho
  subst ho
  go_simp
  (try rw [w4])
  (try rw [w8])
  refine (fxMul_any (addF B (mulF C t)) t b k _ _ (addF_in _ _).1 (addF_in _ _).2 JT.out.1 JT.out.2 G4.out.m).mono ?_
  rintro e w5' ⟨rfl, h⟩
  have G5 := Lib.hid (G4.out.fx h)
  have P5 := Lib.hid (P4.out.fx h)
  have I5 := Lib.hid (I4.out.fx h hbi)
  go_wp2_with fail
  refine hK.out _ _ (⟨P5.out.c, I5.out.c⟩) ?_
  clear hK K hHeld
  intro hHeld
  clear h G4 P4 I4
  refine wpAnyH_onlyD 6 (by kernel_rfl) (fun o ho K hK => ?_) (by kernel_rfl)
  simp only [List.getElem?_toArray, List.getElem?_cons_succ, List.getElem?_cons_zero, Option.some.injEq] at ho
  subst ho
  go_simp
  (try rw [w4])
  (try rw [w8])
  refine (fxAdd_any A (mulF (addF B (mulF C t)) t) b k _ _ JA.out.1 JA.out.2 (mulF_in _ _).1 (mulF_in _ _).2 G5.out.m).mono ?_
  rintro e w6' ⟨rfl, h⟩
  have G6 := Lib.hid (G5.out.fx h)
  have P6 := Lib.hid (P5.out.fx h)
  have I6 := Lib.hid (I5.out.fx h hbi)
  go_wp2_with fail
  refine hK.out _ _ (⟨P6.out.c, I6.out.c⟩) ?_
  clear hK K hHeld
  intro hHeld
  clear h G5 P5 I5
  refine wpAnyH_takeD 7 14 (v := ?_) (by kernel_rfl) (by kernel_rfl) (by kernel_rfl) (by kernel_rfl) (by rfl) (fun _ _ _ h => h) ?_ hHeld ?_
  rotate_left 1
  (intro o ho W hSw; simp only [List.getElem?_toArray, List.getElem?_cons_succ, List.getElem?_cons_zero, Option.some.injEq] at ho; subst ho; (try dsimp only at hSw); go_simp; try with_reducible rfl)
  (try simp only [Act.put, List.setIfInBounds_toArray, List.set_cons_zero, List.set_cons_succ])
  refine wpAnyH_done (by kernel_rfl) ?_ _
  clear hHeld
  go_wp2_with fail
  have P7 := Lib.hid P6.out.drew
  have I7 := Lib.hid I6.out.drew
  have G7 := Lib.hid (G6.out.more ((Below.refl _ _).drew))
  clear P6 I6 G6
  refine wp_region_held_drew (S := fun W => W.cell? ⟨n1, 0, none⟩ = some (.pointer (some ⟨b, k, none⟩)) ∧ W.cell? ⟨n2, 0, none⟩ = some (.int .i64 t)) (by kernel_rfl) ⟨P7.out.c, I7.out.c⟩ (fun hHeld => ?_)
  refine wpAnyH_takeD 0 51 (v := ?_) (by kernel_rfl) (by kernel_rfl) (by kernel_rfl) (by kernel_rfl) (by rfl) (fun _ _ _ h => h) ?_ hHeld ?_
  rotate_left 1
  (intro o ho W hSw; simp only [List.getElem?_toArray, List.getElem?_cons_succ, List.getElem?_cons_zero, Option.some.injEq] at ho; subst ho; (try dsimp only at hSw); go_simp; try with_reducible rfl)
  (try simp only [Act.put, List.setIfInBounds_toArray, List.set_cons_zero, List.set_cons_succ])
  refine wpAnyH_takeD 1 52 (v := ?_) (by kernel_rfl) (by kernel_rfl) (by kernel_rfl) (by kernel_rfl) (by rfl) (fun _ _ _ h => h) ?_ hHeld ?_
  rotate_left 1
  (intro o ho W hSw; simp only [List.getElem?_toArray, List.getElem?_cons_succ, List.getElem?_cons_zero, Option.some.injEq] at ho; subst ho; (try dsimp only at hSw); go_simp; try with_reducible rfl)
  (try simp only [Act.put, List.setIfInBounds_toArray, List.set_cons_zero, List.set_cons_succ])
  refine wpAnyH_takeD 2 53 (v := ?_) (by kernel_rfl) (by kernel_rfl) (by kernel_rfl) (by kernel_rfl) (by rfl) (fun _ _ _ h => h) ?_ hHeld ?_
  rotate_left 1
  (intro o ho W hSw; simp only [List.getElem?_toArray, List.getElem?_cons_succ, List.getElem?_cons_zero, Option.some.injEq] at ho; subst ho; (try dsimp only at hSw); go_simp; try with_reducible rfl)
  (try simp only [Act.put, List.setIfInBounds_toArray, List.set_cons_zero, List.set_cons_succ])
  refine wpAnyH_takeD 3 54 (v := ?_) (by kernel_rfl) (by kernel_rfl) (by kernel_rfl) (by kernel_rfl) (by rfl) (fun _ _ _ h => h) ?_ hHeld ?_
  rotate_left 1
  (intro o ho W hSw; simp only [List.getElem?_toArray, List.getElem?_cons_succ, List.getElem?_cons_zero, Option.some.injEq] at ho; subst ho; (try dsimp only at hSw); go_simp; try with_reducible rfl)
  (try simp only [Act.put, List.setIfInBounds_toArray, List.set_cons_zero, List.set_cons_succ])
  refine wpAnyH_takeD 4 55 (v := ?_) (by kernel_rfl) (by kernel_rfl) (by kernel_rfl) (by kernel_rfl) (by rfl) (fun _ _ _ h => h) ?_ hHeld ?_
  rotate_left 1
  (intro o ho W hSw; simp only [List.getElem?_toArray, List.getElem?_cons_succ, List.getElem?_cons_zero, Option.some.injEq] at ho; subst ho; (try dsimp only at hSw); go_simp; try with_reducible rfl)
  (try simp only [Act.put, List.setIfInBounds_toArray, List.set_cons_zero, List.set_cons_succ])
  refine wpAnyH_takeD 5 56 (v := ?_) (by kernel_rfl) (by kernel_rfl) (by kernel_rfl) (by kernel_rfl) (by rfl) (fun _ _ _ h => h) ?_ hHeld ?_
  rotate_left 1
  (intro o ho W hSw; simp only [List.getElem?_toArray, List.getElem?_cons_succ, List.getElem?_cons_zero, Option.some.injEq] at ho; subst ho; (try dsimp only at hSw); go_simp; try with_reducible rfl)
  (try simp only [Act.put, List.setIfInBounds_toArray, List.set_cons_zero, List.set_cons_succ])
  refine wpAnyH_onlyD 6 (by kernel_rfl) (fun o ho K hK => ?_) (by kernel_rfl)
  simp only [List.getElem?_toArray, List.getElem?_cons_succ, List.getElem?_cons_zero, Option.some.injEq] at ho
  subst ho
  go_simp
  (try rw [w4])
  (try rw [w8])
  refine (fxMul_any (addF A (mulF (addF B (mulF C t)) t)) t b k _ _ (addF_in _ _).1 (addF_in _ _).2 JT.out.1 JT.out.2 G7.out.m).mono ?_
  rintro e w8' ⟨rfl, h⟩
  have G8 := Lib.hid (G7.out.fx h)
  have P8 := Lib.hid (P7.out.fx h)
  have I8 := Lib.hid (I7.out.fx h hbi)
  go_wp2_with fail
  refine hK.out _ _ (⟨P8.out.c, I8.out.c⟩) ?_
  clear hK K hHeld
  intro hHeld
  clear h G7 P7 I7
  refine wpAnyH_onlyD 7 (by kernel_rfl) (fun o ho K hK => ?_) (by kernel_rfl)
  simp only [List.getElem?_toArray, List.getElem?_cons_succ, List.getElem?_cons_zero, Option.some.injEq] at ho
  subst ho
  go_simp
  (try rw [w4])
  (try rw [w8])
  refine (fxAdd_any D (mulF (addF A (mulF (addF B (mulF C t)) t)) t) b k _ _ JD.out.1 JD.out.2 (mulF_in _ _).1 (mulF_in _ _).2 G8.out.m).mono ?_
  rintro e w9' ⟨rfl, h⟩
  have G9 := Lib.hid (G8.out.fx h)
  have P9 := Lib.hid (P8.out.fx h)
  have I9 := Lib.hid (I8.out.fx h hbi)
  go_wp2_with fail
  refine hK.out _ _ (⟨P9.out.c, I9.out.c⟩) ?_
  clear hK K hHeld
  intro hHeld
  clear h G8 P8 I8
  refine wpAnyH_takeD 8 14 (v := ?_) (by kernel_rfl) (by kernel_rfl) (by kernel_rfl) (by kernel_rfl) (by rfl) (fun _ _ _ h => h) ?_ hHeld ?_
  rotate_left 1
  (intro o ho W hSw; simp only [List.getElem?_toArray, List.getElem?_cons_succ, List.getElem?_cons_zero, Option.some.injEq] at ho; subst ho; (try dsimp only at hSw); go_simp; try with_reducible rfl)
  (try simp only [Act.put, List.setIfInBounds_toArray, List.set_cons_zero, List.set_cons_succ])
  refine wpAnyH_done (by kernel_rfl) ?_ _
  clear hHeld
  have pc := P9.out.c
  go_wp2_with fail
  refine (fxMul_any (addF D (mulF (addF A (mulF (addF B (mulF C t)) t)) t)) 2147483648 b k _ _ (addF_in _ _).1 (addF_in _ _).2 (by omega) (by omega) G9.out.m).mono ?_
  rintro e wz ⟨rfl, h⟩
  have Ga := Lib.hid (G9.out.fx h)
  clear h G9 P9 I9 pc
  go_wp2
  go_ret
  exact ⟨rfl, by have := Ga.out.f; simp only [Bool.or_assoc] at this ⊢; exact this⟩
end Go.Proofs.Ytjdhjabbojceeaa
