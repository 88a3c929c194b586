/- The program's fence: put. -/
import Derived.Test.YtllkhgcokbpggaaU2
namespace Go.Proofs.Ytllkhgcokbpggaa
open Go.RowKit
set_option linter.unusedVariables false
set_option linter.unusedSimpArgs false

theorem div_in {x B : Int} (l : Nat) (h : -B ≤ x ∧ x ≤ B) (hB : 0 ≤ B) : -B ≤ x / 2 ^ l ∧ x / 2 ^ l ≤ B := by
  have hm : (0 : Int) < 2 ^ l := Int.pow_pos (by omega)
  have h1 : B ≤ B * 2 ^ l := by
    have := Int.mul_le_mul_of_nonneg_left (show (1 : Int) ≤ 2 ^ l by omega) hB
    omega
  refine ⟨Int.le_ediv_of_mul_le hm ?_, Int.ediv_le_of_le_mul hm (by omega)⟩
  rw [Int.neg_mul]
  omega
theorem kW_at {l : Nat} {x y B : Int} (hl : l ≤ 60) (hx : -B ≤ x ∧ x ≤ B) (hy : -B ≤ y ∧ y ≤ B) (hB : 0 ≤ B ∧ B ≤ 1000000000000000) : kW (atK l x y) := by
  have a := div_in l hx hB.1
  have b := div_in l hy hB.1
  refine ⟨?_, ?_, ?_⟩
  · show (Lit.int .i64 (l : Int)).wf = true
    exact WalkArith.wf_i64 (by omega)
  · show (Lit.int .i64 (x / 2 ^ l)).wf = true
    exact WalkArith.wf_i64 (by omega)
  · show (Lit.int .i64 (y / 2 ^ l)).wf = true
    exact WalkArith.wf_i64 (by omega)
theorem kW_hm (g : Fv) : kW (hmG g) := kW_at (by have := (lv_in g).2; omega) (cl_in _) (cl_in _) (by omega)
set_option maxRecDepth 100000 in
set_option maxHeartbeats 4000000 in
theorem fPut_any {base f mb : Nat} {bv : Value} {m : Nat} {g : Nat → Fv} {Ls : List Int} {w : World} {lv : Value} {L : List MapEntry} {ck : Nat} (F : FeM base f mb bv (celI g m) Ls w lv L ck) (H : lvM g m Ls) (hm : m ≤ 2000) :
    Calls Try.prog 23 #[.pointer (some ⟨f, 0, none⟩), .int .i64 m, kV (hmG (g m))] w fun e w' => e = .returned (.tuple #[]) ∧ (∃ Ls' lv' L' ck', FeM base f mb bv (celI g (m + 1)) Ls' w' lv' L' ck' ∧ lvM g (m + 1) Ls') ∧ Below mb w w' := by
  have KW := Lib.hid (kW_hm (g m))
  have CA := Lib.hid (celI_add g m)
  have CL := Lib.hid (show (celI g m (hmG (g m))).length ≤ 2000 by have := selI_len (fun i => decide (hmG (g i) = hmG (g m))) m; unfold celI; omega)
  have HL := Lib.hid H
  have LE : (hmG (g m)).1 = (lvG (g m) : Int) := rfl
  have LV := Lib.hid LE
  clear H LE
  obtain ⟨c, hc⟩ : ∃ c, hmG (g m) = c := ⟨_, rfl⟩
  rw [hc] at KW CA CL LV ⊢
  obtain ⟨kl, kc, kr⟩ := c
  clear hc
  have S0 := Lib.hid (F.below ((Below.refl w.heap.size w).alloc (Nat.le_refl _) (.cells #[.int .i64 kl, .int .i64 kc, .int .i64 kr] 60)))
  have B0 := Lib.hid (BW.new w _ [.int .i64 kl, .int .i64 kc, .int .i64 kr] 60 rfl)
  have ZM := Lib.hid (show mb < f ∧ f < base ∧ base ≤ w.heap.size from ⟨F.b.2.1, F.b.1, F.b.2.2⟩)
  have Z0 := Lib.hid (((Below.refl w.heap.size w).alloc (Nat.le_refl _) (.cells #[.int .i64 kl, .int .i64 kc, .int .i64 kr] 60)).mono (show mb ≤ w.heap.size by have := ZM.out; omega))
  have RV := Lib.hid (show ∀ q, lv.ownBlock = some q → q < w.heap.size from fun q e => (ob_lt F.l e).2)
  have RL := Lib.hid (show ∀ x ∈ L, ∀ q, x.val.ownBlock = some q → q < w.heap.size from fun x hx q e => by
    obtain ⟨d, _, _, _, o⟩ := F.e.e x hx
    exact (ob_lt o e).2)
  unfold kV
  dsimp only
  clear F
  go_enter Try.func23, Try.ntmps23
  go_wp2_with fail
  refine wp_gen (S := fun W => FeM base f mb bv (celI g m) Ls W lv L ck ∧ BW W w.heap.size [.int .i64 kl, .int .i64 kc, .int .i64 kr] ∧ Below mb w W) ⟨S0.out, B0.out, Z0.out⟩ (fun w1 hS => ?_)
  have S1 := Lib.hid hS.1
  have B1 := Lib.hid hS.2.1
  have Z1 := Lib.hid hS.2.2
  clear hS S0 B0 Z0
  go_cut [6] (fun t W => ∃ L' ck', FeM base f mb bv (fun d => if d = (kl, kc, kr) then celI g m (kl, kc, kr) ++ [(m : Int)] else celI g m d) Ls W lv L' ck' ∧ BW W w.heap.size [.int .i64 kl, .int .i64 kc, .int .i64 kr] ∧ Below mb w W)
  case first =>
    refine wp_region_held_drew (S := fun W => W.cell? ⟨f, 1, none⟩ = some (.map (some mb)) ∧ W.cell? ⟨w.heap.size, 0, none⟩ = some (.int .i64 kl) ∧ W.cell? ⟨w.heap.size, 1, none⟩ = some (.int .i64 kc) ∧ W.cell? ⟨w.heap.size, 2, none⟩ = some (.int .i64 kr)) (by kernel_rfl) ⟨S1.out.c.c 1 _ rfl, B1.out.c 0 _ rfl, B1.out.c 1 _ rfl, B1.out.c 2 _ rfl⟩ (fun hHeld => ?_)
    have S2 := Lib.hid (S1.out.below (Below.refl _ _).drew)
    have B2 := Lib.hid B1.out.drew
    have Z2 := Lib.hid Z1.out.drew
    clear S1 B1 Z1
    generalize w1.drew = w2 at *
    refine tkD 0 6 (v := ?_) ?_ hHeld ?_
    rotate_left 1
    (intro W hSw; (try dsimp only at hSw); go_simp; try with_reducible rfl)
    (try simp only [putA, putB, putC, putD])
    refine tkD 1 7 (v := ?_) ?_ hHeld ?_
    rotate_left 1
    (intro W hSw; (try dsimp only at hSw); go_simp; try with_reducible rfl)
    (try simp only [putA, putB, putC, putD])
    refine tkD 2 8 (v := ?_) ?_ hHeld ?_
    rotate_left 1
    (intro W hSw; (try dsimp only at hSw); go_simp; try with_reducible rfl)
    (try simp only [putA, putB, putC, putD])
    refine tkD 3 9 (v := ?_) ?_ hHeld ?_
    rotate_left 1
    (intro W hSw; (try dsimp only at hSw); go_simp; try with_reducible rfl)
    (try simp only [putA, putB, putC, putD])
    refine tkD 4 10 (v := ?_) ?_ hHeld ?_
    rotate_left 1
    (intro W hSw; (try dsimp only at hSw); go_simp; try with_reducible rfl)
    (try simp only [putA, putB, putC, putD])
    refine tkD 5 12 (v := ?_) ?_ hHeld ?_
    rotate_left 1
    (intro W hSw; (try dsimp only at hSw); go_simp; try with_reducible rfl)
    (try simp only [putA, putB, putC, putD])
    refine wpAnyH_onlyD 6 (by kernel_rfl) (fun o ho K hK => ?_) (by kernel_rfl)
    simp only [List.getElem?_toArray, List.getElem?_cons_succ, List.getElem?_cons_zero, Option.some.injEq] at ho
    subst ho
    go_simp
    have b1 := (Below.refl w2.heap.size w2).alloc (Nat.le_refl _) (.cells #[.int .i64 m] 3)
    have S3 := Lib.hid (S2.out.below b1)
    have B3 := Lib.hid (B2.out.below b1 B2.out.lt)
    have N3 := Lib.hid (BW.new w2 _ [.int .i64 m] 3 rfl)
    have Z3 := Lib.hid (Z2.out.trans (b1.mono (by have := Z2.out.size; have := ZM.out; omega)))
    generalize w2.alloc (.cells #[.int .i64 m] 3) = w3 at *
    have NZ := Lib.hid (show mb < w2.heap.size from by have := S3.out.b; have := Z2.out.size; have := ZM.out; omega)
    generalize w2.heap.size = sb at *
    refine hK.out _ _ ⟨S3.out.c.c 1 _ rfl, B3.out.c 0 _ rfl, B3.out.c 1 _ rfl, B3.out.c 2 _ rfl⟩ ?_
    clear hK K hHeld S2 B2 Z2 b1
    intro hHeld
    refine wpAnyH_onlyD 7 (by kernel_rfl) (fun o ho K hK => ?_) (by kernel_rfl)
    simp only [List.getElem?_toArray, List.getElem?_cons_succ, List.getElem?_cons_zero, Option.some.injEq] at ho
    subst ho
    obtain ⟨v, st, L1, ck1, jj, w5, hrun, hF, hg, hv⟩ := fe_entry S3.out KW.out
    have VV := Lib.hid (show ∀ q, v.ownBlock = some q → q < w.heap.size from fun q e => by
      rcases hv with k | ⟨x, hx, k⟩
      · rw [k] at e; cases e
      · rw [← k] at e; exact RL.out x hx q e)
    clear hv
    refine step_ent (by rfl) (.tmp 9) (.tmp 10) 55 (by rfl) _ _ _ (by rfl) (by rfl) hrun ?_
    have S5 := Lib.hid hF
    have B5 := Lib.hid (B3.out.grow hg (fun e => by cases e; have := ZM.out; omega))
    have N5 := Lib.hid (N3.out.grow hg (fun e => by cases e; have := NZ.out; have := ZM.out; omega))
    have Z5 := Lib.hid (Z3.out.grown hg (by have := Z3.out.size; have := ZM.out; omega) (fun q e => by cases e; exact Nat.le_refl _))
    refine hK.out _ _ ⟨S5.out.c.c 1 _ rfl, B5.out.c 0 _ rfl, B5.out.c 1 _ rfl, B5.out.c 2 _ rfl⟩ ?_
    clear hK K hHeld hrun hF hg S3 B3 Z3
    intro hHeld
    refine tkD 8 11 (v := ?_) ?_ hHeld ?_
    rotate_left 1
    (intro W hSw; (try dsimp only at hSw); go_simp; try with_reducible rfl)
    (try simp only [putA, putB, putC, putD])
    refine tkD 10 16 (v := ?_) ?_ hHeld ?_
    rotate_left 1
    (intro W hSw; (try dsimp only at hSw); go_simp; try with_reducible rfl)
    (try simp only [putA, putB, putC, putD])
    refine wpAnyH_onlyD 9 (by kernel_rfl) (fun o ho K hK => ?_) (by kernel_rfl)
    simp only [List.getElem?_toArray, List.getElem?_cons_succ, List.getElem?_cons_zero, Option.some.injEq] at ho
    subst ho
    refine step_ob2 (by rfl) (.tmp 11) (.tmp 13) 26 26 (by rfl) 3 _ (.int .i64 0) Try.underlying26 rfl rfl rfl rfl (by decide) S5.out.e.o (by rfl) _ 1 [.int .i64 m] (by rfl) (src_bl Try.underlying26 N5.out rfl) (by rw [inVs_len]; have := CL.out; omega) S5.out.b.2.2 ?_
    intro v' w4 o1 g1 p1
    rw [← inVs_add] at o1
    have c4 := S5.out.c.grow g1 (fun e => ob_off S5.out.e.o S5.out.b.1 e.symm)
    have d4 := B5.out.grow g1 (fun e => by have := VV.out _ e.symm; omega)
    have z4 := Z5.out.grown g1 (by have := Z5.out.size; have := ZM.out; omega) (fun q e => by have := (ob_lt S5.out.e.o e).1; have := S5.out.b; omega)
    refine hK.out _ _ ⟨c4.c 1 _ rfl, d4.c 0 _ rfl, d4.c 1 _ rfl, d4.c 2 _ rfl⟩ ?_
    clear hK K hHeld
    intro hHeld
    refine wpAnyH_onlyD 11 (by kernel_rfl) (fun o ho K hK => ?_) (by kernel_rfl)
    simp only [List.getElem?_toArray, List.getElem?_cons_succ, List.getElem?_cons_zero, Option.some.injEq] at ho
    subst ho
    obtain ⟨w5, L2, hrun, hF, hg⟩ := fe_store S5.out g1 o1 (by simp) p1
    refine step_sto (by rfl) (.tmp 9) (.tmp 16) (.tmp 15) 55 (by rfl) _ _ _ (by rfl) (by rfl) (by rfl) hrun ?_
    have d5 := d4.grow hg (fun e => by cases e; have := ZM.out; omega)
    refine hK.out _ _ ⟨hF.c.c 1 _ rfl, d5.c 0 _ rfl, d5.c 1 _ rfl, d5.c 2 _ rfl⟩ ?_
    clear hK K hHeld
    intro hHeld
    refine wpAnyH_done (by kernel_rfl) ?_ _
    clear hHeld
    go_wp2_with fail
    go_meet
    exact ⟨L2, _, hF, d5, z4.grown hg (by have := z4.size; have := ZM.out; omega) (fun q e => by cases e; exact Nat.le_refl _)⟩
  case rest =>
    obtain ⟨L2, ck2, hF, hB, hZ⟩ := hcut
    rw [CA.out] at hF
    have S3 := Lib.hid hF
    have B3 := Lib.hid hB
    have Z3 := Lib.hid hZ
    clear hF hB hZ CA CL S1 B1 Z1
    have cl : Ls.length ≤ 100000 := by have := HL.out.2.2; omega
    have V1 := Lib.hid (fun (W : World) (o : OB base W lv (inVs Ls)) => fContains_any o cl kl)
    have e0 := S3.out.c.c 2 _ rfl
    have e1 := B3.out.c 0 _ rfl
    go_wp2_with fail
    refine wp_region_held_drew (S := fun W => W.cell? ⟨f, 2, none⟩ = some lv ∧ W.cell? ⟨w.heap.size, 0, none⟩ = some (.int .i64 kl)) (by kernel_rfl) ⟨e0, e1⟩ (fun hHeld => ?_)
    have S4 := Lib.hid (S3.out.below (Below.refl _ _).drew)
    have B4 := Lib.hid B3.out.drew
    have Z4 := Lib.hid Z3.out.drew
    clear S3 B3 Z3 e0 e1
    generalize World.drew _ = w4 at *
    refine tkD 0 17 (v := ?_) ?_ hHeld ?_
    rotate_left 1
    (intro W hSw; (try dsimp only at hSw); go_simp; try with_reducible rfl)
    (try simp only [putA, putB, putC, putD])
    refine tkD 1 18 (v := ?_) ?_ hHeld ?_
    rotate_left 1
    (intro W hSw; (try dsimp only at hSw); go_simp; try with_reducible rfl)
    (try simp only [putA, putB, putC, putD])
    refine tkD 2 19 (v := ?_) ?_ hHeld ?_
    rotate_left 1
    (intro W hSw; (try dsimp only at hSw); go_simp; try with_reducible rfl)
    (try simp only [putA, putB, putC, putD])
    refine tkD 3 20 (v := ?_) ?_ hHeld ?_
    rotate_left 1
    (intro W hSw; (try dsimp only at hSw); go_simp; try with_reducible rfl)
    (try simp only [putA, putB, putC, putD])
    refine tkD 4 21 (v := ?_) ?_ hHeld ?_
    rotate_left 1
    (intro W hSw; (try dsimp only at hSw); go_simp; try with_reducible rfl)
    (try simp only [putA, putB, putC, putD])
    refine tkD 5 22 (v := ?_) ?_ hHeld ?_
    rotate_left 1
    (intro W hSw; (try dsimp only at hSw); go_simp; try with_reducible rfl)
    (try simp only [putA, putB, putC, putD])
    refine onlD 6 (fun K hK => ?_)
    go_simp
    refine (V1.out _ S4.out.l).mono ?_
    rintro e w5 ⟨rfl, rfl⟩
    go_wp2_with fail
    refine hK.out _ _ (⟨S4.out.c.c 2 _ rfl, B4.out.c 0 _ rfl⟩) ?_
    clear hK K hHeld
    intro hHeld
    clear V1
    by_cases hi : kl ∈ Ls
    · rw [decide_eq_true hi] at *
      refine tkD 7 24 (v := ?_) ?_ hHeld ?_
      rotate_left 1
      (intro W hSw; (try dsimp only at hSw); go_simp; try with_reducible rfl)
      (try simp only [putA, putB, putC, putD])
      refine wpAnyH_done (by kernel_rfl) ?_ _
      clear hHeld
      go_wp2
      go_end0
      exact ⟨rfl, ⟨Ls, lv, L2, ck2, S4.out, HL.out.old (by rw [← LV.out]; exact hi)⟩, Z4.out⟩
    · rw [decide_eq_false hi] at *
      refine tkD 7 24 (v := ?_) ?_ hHeld ?_
      rotate_left 1
      (intro W hSw; (try dsimp only at hSw); go_simp; try with_reducible rfl)
      (try simp only [putA, putB, putC, putD])
      refine wpAnyH_done (by kernel_rfl) ?_ _
      clear hHeld
      have e1 := B4.out.c 0 _ rfl
      go_wp2_with fail
      refine wp_region_held_drew (S := fun W => W.cell? ⟨w.heap.size, 0, none⟩ = some (.int .i64 kl)) (by kernel_rfl) e1 (fun hHeld => ?_)
      have S5 := Lib.hid (S4.out.below (Below.refl _ _).drew)
      have B5 := Lib.hid B4.out.drew
      have Z5 := Lib.hid Z4.out.drew
      clear S4 B4 Z4 e1
      generalize World.drew _ = w5 at *
      refine tkD 0 25 (v := ?_) ?_ hHeld ?_
      rotate_left 1
      (intro W hSw; (try dsimp only at hSw); go_simp; try with_reducible rfl)
      (try simp only [putA, putB, putC, putD])
      refine tkD 1 26 (v := ?_) ?_ hHeld ?_
      rotate_left 1
      (intro W hSw; (try dsimp only at hSw); go_simp; try with_reducible rfl)
      (try simp only [putA, putB, putC, putD])
      refine tkD 2 27 (v := ?_) ?_ hHeld ?_
      rotate_left 1
      (intro W hSw; (try dsimp only at hSw); go_simp; try with_reducible rfl)
      (try simp only [putA, putB, putC, putD])
      refine tkD 3 28 (v := ?_) ?_ hHeld ?_
      rotate_left 1
      (intro W hSw; (try dsimp only at hSw); go_simp; try with_reducible rfl)
      (try simp only [putA, putB, putC, putD])
      refine tkD 5 30 (v := ?_) ?_ hHeld ?_
      rotate_left 1
      (intro W hSw; (try dsimp only at hSw); go_simp; try with_reducible rfl)
      (try simp only [putA, putB, putC, putD])
      refine tkD 6 31 (v := ?_) ?_ hHeld ?_
      rotate_left 1
      (intro W hSw; (try dsimp only at hSw); go_simp; try with_reducible rfl)
      (try simp only [putA, putB, putC, putD])
      refine wpAnyH_twoD 4 7 (by kernel_rfl) (fun o ho K hK => ?_) (fun o ho K hK => ?_) (by kernel_rfl) (by kernel_rfl)
      · skip
        simp only [List.getElem?_toArray, List.getElem?_cons_succ, List.getElem?_cons_zero, Option.some.injEq] at ho
        subst ho
        have tc := S5.out.c.c 2 _ rfl
        go_simp
        refine hK.out _ _ (B5.out.c 0 _ rfl) ?_
        clear hK K hHeld tc
        intro hHeld
        refine wpAnyH_onlyD 7 (by kernel_rfl) (fun o ho K hK => ?_) (by kernel_rfl)
        simp only [List.getElem?_toArray, List.getElem?_cons_succ, List.getElem?_cons_zero, Option.some.injEq] at ho
        subst ho
        go_simp
        have b1 := (Below.refl w5.heap.size w5).alloc (Nat.le_refl _) (.cells #[.int .i64 kl] 3)
        have S6 := Lib.hid (S5.out.below b1)
        have B6 := Lib.hid (B5.out.below b1 B5.out.lt)
        have N6 := Lib.hid (BW.new w5 _ [.int .i64 kl] 3 rfl)
        have Z6 := Lib.hid (Z5.out.trans (b1.mono (by have := Z5.out.size; have := ZM.out; omega)))
        generalize w5.alloc (.cells #[.int .i64 kl] 3) = w6 at *
        generalize w5.heap.size = sb at *
        refine hK.out _ _ (B6.out.c 0 _ rfl) ?_
        clear hK K hHeld S5 B5 Z5 b1
        intro hHeld
        refine wpAnyH_onlyD 8 (by kernel_rfl) (fun o ho K hK => ?_) (by kernel_rfl)
        simp only [List.getElem?_toArray, List.getElem?_cons_succ, List.getElem?_cons_zero, Option.some.injEq] at ho
        subst ho
        refine step_ob2 (by rfl) (.tmp 29) (.tmp 32) 26 26 (by rfl) 3 _ (.int .i64 0) Try.underlying26 rfl rfl rfl rfl (by decide) S6.out.l (by rfl) _ 1 [.int .i64 kl] (by rfl) (src_bl Try.underlying26 N6.out rfl) (by rw [inVs_len]; omega) S6.out.b.2.2 ?_
        intro v' w8 o1 g1 p1
        rw [← inVs_add] at o1
        obtain ⟨vn, va, vc, rfl⟩ : ∃ n a c, v' = .slice a n c := by
          obtain ⟨a, c, h⟩ := o1.form
          exact ⟨_, a, c, h⟩
        have d8 := B6.out.grow g1 (fun e => by have := RV.out _ e.symm; omega)
        have c8 := S6.out.c.grow g1 (fun e => ob_off S6.out.l S6.out.b.1 e.symm)
        have z8 := Z6.out.grown g1 (by have := Z6.out.size; have := ZM.out; omega) (fun q e => by have := (ob_lt S6.out.l e).1; have := S6.out.b; omega)
        have F9 := S6.out.lev g1 o1 p1
        have z9 := z8.setCell (p := ⟨f, 2, none⟩) (show mb ≤ f by have := ZM.out; omega) (.slice va vn vc)
        refine hK.out _ _ (d8.c 0 _ rfl) ?_
        clear hK K hHeld
        intro hHeld
        refine tkD 9 34 (v := ?_) ?_ hHeld ?_
        rotate_left 1
        (intro W hSw; (try dsimp only at hSw); go_simp; try with_reducible rfl)
        (try simp only [putA, putB, putC, putD])
        refine tkD 10 35 (v := ?_) ?_ hHeld ?_
        rotate_left 1
        (intro W hSw; (try dsimp only at hSw); go_simp; try with_reducible rfl)
        (try simp only [putA, putB, putC, putD])
        refine wpAnyH_onlyD 11 (by kernel_rfl) (fun o ho K hK => ?_) (by kernel_rfl)
        simp only [List.getElem?_toArray, List.getElem?_cons_succ, List.getElem?_cons_zero, Option.some.injEq] at ho
        subst ho
        have tc := c8.c 2 _ rfl
        have tf := c8.f
        have tl := c8.lt
        go_simp
        refine hK.out _ _ ((d8.far (show f ≠ w.heap.size by have := ZM.out; omega) 2 (.slice va vn vc)).c 0 _ rfl) ?_
        clear hK K hHeld tc tf tl
        intro hHeld
        refine wpAnyH_done (by kernel_rfl) ?_ _
        clear hHeld
        go_wp2
        go_end0
        exact ⟨rfl, ⟨_, _, L2, ck2, F9, by rw [LV.out]; exact HL.out.new (by rw [← LV.out]; exact hi)⟩, z9⟩
      · skip
        simp only [List.getElem?_toArray, List.getElem?_cons_succ, List.getElem?_cons_zero, Option.some.injEq] at ho
        subst ho
        go_simp
        have b1 := (Below.refl w5.heap.size w5).alloc (Nat.le_refl _) (.cells #[.int .i64 kl] 3)
        have S6 := Lib.hid (S5.out.below b1)
        have B6 := Lib.hid (B5.out.below b1 B5.out.lt)
        have N6 := Lib.hid (BW.new w5 _ [.int .i64 kl] 3 rfl)
        have Z6 := Lib.hid (Z5.out.trans (b1.mono (by have := Z5.out.size; have := ZM.out; omega)))
        generalize w5.alloc (.cells #[.int .i64 kl] 3) = w6 at *
        generalize w5.heap.size = sb at *
        refine hK.out _ _ (B6.out.c 0 _ rfl) ?_
        clear hK K hHeld S5 B5 Z5 b1
        intro hHeld
        refine wpAnyH_onlyD 4 (by kernel_rfl) (fun o ho K hK => ?_) (by kernel_rfl)
        simp only [List.getElem?_toArray, List.getElem?_cons_succ, List.getElem?_cons_zero, Option.some.injEq] at ho
        subst ho
        have tc := S6.out.c.c 2 _ rfl
        go_simp
        refine hK.out _ _ (B6.out.c 0 _ rfl) ?_
        clear hK K hHeld tc
        intro hHeld
        refine wpAnyH_onlyD 8 (by kernel_rfl) (fun o ho K hK => ?_) (by kernel_rfl)
        simp only [List.getElem?_toArray, List.getElem?_cons_succ, List.getElem?_cons_zero, Option.some.injEq] at ho
        subst ho
        refine step_ob2 (by rfl) (.tmp 29) (.tmp 32) 26 26 (by rfl) 3 _ (.int .i64 0) Try.underlying26 rfl rfl rfl rfl (by decide) S6.out.l (by rfl) _ 1 [.int .i64 kl] (by rfl) (src_bl Try.underlying26 N6.out rfl) (by rw [inVs_len]; omega) S6.out.b.2.2 ?_
        intro v' w8 o1 g1 p1
        rw [← inVs_add] at o1
        obtain ⟨vn, va, vc, rfl⟩ : ∃ n a c, v' = .slice a n c := by
          obtain ⟨a, c, h⟩ := o1.form
          exact ⟨_, a, c, h⟩
        have d8 := B6.out.grow g1 (fun e => by have := RV.out _ e.symm; omega)
        have c8 := S6.out.c.grow g1 (fun e => ob_off S6.out.l S6.out.b.1 e.symm)
        have z8 := Z6.out.grown g1 (by have := Z6.out.size; have := ZM.out; omega) (fun q e => by have := (ob_lt S6.out.l e).1; have := S6.out.b; omega)
        have F9 := S6.out.lev g1 o1 p1
        have z9 := z8.setCell (p := ⟨f, 2, none⟩) (show mb ≤ f by have := ZM.out; omega) (.slice va vn vc)
        refine hK.out _ _ (d8.c 0 _ rfl) ?_
        clear hK K hHeld
        intro hHeld
        refine tkD 9 34 (v := ?_) ?_ hHeld ?_
        rotate_left 1
        (intro W hSw; (try dsimp only at hSw); go_simp; try with_reducible rfl)
        (try simp only [putA, putB, putC, putD])
        refine tkD 10 35 (v := ?_) ?_ hHeld ?_
        rotate_left 1
        (intro W hSw; (try dsimp only at hSw); go_simp; try with_reducible rfl)
        (try simp only [putA, putB, putC, putD])
        refine wpAnyH_onlyD 11 (by kernel_rfl) (fun o ho K hK => ?_) (by kernel_rfl)
        simp only [List.getElem?_toArray, List.getElem?_cons_succ, List.getElem?_cons_zero, Option.some.injEq] at ho
        subst ho
        have tc := c8.c 2 _ rfl
        have tf := c8.f
        have tl := c8.lt
        go_simp
        refine hK.out _ _ ((d8.far (show f ≠ w.heap.size by have := ZM.out; omega) 2 (.slice va vn vc)).c 0 _ rfl) ?_
        clear hK K hHeld tc tf tl
        intro hHeld
        refine wpAnyH_done (by kernel_rfl) ?_ _
        clear hHeld
        go_wp2
        go_end0
        exact ⟨rfl, ⟨_, _, L2, ck2, F9, by rw [LV.out]; exact HL.out.new (by rw [← LV.out]; exact hi)⟩, z9⟩
end Go.Proofs.Ytllkhgcokbpggaa
