/- The document's Right of cars: Right. -/
import Derived.Test.YtbpmbdnhfkfkhaaZe
namespace Go.Proofs.Ytbpmbdnhfkfkhaa
open Go.RowKit
set_option linter.unusedVariables false
set_option linter.unusedSimpArgs false

/-- the body's error and those of the first wheels -/
def whL (c : Cr) (e0 : Int) (j : Nat) : List Int := e0 :: (List.range j).map (fun i => rngC (wheelB (fun k => c.f (4 + i * 10 + k))))
theorem whL_next (c : Cr) (e0 : Int) (j : Nat) : whL c e0 (j + 1) = whL c e0 j ++ [rngC (wheelB (fun k => c.f (4 + j * 10 + k)))] := by unfold whL; rw [List.range_succ, List.map_append]; rfl
theorem whL_len (c : Cr) (e0 : Int) (j : Nat) : (whL c e0 j).length = j + 1 := by unfold whL; simp
theorem wheel_range {W : World} {m : Nat} {c : Cr} (K : BW W m (carL c)) (i : Nat) (hi : i < 4) : W.rangeAt m (4 + i * 10) (wheelL (fun k => c.f (4 + i * 10 + k)) (c.p (12 + i * 10)) (c.p (13 + i * 10))) := by
  intro j v h
  refine K.c _ v ?_
  have e : i = 0 ∨ i = 1 ∨ i = 2 ∨ i = 3 := by omega
  have hj : j < 10 := by
    rcases Nat.lt_or_ge j 10 with l | l
    · exact l
    · rw [List.getElem?_eq_none (by show 10 ≤ j; exact l)] at h; cases h
  have e2 : j = 0 ∨ j = 1 ∨ j = 2 ∨ j = 3 ∨ j = 4 ∨ j = 5 ∨ j = 6 ∨ j = 7 ∨ j = 8 ∨ j = 9 := by omega
  rcases e with rfl | rfl | rfl | rfl <;> rcases e2 with rfl | rfl | rfl | rfl | rfl | rfl | rfl | rfl | rfl | rfl <;> exact h
set_option maxRecDepth 100000 in
set_option maxHeartbeats 8000000 in
theorem rCRightA (c : Cr) (B : Nat) (w : World) (hB : B ≤ w.heap.size) (few : fewC c) (M : CrM B w c) :
    Calls Try.prog 8 #[.agg (carL c).toArray] w fun e w' => e = .returned (.tuple #[.int .i64 (rgtC c).1, .int .i64 (rgtC c).2]) ∧ Below w.heap.size w w' := by
  have S0 := Lib.hid (RcS.new 37 M hB)
  have XB := Lib.hid (fun (W : World) => rCBody_any c W)
  obtain ⟨e0, he0⟩ : ∃ e, rngC (rCBodyB c) = e := ⟨_, rfl⟩
  have HE0 : ((whL c e0 4 ++ [rngC (inC 0 562949953421312 (c.f 44) && inC 0 562949953421312 (c.f 45))]) ++ [dotsN c.d.n c.d.x c.d.y (-140737488355328) 140737488355328 true, tyreN c.t, dotsN c.q.n c.q.x c.q.y (-17592186044416) 17592186044416 false, dotsN c.r.n c.r.x c.r.y 0 140737488355328 false]) ++ [rCEngineN c, rCGearsN c, rngC (rCRestB c), rCEaseN c] = errC c := by rw [← he0]; rfl
  have HE0 := Lib.hid HE0
  have XR := Lib.hid (fun (W : World) => rCRanged_any (rCBodyB c) W)
  rw [he0] at XR
  generalize rCBodyB c = b0 at *
  have HS := Lib.hid S0.out.q.l.size
  go_enter Try.func8, Try.ntmps8
  go_wp2_with fail
  generalize Value.slice none 0 0 = v0 at *
  refine wp_load_mid 37 (.tmp 1) rfl w.heap.size 0 rfl (carL c) _ S0.out.q.k.range Try.underlying37 rfl (by kernel_rfl) ?_
  go_wp2_with fail
  refine (XB.out _).mono ?_
  rintro e w1 ⟨rfl, h⟩
  have S1 := Lib.hid (S0.out.step h)
  clear h S0 XB
  go_wp2_with fail
  refine (XR.out _).mono ?_
  rintro e w2 ⟨rfl, rfl⟩
  clear XR
  have sz := S1.out.q.k.lt
  have O2 := Lib.hid (S1.out.o.below ((Below.refl _ _).alloc (Nat.le_refl _) (.cells #[.int .i64 e0] 39)))
  go_wp2_with (at_builtin; refine wpList_ob rfl (.tmp 7) (.tmp 11) 52 52 rfl 39 _ (.int .i64 0) Try.underlying52 rfl rfl rfl rfl (by decide) O2.out rfl _ 1 [.int .i64 e0] rfl (src_new Try.underlying52 _ [.int .i64 e0] 39 1 rfl (one_ints .i64 [e0])) (by rw [eiV_len]; decide) (by simp; omega) ?_)
  intro v5 w5 o5 g5 p5
  have S5 := Lib.hid (show RcS w w5 B c v5 (whL c e0 0) from by
    have Bl := O2.out.up g5 (by simp; omega)
    have S3 := S1.out.step ((Below.refl _ _).alloc (Nat.le_refl _) (.cells #[.int .i64 e0] 39))
    exact ⟨S3.q.stepB Bl (by omega) (by omega), o5⟩)
  clear o5 g5 p5 O2 S1 sz HS
  go_wp2
  go_loopw [4, 5] (fun v i wr => ∃ j : Nat, j ≤ 4 ∧ i = .int .i64 j ∧ RcS w wr B c v (whL c e0 j)) (fun _ i _ => 4 - (intOf i).toNat)
  case atStart => exact ⟨0, by omega, rfl, S5.out⟩
  case round =>
    obtain ⟨j, hj, rfl, hS⟩ := hrel
    have S6 := Lib.hid hS
    clear hS S5
    by_cases hlt : j < 4
    · have z0 : (0 : Int) ≤ (j : Int) := by omega
      have z1 : (j : Int) < 4 := by omega
      obtain ⟨ew, hew⟩ : ∃ e, rngC (wheelB (fun k => c.f (4 + j * 10 + k))) = e := ⟨_, rfl⟩
      have XW := Lib.hid (fun (W : World) => rCWheel_any (fun k => c.f (4 + j * 10 + k)) (c.p (12 + j * 10)) (c.p (13 + j * 10)) W)
      have XR := Lib.hid (fun (W : World) => rCRanged_any (wheelB (fun k => c.f (4 + j * 10 + k))) W)
      rw [hew] at XR
      have NX := Lib.hid (whL_next c e0 j)
      rw [hew] at NX
      have WR := Lib.hid (wheel_range S6.out.q.k j hlt)
      generalize wheelB (fun k => c.f (4 + j * 10 + k)) = bw at *
      have d0 : wr.cell? ⟨w.heap.size, 4 + j * 10, none⟩ = some (.int .i64 (c.f (4 + j * 10 + 0))) := WR.out 0 _ rfl
      have d1 : wr.cell? ⟨w.heap.size, 4 + j * 10 + 1, none⟩ = some (.int .i64 (c.f (4 + j * 10 + 1))) := WR.out 1 _ rfl
      have d2 : wr.cell? ⟨w.heap.size, 4 + j * 10 + 2, none⟩ = some (.int .i64 (c.f (4 + j * 10 + 2))) := WR.out 2 _ rfl
      have d3 : wr.cell? ⟨w.heap.size, 4 + j * 10 + 3, none⟩ = some (.int .i64 (c.f (4 + j * 10 + 3))) := WR.out 3 _ rfl
      have d4 : wr.cell? ⟨w.heap.size, 4 + j * 10 + 4, none⟩ = some (.int .i64 (c.f (4 + j * 10 + 4))) := WR.out 4 _ rfl
      have d5 : wr.cell? ⟨w.heap.size, 4 + j * 10 + 5, none⟩ = some (.int .i64 (c.f (4 + j * 10 + 5))) := WR.out 5 _ rfl
      have d6 : wr.cell? ⟨w.heap.size, 4 + j * 10 + 6, none⟩ = some (.int .i64 (c.f (4 + j * 10 + 6))) := WR.out 6 _ rfl
      have d7 : wr.cell? ⟨w.heap.size, 4 + j * 10 + 7, none⟩ = some (.int .i64 (c.f (4 + j * 10 + 7))) := WR.out 7 _ rfl
      have d8 : wr.cell? ⟨w.heap.size, 4 + j * 10 + 8, none⟩ = some (.bool (c.p (12 + j * 10))) := WR.out 8 _ rfl
      have d9 : wr.cell? ⟨w.heap.size, 4 + j * 10 + 9, none⟩ = some (.bool (c.p (13 + j * 10))) := WR.out 9 _ rfl
      clear WR
      go_wp2_with fail
      refine (XW.out _).mono ?_
      rintro e w7 ⟨rfl, h⟩
      have S7 := Lib.hid (S6.out.step h)
      clear h S6 XW d0 d1 d2 d3 d4 d5 d6 d7 d8 d9
      go_wp2_with fail
      refine (XR.out _).mono ?_
      rintro e w8 ⟨rfl, rfl⟩
      clear XR
      have sz := S7.out.q.k.lt
      have LL := whL_len c e0 j
      have O8 := Lib.hid (S7.out.o.below ((Below.refl _ _).alloc (Nat.le_refl _) (.cells #[.int .i64 ew] 39)))
      go_wp2_with (at_builtin; refine wpList_ob rfl (.tmp 17) (.tmp 24) 52 52 rfl 39 _ (.int .i64 0) Try.underlying52 rfl rfl rfl rfl (by decide) O8.out rfl _ 1 [.int .i64 ew] rfl (src_new Try.underlying52 _ [.int .i64 ew] 39 1 rfl (one_ints .i64 [ew])) (by rw [eiV_len]; (rw [whL_len]; omega)) (by simp; omega) ?_)
      intro v9 w9 o9 g9 p9
      have S9 := Lib.hid (show RcS w w9 B c v9 (whL c e0 (j + 1)) from by
        have Bl := O8.out.up g9 (by simp; omega)
        have S3 := S7.out.step ((Below.refl _ _).alloc (Nat.le_refl _) (.cells #[.int .i64 ew] 39))
        exact ⟨S3.q.stepB Bl (by omega) (by omega), by rw [NX.out, eiV_add]; exact o9⟩)
      clear o9 g9 p9 O8 S7
      go_wp2
      go_roundw
      case rel => exact ⟨j + 1, by omega, by go_num, S9.out⟩
      case measure => simp [intOf]; omega
    · have j4 : j = 4 := by omega
      subst j4
      go_wp2_with fail
      rename_i K0 a0
      have A0 := Lib.hid a0
      clear a0
      have S6 := Lib.hid S6.out.drew
      refine wp_region_held_drew (S := fun W => W.cell? ⟨w.heap.size, 44, none⟩ = some (.int .i64 (c.f 44)) ∧ W.cell? ⟨w.heap.size, 45, none⟩ = some (.int .i64 (c.f 45))) (by kernel_rfl) ⟨S6.out.q.k.c 44 _ rfl, S6.out.q.k.c 45 _ rfl⟩ (fun hHeld => ?_)
      generalize World.drew _ = w6 at *
      refine tkD 0 26 (v := ?_) ?_ hHeld ?_
      rotate_left 1
      (intro W hSw; (try dsimp only at hSw); go_simp; try with_reducible rfl)
      (try simp only [putA, putB, putC, putD])
      refine tkD 1 27 (v := ?_) ?_ hHeld ?_
      rotate_left 1
      (intro W hSw; (try dsimp only at hSw); go_simp; try with_reducible rfl)
      (try simp only [putA, putB, putC, putD])
      refine tkD 2 28 (v := ?_) ?_ hHeld ?_
      rotate_left 1
      (intro W hSw; (try dsimp only at hSw); go_simp; try with_reducible rfl)
      (try simp only [putA, putB, putC, putD])
      refine tkD 3 29 (v := ?_) ?_ hHeld ?_
      rotate_left 1
      (intro W hSw; (try dsimp only at hSw); go_simp; try with_reducible rfl)
      (try simp only [putA, putB, putC, putD])
      refine tkC 4 30 (fun W _ => rCWhole_any 131072 562949953421312 (by decide +kernel) W) hHeld ?_
      (try simp only [putA, putB, putC, putD])
      refine tkC 5 31 (fun W _ => rCIn_any (c.f 44) 0 562949953421312 W) hHeld ?_
      (try simp only [putA, putB, putC, putD])
      have HE := HE0.out
      cases H1 : inC 0 562949953421312 (c.f 44)
      case false =>
        rw [H1, Bool.false_and] at HE
        have XB7 := Lib.hid (fun (W : World) => rCRanged_any false W)
        obtain ⟨eb, heb⟩ : ∃ e, rngC false = e := ⟨_, rfl⟩
        rw [heb] at XB7 HE
        clear heb
        have HE := Lib.hid HE
        refine tkD 6 32 (v := ?_) ?_ hHeld ?_
        rotate_left 1
        (intro W hSw; (try dsimp only at hSw); go_simp; try with_reducible rfl)
        (try simp only [putA, putB, putC, putD])
        refine wpAnyH_skipD 7 33 (by kernel_rfl) (by kernel_rfl) (by kernel_rfl) (by kernel_rfl) (by rfl) (fun _ _ _ h => h) hHeld ?_
        (try simp only [putA, putB, putC, putD])
        refine wpAnyH_skipD 8 34 (by kernel_rfl) (by kernel_rfl) (by kernel_rfl) (by kernel_rfl) (by rfl) (fun _ _ _ h => h) hHeld ?_
        (try simp only [putA, putB, putC, putD])
        refine wpAnyH_skipD 9 35 (by kernel_rfl) (by kernel_rfl) (by kernel_rfl) (by kernel_rfl) (by rfl) (fun _ _ _ h => h) hHeld ?_
        (try simp only [putA, putB, putC, putD])
        refine wpAnyH_skipD 10 36 (by kernel_rfl) (by kernel_rfl) (by kernel_rfl) (by kernel_rfl) (by rfl) (fun _ _ _ h => h) hHeld ?_
        (try simp only [putA, putB, putC, putD])
        refine wpAnyH_skipD 11 37 (by kernel_rfl) (by kernel_rfl) (by kernel_rfl) (by kernel_rfl) (by rfl) (fun _ _ _ h => h) hHeld ?_
        (try simp only [putA, putB, putC, putD])
        refine tkD 12 38 (v := ?_) ?_ hHeld ?_
        rotate_left 1
        (intro W hSw; (try dsimp only at hSw); go_simp; try with_reducible rfl)
        (try simp only [putA, putB, putC, putD])
        refine tkC 13 39 (fun W _ => XB7.out W) hHeld ?_
        (try simp only [putA, putB, putC, putD])
        refine onlD 14 (fun K hK => ?_)
        go_simp
        have O1 := Lib.hid (S6.out.o.below ((Below.refl _ _).alloc (Nat.le_refl _) (.cells #[.int .i64 eb] 39)))
        have sz := S6.out.q.k.lt
        refine hK.out _ _ ⟨(S6.out.step ((Below.refl _ _).alloc (Nat.le_refl _) (.cells #[.int .i64 eb] 39))).q.k.c 44 _ rfl, (S6.out.step ((Below.refl _ _).alloc (Nat.le_refl _) (.cells #[.int .i64 eb] 39))).q.k.c 45 _ rfl⟩ ?_
        clear hK K hHeld
        intro hHeld
        refine wpAnyH_onlyD 15 (by kernel_rfl) (fun o ho K hK => ?_) (by kernel_rfl)
        simp only [List.getElem?_toArray, List.getElem?_cons_succ, List.getElem?_cons_zero, Option.some.injEq] at ho
        subst ho
        refine step_oz (by rfl) (.tmp 26) (.tmp 40) 52 52 (by rfl) 39 _ (.int .i64 0) Try.underlying52 rfl rfl rfl rfl (by decide) O1.out (by rfl) _ 1 [.int .i64 eb] (by rfl) (src_new Try.underlying52 _ [.int .i64 eb] 39 1 rfl (one_ints .i64 [eb])) (by rw [eiV_len, whL_len]; omega) (by simp; omega) ?_
        intro v' w7 o1 g1 p1
        have S7 := Lib.hid (show RcS w w7 B c v' (whL c e0 4 ++ [eb]) from by
          have Bl := O1.out.up g1 (by simp; omega)
          have S3 := S6.out.step ((Below.refl _ _).alloc (Nat.le_refl _) (.cells #[.int .i64 eb] 39))
          exact ⟨S3.q.stepB Bl (by omega) (by omega), by rw [eiV_add]; exact o1⟩)
        refine hK.out _ _ ⟨S7.out.q.k.c 44 _ rfl, S7.out.q.k.c 45 _ rfl⟩ ?_
        clear hK K hHeld o1 g1 p1 O1 S6
        intro hHeld
        refine tkD 16 4 (v := ?_) ?_ hHeld ?_
        rotate_left 1
        (intro W hSw; (try dsimp only at hSw); go_simp; try with_reducible rfl)
        (try simp only [putA, putB, putC, putD])
        refine wpAnyH_done (by kernel_rfl) ?_ _
        clear hHeld
        go_wp2_with fail
        exact A0.out _ _ (rc_eight c B w w7 _ v' hB few S7.out (by rw [List.length_append, whL_len]; rfl) HE.out _ _ _ _ _ _ _ _ _ _ _ _ _ _ _ _ _ _ _ _ _ _ _ _ _ _ _ _ _ _ _ _ _ _ _ _ _ _ _ _ _ _ _ _ _ _ _ _ _ _ _ _ _ _ _ _ _ _ _ _ _ _ _ _ _ _ _ _ _ _ _ _ _ _ _ _ _ _ _ _ _ _ _ _ _)
      case true =>
        rw [H1, Bool.true_and] at HE
        have XB7 := Lib.hid (fun (W : World) => rCRanged_any (inC 0 562949953421312 (c.f 45)) W)
        obtain ⟨eb, heb⟩ : ∃ e, rngC (inC 0 562949953421312 (c.f 45)) = e := ⟨_, rfl⟩
        rw [heb] at XB7 HE
        have HE := Lib.hid HE
        clear heb
        refine tkD 6 32 (v := ?_) ?_ hHeld ?_
        rotate_left 1
        (intro W hSw; (try dsimp only at hSw); go_simp; try with_reducible rfl)
        (try simp only [putA, putB, putC, putD])
        refine tkD 7 33 (v := ?_) ?_ hHeld ?_
        rotate_left 1
        (intro W hSw; (try dsimp only at hSw); go_simp; try with_reducible rfl)
        (try simp only [putA, putB, putC, putD])
        refine tkD 8 34 (v := ?_) ?_ hHeld ?_
        rotate_left 1
        (intro W hSw; (try dsimp only at hSw); go_simp; try with_reducible rfl)
        (try simp only [putA, putB, putC, putD])
        refine tkD 9 35 (v := ?_) ?_ hHeld ?_
        rotate_left 1
        (intro W hSw; (try dsimp only at hSw); go_simp; try with_reducible rfl)
        (try simp only [putA, putB, putC, putD])
        refine tkC 10 36 (fun W _ => rCWhole_any 131072 562949953421312 (by decide +kernel) W) hHeld ?_
        (try simp only [putA, putB, putC, putD])
        refine tkC 11 37 (fun W _ => rCIn_any (c.f 45) 0 562949953421312 W) hHeld ?_
        (try simp only [putA, putB, putC, putD])
        refine tkD 12 38 (v := ?_) ?_ hHeld ?_
        rotate_left 1
        (intro W hSw; (try dsimp only at hSw); go_simp; try with_reducible rfl)
        (try simp only [putA, putB, putC, putD])
        refine tkC 13 39 (fun W _ => XB7.out W) hHeld ?_
        (try simp only [putA, putB, putC, putD])
        refine onlD 14 (fun K hK => ?_)
        go_simp
        have O1 := Lib.hid (S6.out.o.below ((Below.refl _ _).alloc (Nat.le_refl _) (.cells #[.int .i64 eb] 39)))
        have sz := S6.out.q.k.lt
        refine hK.out _ _ ⟨(S6.out.step ((Below.refl _ _).alloc (Nat.le_refl _) (.cells #[.int .i64 eb] 39))).q.k.c 44 _ rfl, (S6.out.step ((Below.refl _ _).alloc (Nat.le_refl _) (.cells #[.int .i64 eb] 39))).q.k.c 45 _ rfl⟩ ?_
        clear hK K hHeld
        intro hHeld
        refine wpAnyH_onlyD 15 (by kernel_rfl) (fun o ho K hK => ?_) (by kernel_rfl)
        simp only [List.getElem?_toArray, List.getElem?_cons_succ, List.getElem?_cons_zero, Option.some.injEq] at ho
        subst ho
        refine step_oz (by rfl) (.tmp 26) (.tmp 40) 52 52 (by rfl) 39 _ (.int .i64 0) Try.underlying52 rfl rfl rfl rfl (by decide) O1.out (by rfl) _ 1 [.int .i64 eb] (by rfl) (src_new Try.underlying52 _ [.int .i64 eb] 39 1 rfl (one_ints .i64 [eb])) (by rw [eiV_len, whL_len]; omega) (by simp; omega) ?_
        intro v' w7 o1 g1 p1
        have S7 := Lib.hid (show RcS w w7 B c v' (whL c e0 4 ++ [eb]) from by
          have Bl := O1.out.up g1 (by simp; omega)
          have S3 := S6.out.step ((Below.refl _ _).alloc (Nat.le_refl _) (.cells #[.int .i64 eb] 39))
          exact ⟨S3.q.stepB Bl (by omega) (by omega), by rw [eiV_add]; exact o1⟩)
        refine hK.out _ _ ⟨S7.out.q.k.c 44 _ rfl, S7.out.q.k.c 45 _ rfl⟩ ?_
        clear hK K hHeld o1 g1 p1 O1 S6
        intro hHeld
        refine tkD 16 4 (v := ?_) ?_ hHeld ?_
        rotate_left 1
        (intro W hSw; (try dsimp only at hSw); go_simp; try with_reducible rfl)
        (try simp only [putA, putB, putC, putD])
        refine wpAnyH_done (by kernel_rfl) ?_ _
        clear hHeld
        go_wp2_with fail
        exact A0.out _ _ (rc_eight c B w w7 _ v' hB few S7.out (by rw [List.length_append, whL_len]; rfl) HE.out _ _ _ _ _ _ _ _ _ _ _ _ _ _ _ _ _ _ _ _ _ _ _ _ _ _ _ _ _ _ _ _ _ _ _ _ _ _ _ _ _ _ _ _ _ _ _ _ _ _ _ _ _ _ _ _ _ _ _ _ _ _ _ _ _ _ _ _ _ _ _ _ _ _ _ _ _ _ _ _ _ _ _ _ _)
end Go.Proofs.Ytbpmbdnhfkfkhaa
