/- The document's fence: bars that a move goes through. -/
import Derived.Test.YtllkhgcokbpggaaVg
import Derived.Test.YtllkhgcokbpggaaBi
namespace Go.Proofs.Ytllkhgcokbpggaa
open Go.RowKit
set_option linter.unusedVariables false
set_option linter.unusedSimpArgs false

/-- two places' copies, numbers so far -/
structure BkS (w W : World) (px py qx qy : Int) (v : Value) (L : List Int) : Prop where
  p : BW W w.heap.size [.int .i64 px, .int .i64 py]
  q : BW W (w.heap.size + 1) [.int .i64 qx, .int .i64 qy]
  o : OB (w.heap.size + 2) W v (inVs L)
  l : Below w.heap.size w W
theorem BkS.step {w W W' : World} {px py qx qy : Int} {v : Value} {L : List Int} (S : BkS w W px py qx qy v L) (h : Below W.heap.size W W') : BkS w W' px py qx qy v L :=
  ⟨S.p.below h S.p.lt, S.q.below h S.q.lt, S.o.below h, S.l.trans (h.mono S.l.size)⟩
theorem two_near (W : World) (px py qx qy : Int) (T : TypeId) (h : ((Lit.int .i64 px).wf = true ∧ (Lit.int .i64 py).wf = true) ∧ (Lit.int .i64 qx).wf = true ∧ (Lit.int .i64 qy).wf = true) : Dots (W.alloc (.cells #[.int .i64 px, .int .i64 py, .int .i64 qx, .int .i64 qy] T)) (some ⟨W.heap.size, 0, none⟩) 2 2 (fun i => if i = 0 then px else qx) (fun i => if i = 0 then py else qy) :=
  ⟨by unfold maxLen; omega, Nat.le_refl _, fun i hi => by
    rcases (by omega : i = 0 ∨ i = 1) with rfl | rfl
    · exact h.1
    · exact h.2, fun _ => ⟨W.heap.size, 0, rfl, by simp, fun i hi => by
    rcases (by omega : i = 0 ∨ i = 1) with rfl | rfl
    · exact ⟨World.cell?_alloc_new W _ T 0, World.cell?_alloc_new W _ T 1⟩
    · exact ⟨World.cell?_alloc_new W _ T 2, World.cell?_alloc_new W _ T 3⟩⟩⟩
theorem near_two (px py qx qy : Int) : nearN 2 (fun i => if i = 0 then px else qx) (fun i => if i = 0 then py else qy) ↔ (Pt.mk px py).near ∧ (Pt.mk qx qy).near := by
  constructor
  · intro h
    exact ⟨h 0 (by omega), h 1 (by omega)⟩
  · rintro ⟨h, k⟩ i hi
    rcases (by omega : i = 0 ∨ i = 1) with rfl | rfl
    · exact h
    · exact k
set_option maxRecDepth 100000 in
set_option maxHeartbeats 4000000 in
theorem rBreaks_any (a : Option Addr) (n c : Nat) (g : Nat → Fv) (px py qx qy : Int) (w : World) (hn : n ≤ 2000) (D : Brs w a n c g) (hw : ((Lit.int .i64 px).wf = true ∧ (Lit.int .i64 py).wf = true) ∧ (Lit.int .i64 qx).wf = true ∧ (Lit.int .i64 qy).wf = true) :
    Calls Try.prog 17 #[.slice a n c, .agg #[.int .i64 px, .int .i64 py], .agg #[.int .i64 qx, .int .i64 qy]] w fun e w' => (∃ v, e = .returned v ∧ OB w.heap.size w' v (inVs (brkI g n px py qx qy))) ∧ Below w.heap.size w w' := by
  obtain ⟨R, hR⟩ : ∃ R, brkI g n px py qx qy = R := ⟨_, rfl⟩
  rw [hR]
  have HR := Lib.hid hR
  have HD := Lib.hid D
  clear hR D
  have S0 := Lib.hid (show BkS w (((w.alloc (.cells #[.int .i64 px, .int .i64 py] 24)).alloc (.cells #[.int .i64 qx, .int .i64 qy] 24)).alloc (.cells #[.int .i64 px, .int .i64 py, .int .i64 qx, .int .i64 qy] 24)) px py qx qy (.slice none 0 0) [] from by
    have n1 : (w.alloc (.cells #[.int .i64 px, .int .i64 py] 24)).heap.size = w.heap.size + 1 := by simp
    have b := (Below.refl w.heap.size w).alloc (Nat.le_refl _) (.cells #[.int .i64 px, .int .i64 py] 24)
    have b2 := (Below.refl (w.alloc (.cells #[.int .i64 px, .int .i64 py] 24)).heap.size (w.alloc (.cells #[.int .i64 px, .int .i64 py] 24))).alloc (Nat.le_refl _) (.cells #[.int .i64 qx, .int .i64 qy] 24)
    have S : BkS w ((w.alloc (.cells #[.int .i64 px, .int .i64 py] 24)).alloc (.cells #[.int .i64 qx, .int .i64 qy] 24)) px py qx qy (.slice none 0 0) [] := ⟨(BW.new w _ [.int .i64 px, .int .i64 py] _ rfl).below b2 (by omega), BW.new _ _ [.int .i64 qx, .int .i64 qy] _ n1.symm, OB.nil _ _, b.trans (b2.mono (by omega))⟩
    exact S.step ((Below.refl _ _).alloc (Nat.le_refl _) _))
  have ND := two_near ((w.alloc (.cells #[.int .i64 px, .int .i64 py] 24)).alloc (.cells #[.int .i64 qx, .int .i64 qy] 24)) px py qx qy 24 hw
  have XN := Lib.hid (rNearL_any _ 2 2 _ _ _ (by omega) ND)
  simp only [World.size_alloc] at XN
  clear ND hw
  by_cases q : nearN 2 (fun i => if i = 0 then px else qx) (fun i => if i = 0 then py else qy)
  rotate_left
  · rw [decide_eq_false q] at XN
    have E := Lib.hid (show [] = R by rw [← HR.out]; unfold brkI; rw [if_neg (fun h => q ((near_two _ _ _ _).2 h.1))])
    clear HD HR q
    go_enter Try.func17, Try.ntmps17
    go_wp2_with fail
    refine XN.out.mono ?_
    rintro e w1 ⟨rfl, rfl⟩
    go_wp2
    go_ret
    exact ⟨⟨_, rfl, by rw [← E.out]; exact OB.nil _ _⟩, S0.out.l⟩
  rw [decide_eq_true q] at XN
  have NQ := (near_two _ _ _ _).1 q
  have r1 : Rg qx := NQ.2.1
  have r2 : Rg qy := NQ.2.2
  unfold Rg at r1 r2
  have V1 := Lib.hid (fun (W : World) => rIn16_any px qx qx 274877906944 W (by omega) (by omega) (by omega) (by omega) (by omega) (by omega))
  have V2 := Lib.hid (fun (W : World) => rIn16_any py qy qy 274877906944 W (by omega) (by omega) (by omega) (by omega) (by omega) (by omega))
  clear q r1 r2
  by_cases c1 : inF px qx qx 274877906944
  rotate_left
  · rw [decide_eq_false c1] at V1
    have E := Lib.hid (show [] = R by rw [← HR.out]; unfold brkI; rw [if_neg (fun h => c1 h.2.1)])
    clear HD HR V2 NQ c1
    go_enter Try.func17, Try.ntmps17
    go_wp2_with fail
    refine XN.out.mono ?_
    rintro e w1 ⟨rfl, rfl⟩
    go_wp2_with fail
    refine (V1.out _).mono ?_
    rintro e w1 ⟨rfl, rfl⟩
    go_wp2
    go_ret
    exact ⟨⟨_, rfl, by rw [← E.out]; exact OB.nil _ _⟩, S0.out.l⟩
  rw [decide_eq_true c1] at V1
  by_cases c2 : inF py qy qy 274877906944
  rotate_left
  · rw [decide_eq_false c2] at V2
    have E := Lib.hid (show [] = R by rw [← HR.out]; unfold brkI; rw [if_neg (fun h => c2 h.2.2)])
    clear HD HR NQ c1 c2
    go_enter Try.func17, Try.ntmps17
    go_wp2_with fail
    refine XN.out.mono ?_
    rintro e w1 ⟨rfl, rfl⟩
    go_wp2_with fail
    refine (V1.out _).mono ?_
    rintro e w1 ⟨rfl, rfl⟩
    go_wp2_with fail
    refine (V2.out _).mono ?_
    rintro e w1 ⟨rfl, rfl⟩
    go_wp2
    go_ret
    exact ⟨⟨_, rfl, by rw [← E.out]; exact OB.nil _ _⟩, S0.out.l⟩
  rw [decide_eq_true c2] at V2
  have E := Lib.hid (show selI (fun i => decide (brP (g i) px py qx qy)) n = R by rw [← HR.out]; unfold brkI; rw [if_pos ⟨NQ, c1, c2⟩])
  clear HR NQ c1 c2
  go_enter Try.func17, Try.ntmps17
  go_wp2_with fail
  refine XN.out.mono ?_
  rintro e w1 ⟨rfl, rfl⟩
  go_wp2_with fail
  refine (V1.out _).mono ?_
  rintro e w1 ⟨rfl, rfl⟩
  go_wp2_with fail
  refine (V2.out _).mono ?_
  rintro e w1 ⟨rfl, rfl⟩
  go_wp2
  go_loopw [7, 8] (fun v i wr => ∃ j : Nat, j ≤ n ∧ i = .int .i64 j ∧ BkS w wr px py qx qy v (selI (fun i => decide (brP (g i) px py qx qy)) j)) (fun _ i _ => n - (intOf i).toNat)
  case atStart => exact ⟨0, by omega, rfl, S0.out⟩
  case round =>
    obtain ⟨j, hj, rfl, hS⟩ := hrel
    have S1 := Lib.hid hS
    clear hS S0 XN V1 V2
    by_cases hlt : j < n
    · obtain ⟨b, off, rfl, hb, hcell⟩ := HD.out.at' (by omega)
      have z0 : (0 : Int) ≤ (j : Int) := by omega
      have z1 : (j : Int) < (n : Int) := by omega
      have G0 := Lib.hid (fun (h : ¬ brP (g j) px py qx qy) => sel_no (P := fun i => decide (brP (g i) px py qx qy)) (n := j) (decide_eq_false h))
      have G1 := Lib.hid (fun (h : brP (g j) px py qx qy) => sel_yes (P := fun i => decide (brP (g i) px py qx qy)) (n := j) (decide_eq_true h))
      have A : brP (g j) px py qx qy ↔ (0 ≤ sideP ⟨(g j).ax, (g j).ay⟩ ⟨(g j).bx, (g j).by'⟩ ⟨px, py⟩ ∧ sideP ⟨(g j).ax, (g j).ay⟩ ⟨(g j).bx, (g j).by'⟩ ⟨qx, qy⟩ < 0) ∧ meetsP ⟨(g j).ax, (g j).ay⟩ ⟨(g j).bx, (g j).by'⟩ ⟨px, py⟩ ⟨qx, qy⟩ = true := Iff.rfl
      have V1 := Lib.hid (fun (W : World) => rSide_any (g j).ax (g j).ay (g j).bx (g j).by' px py W)
      have V2 := Lib.hid (fun (W : World) => rSide_any (g j).ax (g j).ay (g j).bx (g j).by' qx qy W)
      have V3 := Lib.hid (fun (W : World) => rMeets_any (g j).ax (g j).ay (g j).bx (g j).by' px py qx qy W)
      have LN := selI_len (fun i => decide (brP (g i) px py qx qy)) j
      generalize brP (g j) px py qx qy = PA at *
      obtain ⟨l2, hl2⟩ : ∃ l2, selI (fun i => decide (brP (g i) px py qx qy)) (j + 1) = l2 := ⟨_, rfl⟩
      have HL := Lib.hid hl2
      rw [hl2] at G0 G1
      clear hl2
      generalize selI (fun i => decide (brP (g i) px py qx qy)) j = l1 at *
      have CL := Lib.hid (fun (W : World) (l : List Int) (v : Value) (Q : BkS w W px py qx qy v l) => show ((W.cell? ⟨b, off + j * 5, none⟩ = some (.int .i64 (g j).ax) ∧ W.cell? ⟨b, off + j * 5 + 1, none⟩ = some (.int .i64 (g j).ay)) ∧ (W.cell? ⟨b, off + j * 5 + 2, none⟩ = some (.int .i64 (g j).bx) ∧ W.cell? ⟨b, off + j * 5 + 3, none⟩ = some (.int .i64 (g j).by'))) ∧ (W.cell? ⟨w.heap.size, 0, none⟩ = some (.int .i64 px) ∧ W.cell? ⟨w.heap.size, 1, none⟩ = some (.int .i64 py)) ∧ (W.cell? ⟨w.heap.size + 1, 0, none⟩ = some (.int .i64 qx) ∧ W.cell? ⟨w.heap.size + 1, 1, none⟩ = some (.int .i64 qy)) by
        obtain ⟨b', off', ha', -, hc⟩ := (HD.out.step Q.l).at' (by omega)
        cases ha'
        exact ⟨⟨(hc j hlt).1, (hc j hlt).2.1⟩, ⟨Q.p.c 0 _ rfl, Q.p.c 1 _ rfl⟩, Q.q.c 0 _ rfl, Q.q.c 1 _ rfl⟩)
      clear hcell hb
      generalize (g j).ax = ax at *
      generalize (g j).ay = ay at *
      generalize (g j).bx = bx at *
      generalize (g j).by' = by1 at *
      generalize sideP ⟨ax, ay⟩ ⟨bx, by1⟩ ⟨px, py⟩ = m1 at *
      generalize sideP ⟨ax, ay⟩ ⟨bx, by1⟩ ⟨qx, qy⟩ = m2 at *
      generalize meetsP ⟨ax, ay⟩ ⟨bx, by1⟩ ⟨px, py⟩ ⟨qx, qy⟩ = m3 at *
      have S2 := Lib.hid (S1.out.step (Below.refl _ _).drew)
      clear S1
      go_wp2_with fail
      refine wp_region_held_drew (S := fun W => ((W.cell? ⟨b, off + j * 5, none⟩ = some (.int .i64 ax) ∧ W.cell? ⟨b, off + j * 5 + 1, none⟩ = some (.int .i64 ay)) ∧ (W.cell? ⟨b, off + j * 5 + 2, none⟩ = some (.int .i64 bx) ∧ W.cell? ⟨b, off + j * 5 + 3, none⟩ = some (.int .i64 by1))) ∧ (W.cell? ⟨w.heap.size, 0, none⟩ = some (.int .i64 px) ∧ W.cell? ⟨w.heap.size, 1, none⟩ = some (.int .i64 py)) ∧ (W.cell? ⟨w.heap.size + 1, 0, none⟩ = some (.int .i64 qx) ∧ W.cell? ⟨w.heap.size + 1, 1, none⟩ = some (.int .i64 qy))) (by kernel_rfl) (CL.out _ _ _ S2.out) (fun hHeld => ?_)
      generalize World.drew _ = w2 at *
      refine tkD 0 41 (v := ?_) ?_ hHeld ?_
      rotate_left 1
      (intro W hSw; (try dsimp only at hSw); go_simp; try with_reducible rfl)
      (try simp only [putA, putB, putC, putD])
      refine tkD 1 42 (v := ?_) ?_ hHeld ?_
      rotate_left 1
      (intro W hSw; (try dsimp only at hSw); go_simp; try with_reducible rfl)
      (try simp only [putA, putB, putC, putD])
      refine tkD 2 43 (v := ?_) ?_ hHeld ?_
      rotate_left 1
      (intro W hSw; (try dsimp only at hSw); go_simp; try with_reducible rfl)
      (try simp only [putA, putB, putC, putD])
      refine tkD 3 44 (v := ?_) ?_ hHeld ?_
      rotate_left 1
      (intro W hSw; (try dsimp only at hSw); go_simp; try with_reducible rfl)
      (try simp only [putA, putB, putC, putD])
      refine tkD 4 45 (v := ?_) ?_ hHeld ?_
      rotate_left 1
      (intro W hSw; (try dsimp only at hSw); go_simp; try with_reducible rfl)
      (try simp only [putA, putB, putC, putD])
      refine tkD 5 46 (v := ?_) ?_ hHeld ?_
      rotate_left 1
      (intro W hSw; (try dsimp only at hSw); go_simp; try with_reducible rfl)
      (try simp only [putA, putB, putC, putD])
      refine tkD 6 47 (v := ?_) ?_ hHeld ?_
      rotate_left 1
      (intro W hSw; (try dsimp only at hSw); go_simp; try with_reducible rfl)
      (try simp only [putA, putB, putC, putD])
      refine tkD 7 48 (v := ?_) ?_ hHeld ?_
      rotate_left 1
      (intro W hSw; (try dsimp only at hSw); go_simp; try with_reducible rfl)
      (try simp only [putA, putB, putC, putD])
      refine tkD 8 49 (v := ?_) ?_ hHeld ?_
      rotate_left 1
      (intro W hSw; (try dsimp only at hSw); go_simp; try with_reducible rfl)
      (try simp only [putA, putB, putC, putD])
      refine tkD 9 50 (v := ?_) ?_ hHeld ?_
      rotate_left 1
      (intro W hSw; (try dsimp only at hSw); go_simp; try with_reducible rfl)
      (try simp only [putA, putB, putC, putD])
      refine tkD 10 51 (v := ?_) ?_ hHeld ?_
      rotate_left 1
      (intro W hSw; (try dsimp only at hSw); go_simp; try with_reducible rfl)
      (try simp only [putA, putB, putC, putD])
      refine onlD 11 (fun K hK => ?_)
      go_simp
      refine (V1.out _).mono ?_
      rintro e w3 ⟨rfl, h⟩
      have S3 := Lib.hid (S2.out.step h)
      clear h S2 V1
      go_wp2_with fail
      refine hK.out _ _ (CL.out _ _ _ S3.out) ?_
      clear hK K hHeld
      intro hHeld
      by_cases c1 : 0 ≤ m1
      rotate_left
      · have G := Lib.hid (G0.out (fun h => c1 (A.1 h).1.1))
        clear G0 G1 A V2 V3
        have d1 : decide (0 ≤ m1) = false := decide_eq_false c1
        refine tkD 12 53 (v := ?_) ?_ hHeld ?_
        rotate_left 1
        (intro W hSw; (try dsimp only at hSw); go_simp; try with_reducible rfl)
        (try simp only [putA, putB, putC, putD])
        refine tkD 13 54 (v := ?_) ?_ hHeld ?_
        rotate_left 1
        (intro W hSw; (try dsimp only at hSw); go_simp; try with_reducible rfl)
        (try simp only [putA, putB, putC, putD])
        refine wpAnyH_skipD 14 55 (by kernel_rfl) (by kernel_rfl) (by kernel_rfl) (by kernel_rfl) (by rfl) (fun _ _ _ h => h) hHeld ?_
        (try simp only [putA, putB, putC, putD])
        refine wpAnyH_skipD 15 56 (by kernel_rfl) (by kernel_rfl) (by kernel_rfl) (by kernel_rfl) (by rfl) (fun _ _ _ h => h) hHeld ?_
        (try simp only [putA, putB, putC, putD])
        refine wpAnyH_skipD 16 57 (by kernel_rfl) (by kernel_rfl) (by kernel_rfl) (by kernel_rfl) (by rfl) (fun _ _ _ h => h) hHeld ?_
        (try simp only [putA, putB, putC, putD])
        refine wpAnyH_skipD 17 58 (by kernel_rfl) (by kernel_rfl) (by kernel_rfl) (by kernel_rfl) (by rfl) (fun _ _ _ h => h) hHeld ?_
        (try simp only [putA, putB, putC, putD])
        refine wpAnyH_skipD 18 59 (by kernel_rfl) (by kernel_rfl) (by kernel_rfl) (by kernel_rfl) (by rfl) (fun _ _ _ h => h) hHeld ?_
        (try simp only [putA, putB, putC, putD])
        refine wpAnyH_skipD 19 60 (by kernel_rfl) (by kernel_rfl) (by kernel_rfl) (by kernel_rfl) (by rfl) (fun _ _ _ h => h) hHeld ?_
        (try simp only [putA, putB, putC, putD])
        refine wpAnyH_skipD 20 61 (by kernel_rfl) (by kernel_rfl) (by kernel_rfl) (by kernel_rfl) (by rfl) (fun _ _ _ h => h) hHeld ?_
        (try simp only [putA, putB, putC, putD])
        refine wpAnyH_skipD 21 62 (by kernel_rfl) (by kernel_rfl) (by kernel_rfl) (by kernel_rfl) (by rfl) (fun _ _ _ h => h) hHeld ?_
        (try simp only [putA, putB, putC, putD])
        refine wpAnyH_skipD 22 63 (by kernel_rfl) (by kernel_rfl) (by kernel_rfl) (by kernel_rfl) (by rfl) (fun _ _ _ h => h) hHeld ?_
        (try simp only [putA, putB, putC, putD])
        refine wpAnyH_skipD 23 64 (by kernel_rfl) (by kernel_rfl) (by kernel_rfl) (by kernel_rfl) (by rfl) (fun _ _ _ h => h) hHeld ?_
        (try simp only [putA, putB, putC, putD])
        refine wpAnyH_skipD 24 65 (by kernel_rfl) (by kernel_rfl) (by kernel_rfl) (by kernel_rfl) (by rfl) (fun _ _ _ h => h) hHeld ?_
        (try simp only [putA, putB, putC, putD])
        refine wpAnyH_skipD 25 66 (by kernel_rfl) (by kernel_rfl) (by kernel_rfl) (by kernel_rfl) (by rfl) (fun _ _ _ h => h) hHeld ?_
        (try simp only [putA, putB, putC, putD])
        refine wpAnyH_skipD 26 67 (by kernel_rfl) (by kernel_rfl) (by kernel_rfl) (by kernel_rfl) (by rfl) (fun _ _ _ h => h) hHeld ?_
        (try simp only [putA, putB, putC, putD])
        refine tkD 27 68 (v := ?_) ?_ hHeld ?_
        rotate_left 1
        (intro W hSw; (try dsimp only at hSw); go_simp; try with_reducible rfl)
        (try simp only [putA, putB, putC, putD])
        refine tkD 28 69 (v := ?_) ?_ hHeld ?_
        rotate_left 1
        (intro W hSw; (try dsimp only at hSw); go_simp; try with_reducible rfl)
        (try simp only [putA, putB, putC, putD])
        refine wpAnyH_skipD 29 70 (by kernel_rfl) (by kernel_rfl) (by kernel_rfl) (by kernel_rfl) (by rfl) (fun _ _ _ h => h) hHeld ?_
        (try simp only [putA, putB, putC, putD])
        refine wpAnyH_skipD 30 71 (by kernel_rfl) (by kernel_rfl) (by kernel_rfl) (by kernel_rfl) (by rfl) (fun _ _ _ h => h) hHeld ?_
        (try simp only [putA, putB, putC, putD])
        refine wpAnyH_skipD 31 72 (by kernel_rfl) (by kernel_rfl) (by kernel_rfl) (by kernel_rfl) (by rfl) (fun _ _ _ h => h) hHeld ?_
        (try simp only [putA, putB, putC, putD])
        refine wpAnyH_skipD 32 73 (by kernel_rfl) (by kernel_rfl) (by kernel_rfl) (by kernel_rfl) (by rfl) (fun _ _ _ h => h) hHeld ?_
        (try simp only [putA, putB, putC, putD])
        refine wpAnyH_skipD 33 74 (by kernel_rfl) (by kernel_rfl) (by kernel_rfl) (by kernel_rfl) (by rfl) (fun _ _ _ h => h) hHeld ?_
        (try simp only [putA, putB, putC, putD])
        refine wpAnyH_skipD 34 75 (by kernel_rfl) (by kernel_rfl) (by kernel_rfl) (by kernel_rfl) (by rfl) (fun _ _ _ h => h) hHeld ?_
        (try simp only [putA, putB, putC, putD])
        refine wpAnyH_skipD 35 76 (by kernel_rfl) (by kernel_rfl) (by kernel_rfl) (by kernel_rfl) (by rfl) (fun _ _ _ h => h) hHeld ?_
        (try simp only [putA, putB, putC, putD])
        refine wpAnyH_skipD 36 77 (by kernel_rfl) (by kernel_rfl) (by kernel_rfl) (by kernel_rfl) (by rfl) (fun _ _ _ h => h) hHeld ?_
        (try simp only [putA, putB, putC, putD])
        refine wpAnyH_skipD 37 78 (by kernel_rfl) (by kernel_rfl) (by kernel_rfl) (by kernel_rfl) (by rfl) (fun _ _ _ h => h) hHeld ?_
        (try simp only [putA, putB, putC, putD])
        refine wpAnyH_skipD 38 79 (by kernel_rfl) (by kernel_rfl) (by kernel_rfl) (by kernel_rfl) (by rfl) (fun _ _ _ h => h) hHeld ?_
        (try simp only [putA, putB, putC, putD])
        refine wpAnyH_skipD 39 80 (by kernel_rfl) (by kernel_rfl) (by kernel_rfl) (by kernel_rfl) (by rfl) (fun _ _ _ h => h) hHeld ?_
        (try simp only [putA, putB, putC, putD])
        refine wpAnyH_skipD 40 81 (by kernel_rfl) (by kernel_rfl) (by kernel_rfl) (by kernel_rfl) (by rfl) (fun _ _ _ h => h) hHeld ?_
        (try simp only [putA, putB, putC, putD])
        refine wpAnyH_skipD 41 82 (by kernel_rfl) (by kernel_rfl) (by kernel_rfl) (by kernel_rfl) (by rfl) (fun _ _ _ h => h) hHeld ?_
        (try simp only [putA, putB, putC, putD])
        refine tkD 42 83 (v := ?_) ?_ hHeld ?_
        rotate_left 1
        (intro W hSw; (try dsimp only at hSw); go_simp; try with_reducible rfl)
        (try simp only [putA, putB, putC, putD])
        refine wpAnyH_done (by kernel_rfl) ?_ _
        clear hHeld CL
        go_wp2
        go_roundw
        case rel => exact ⟨j + 1, by omega, by go_num, by rw [HL.out, ← G.out]; exact S3.out⟩
        case measure => simp [intOf]; omega
      have d1 : decide (0 ≤ m1) = true := decide_eq_true c1
      refine tkD 12 53 (v := ?_) ?_ hHeld ?_
      rotate_left 1
      (intro W hSw; (try dsimp only at hSw); go_simp; try with_reducible rfl)
      (try simp only [putA, putB, putC, putD])
      refine tkD 13 54 (v := ?_) ?_ hHeld ?_
      rotate_left 1
      (intro W hSw; (try dsimp only at hSw); go_simp; try with_reducible rfl)
      (try simp only [putA, putB, putC, putD])
      refine tkD 14 55 (v := ?_) ?_ hHeld ?_
      rotate_left 1
      (intro W hSw; (try dsimp only at hSw); go_simp; try with_reducible rfl)
      (try simp only [putA, putB, putC, putD])
      refine tkD 15 56 (v := ?_) ?_ hHeld ?_
      rotate_left 1
      (intro W hSw; (try dsimp only at hSw); go_simp; try with_reducible rfl)
      (try simp only [putA, putB, putC, putD])
      refine tkD 16 57 (v := ?_) ?_ hHeld ?_
      rotate_left 1
      (intro W hSw; (try dsimp only at hSw); go_simp; try with_reducible rfl)
      (try simp only [putA, putB, putC, putD])
      refine tkD 17 58 (v := ?_) ?_ hHeld ?_
      rotate_left 1
      (intro W hSw; (try dsimp only at hSw); go_simp; try with_reducible rfl)
      (try simp only [putA, putB, putC, putD])
      refine tkD 18 59 (v := ?_) ?_ hHeld ?_
      rotate_left 1
      (intro W hSw; (try dsimp only at hSw); go_simp; try with_reducible rfl)
      (try simp only [putA, putB, putC, putD])
      refine tkD 19 60 (v := ?_) ?_ hHeld ?_
      rotate_left 1
      (intro W hSw; (try dsimp only at hSw); go_simp; try with_reducible rfl)
      (try simp only [putA, putB, putC, putD])
      refine tkD 20 61 (v := ?_) ?_ hHeld ?_
      rotate_left 1
      (intro W hSw; (try dsimp only at hSw); go_simp; try with_reducible rfl)
      (try simp only [putA, putB, putC, putD])
      refine tkD 21 62 (v := ?_) ?_ hHeld ?_
      rotate_left 1
      (intro W hSw; (try dsimp only at hSw); go_simp; try with_reducible rfl)
      (try simp only [putA, putB, putC, putD])
      refine tkD 22 63 (v := ?_) ?_ hHeld ?_
      rotate_left 1
      (intro W hSw; (try dsimp only at hSw); go_simp; try with_reducible rfl)
      (try simp only [putA, putB, putC, putD])
      refine tkD 23 64 (v := ?_) ?_ hHeld ?_
      rotate_left 1
      (intro W hSw; (try dsimp only at hSw); go_simp; try with_reducible rfl)
      (try simp only [putA, putB, putC, putD])
      refine tkD 24 65 (v := ?_) ?_ hHeld ?_
      rotate_left 1
      (intro W hSw; (try dsimp only at hSw); go_simp; try with_reducible rfl)
      (try simp only [putA, putB, putC, putD])
      refine onlD 25 (fun K hK => ?_)
      go_simp
      refine (V2.out _).mono ?_
      rintro e w4 ⟨rfl, h⟩
      have S4 := Lib.hid (S3.out.step h)
      clear h S3 V2
      go_wp2_with fail
      refine hK.out _ _ (CL.out _ _ _ S4.out) ?_
      clear hK K hHeld
      intro hHeld
      by_cases c2 : m2 < 0
      rotate_left
      · have G := Lib.hid (G0.out (fun h => c2 (A.1 h).1.2))
        clear G0 G1 A V3
        have d2 : decide (m2 < 0) = false := decide_eq_false c2
        refine tkD 26 67 (v := ?_) ?_ hHeld ?_
        rotate_left 1
        (intro W hSw; (try dsimp only at hSw); go_simp; try with_reducible rfl)
        (try simp only [putA, putB, putC, putD])
        refine tkD 27 68 (v := ?_) ?_ hHeld ?_
        rotate_left 1
        (intro W hSw; (try dsimp only at hSw); go_simp; try with_reducible rfl)
        (try simp only [putA, putB, putC, putD])
        refine tkD 28 69 (v := ?_) ?_ hHeld ?_
        rotate_left 1
        (intro W hSw; (try dsimp only at hSw); go_simp; try with_reducible rfl)
        (try simp only [putA, putB, putC, putD])
        refine wpAnyH_skipD 29 70 (by kernel_rfl) (by kernel_rfl) (by kernel_rfl) (by kernel_rfl) (by rfl) (fun _ _ _ h => h) hHeld ?_
        (try simp only [putA, putB, putC, putD])
        refine wpAnyH_skipD 30 71 (by kernel_rfl) (by kernel_rfl) (by kernel_rfl) (by kernel_rfl) (by rfl) (fun _ _ _ h => h) hHeld ?_
        (try simp only [putA, putB, putC, putD])
        refine wpAnyH_skipD 31 72 (by kernel_rfl) (by kernel_rfl) (by kernel_rfl) (by kernel_rfl) (by rfl) (fun _ _ _ h => h) hHeld ?_
        (try simp only [putA, putB, putC, putD])
        refine wpAnyH_skipD 32 73 (by kernel_rfl) (by kernel_rfl) (by kernel_rfl) (by kernel_rfl) (by rfl) (fun _ _ _ h => h) hHeld ?_
        (try simp only [putA, putB, putC, putD])
        refine wpAnyH_skipD 33 74 (by kernel_rfl) (by kernel_rfl) (by kernel_rfl) (by kernel_rfl) (by rfl) (fun _ _ _ h => h) hHeld ?_
        (try simp only [putA, putB, putC, putD])
        refine wpAnyH_skipD 34 75 (by kernel_rfl) (by kernel_rfl) (by kernel_rfl) (by kernel_rfl) (by rfl) (fun _ _ _ h => h) hHeld ?_
        (try simp only [putA, putB, putC, putD])
        refine wpAnyH_skipD 35 76 (by kernel_rfl) (by kernel_rfl) (by kernel_rfl) (by kernel_rfl) (by rfl) (fun _ _ _ h => h) hHeld ?_
        (try simp only [putA, putB, putC, putD])
        refine wpAnyH_skipD 36 77 (by kernel_rfl) (by kernel_rfl) (by kernel_rfl) (by kernel_rfl) (by rfl) (fun _ _ _ h => h) hHeld ?_
        (try simp only [putA, putB, putC, putD])
        refine wpAnyH_skipD 37 78 (by kernel_rfl) (by kernel_rfl) (by kernel_rfl) (by kernel_rfl) (by rfl) (fun _ _ _ h => h) hHeld ?_
        (try simp only [putA, putB, putC, putD])
        refine wpAnyH_skipD 38 79 (by kernel_rfl) (by kernel_rfl) (by kernel_rfl) (by kernel_rfl) (by rfl) (fun _ _ _ h => h) hHeld ?_
        (try simp only [putA, putB, putC, putD])
        refine wpAnyH_skipD 39 80 (by kernel_rfl) (by kernel_rfl) (by kernel_rfl) (by kernel_rfl) (by rfl) (fun _ _ _ h => h) hHeld ?_
        (try simp only [putA, putB, putC, putD])
        refine wpAnyH_skipD 40 81 (by kernel_rfl) (by kernel_rfl) (by kernel_rfl) (by kernel_rfl) (by rfl) (fun _ _ _ h => h) hHeld ?_
        (try simp only [putA, putB, putC, putD])
        refine wpAnyH_skipD 41 82 (by kernel_rfl) (by kernel_rfl) (by kernel_rfl) (by kernel_rfl) (by rfl) (fun _ _ _ h => h) hHeld ?_
        (try simp only [putA, putB, putC, putD])
        refine tkD 42 83 (v := ?_) ?_ hHeld ?_
        rotate_left 1
        (intro W hSw; (try dsimp only at hSw); go_simp; try with_reducible rfl)
        (try simp only [putA, putB, putC, putD])
        refine wpAnyH_done (by kernel_rfl) ?_ _
        clear hHeld CL
        go_wp2
        go_roundw
        case rel => exact ⟨j + 1, by omega, by go_num, by rw [HL.out, ← G.out]; exact S4.out⟩
        case measure => simp [intOf]; omega
      have d2 : decide (m2 < 0) = true := decide_eq_true c2
      refine tkD 26 67 (v := ?_) ?_ hHeld ?_
      rotate_left 1
      (intro W hSw; (try dsimp only at hSw); go_simp; try with_reducible rfl)
      (try simp only [putA, putB, putC, putD])
      refine tkD 27 68 (v := ?_) ?_ hHeld ?_
      rotate_left 1
      (intro W hSw; (try dsimp only at hSw); go_simp; try with_reducible rfl)
      (try simp only [putA, putB, putC, putD])
      refine tkD 28 69 (v := ?_) ?_ hHeld ?_
      rotate_left 1
      (intro W hSw; (try dsimp only at hSw); go_simp; try with_reducible rfl)
      (try simp only [putA, putB, putC, putD])
      refine tkD 29 70 (v := ?_) ?_ hHeld ?_
      rotate_left 1
      (intro W hSw; (try dsimp only at hSw); go_simp; try with_reducible rfl)
      (try simp only [putA, putB, putC, putD])
      refine tkD 30 71 (v := ?_) ?_ hHeld ?_
      rotate_left 1
      (intro W hSw; (try dsimp only at hSw); go_simp; try with_reducible rfl)
      (try simp only [putA, putB, putC, putD])
      refine tkD 31 72 (v := ?_) ?_ hHeld ?_
      rotate_left 1
      (intro W hSw; (try dsimp only at hSw); go_simp; try with_reducible rfl)
      (try simp only [putA, putB, putC, putD])
      refine tkD 32 73 (v := ?_) ?_ hHeld ?_
      rotate_left 1
      (intro W hSw; (try dsimp only at hSw); go_simp; try with_reducible rfl)
      (try simp only [putA, putB, putC, putD])
      refine tkD 33 74 (v := ?_) ?_ hHeld ?_
      rotate_left 1
      (intro W hSw; (try dsimp only at hSw); go_simp; try with_reducible rfl)
      (try simp only [putA, putB, putC, putD])
      refine tkD 34 75 (v := ?_) ?_ hHeld ?_
      rotate_left 1
      (intro W hSw; (try dsimp only at hSw); go_simp; try with_reducible rfl)
      (try simp only [putA, putB, putC, putD])
      refine tkD 35 76 (v := ?_) ?_ hHeld ?_
      rotate_left 1
      (intro W hSw; (try dsimp only at hSw); go_simp; try with_reducible rfl)
      (try simp only [putA, putB, putC, putD])
      refine tkD 36 77 (v := ?_) ?_ hHeld ?_
      rotate_left 1
      (intro W hSw; (try dsimp only at hSw); go_simp; try with_reducible rfl)
      (try simp only [putA, putB, putC, putD])
      refine tkD 37 78 (v := ?_) ?_ hHeld ?_
      rotate_left 1
      (intro W hSw; (try dsimp only at hSw); go_simp; try with_reducible rfl)
      (try simp only [putA, putB, putC, putD])
      refine tkD 38 79 (v := ?_) ?_ hHeld ?_
      rotate_left 1
      (intro W hSw; (try dsimp only at hSw); go_simp; try with_reducible rfl)
      (try simp only [putA, putB, putC, putD])
      refine tkD 39 80 (v := ?_) ?_ hHeld ?_
      rotate_left 1
      (intro W hSw; (try dsimp only at hSw); go_simp; try with_reducible rfl)
      (try simp only [putA, putB, putC, putD])
      refine tkD 40 81 (v := ?_) ?_ hHeld ?_
      rotate_left 1
      (intro W hSw; (try dsimp only at hSw); go_simp; try with_reducible rfl)
      (try simp only [putA, putB, putC, putD])
      refine onlD 41 (fun K hK => ?_)
      go_simp
      refine (V3.out _).mono ?_
      rintro e w5 ⟨rfl, h⟩
      have S5 := Lib.hid (S4.out.step h)
      clear h S4 V3
      go_wp2_with fail
      refine hK.out _ _ (CL.out _ _ _ S5.out) ?_
      clear hK K hHeld
      intro hHeld
      refine tkD 42 83 (v := ?_) ?_ hHeld ?_
      rotate_left 1
      (intro W hSw; (try dsimp only at hSw); go_simp; try with_reducible rfl)
      (try simp only [putA, putB, putC, putD])
      cases m3 with
      | false =>
        have G := Lib.hid (G0.out (fun h => Bool.noConfusion (A.1 h).2))
        clear G0 G1 A
        refine wpAnyH_done (by kernel_rfl) ?_ _
        clear hHeld CL
        go_wp2
        go_roundw
        case rel => exact ⟨j + 1, by omega, by go_num, by rw [HL.out, ← G.out]; exact S5.out⟩
        case measure => simp [intOf]; omega
      | true =>
        have G := Lib.hid (G1.out (A.2 ⟨⟨c1, c2⟩, rfl⟩))
        clear G0 G1 A
        refine wpAnyH_done (by kernel_rfl) ?_ _
        clear hHeld CL
        have sz := S5.out.q.lt
        have O2 := Lib.hid (S5.out.o.below ((Below.refl _ _).alloc (Nat.le_refl _) (.cells #[.int .i64 (j : Int)] 3)))
        go_wp2_with (at_builtin; refine wpList_ob rfl (.tmp 84) (.tmp 86) 26 26 rfl 3 _ (.int .i64 0) Try.underlying26 rfl rfl rfl rfl (by decide) O2.out rfl _ 1 [.int .i64 (j : Int)] rfl (src_new Try.underlying26 _ [.int .i64 (j : Int)] 3 1 rfl (one_ints .i64 [(j : Int)])) (by rw [inVs_len]; omega) (by simp; omega) ?_)
        intro v6 w6 o6 g6 p6
        have S6 := Lib.hid (show BkS w w6 px py qx qy v6 l2 from by
          have B := O2.out.up g6 (by simp; omega)
          have S3 := S5.out.step ((Below.refl _ _).alloc (Nat.le_refl _) (.cells #[.int .i64 (j : Int)] 3))
          exact ⟨S3.p.below B (by omega), S3.q.below B (by omega), by rw [← G.out, inVs_add]; exact o6, S3.l.trans (B.mono (by omega))⟩)
        clear o6 g6 p6 O2 S5 G
        go_wp2
        go_roundw
        case rel => exact ⟨j + 1, by omega, by go_num, by rw [HL.out]; exact S6.out⟩
        case measure => simp [intOf]; omega
    · have z1 : ¬ (j : Int) < (n : Int) := by omega
      have e : j = n := by omega
      subst e
      go_wp2
      go_ret
      exact ⟨⟨_, rfl, by rw [← E.out]; exact S1.out.o.mono (by omega)⟩, S1.out.l⟩
end Go.Proofs.Ytllkhgcokbpggaa
