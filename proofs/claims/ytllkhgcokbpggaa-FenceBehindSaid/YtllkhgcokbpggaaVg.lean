/- The document's fence: bars near a place. -/
import Derived.Test.YtllkhgcokbpggaaVf
import Derived.Test.YtllkhgcokbpggaaBs
import Derived.Test.YtllkhgcokbpggaaBt
import Derived.Test.YtllkhgcokbpggaaBj
import Derived.Deep.QuietTactic
import Derived.BigQuiet
namespace Go.Proofs.Ytllkhgcokbpggaa
open Go.RowKit
set_option linter.unusedVariables false
set_option linter.unusedSimpArgs false

theorem blDr (w : World) (k : Nat) : Below w.heap.size w (w.drewN k) := below_drewN (Below.refl _ _) _
/-- bounds of a bar's ends -/
def FvB (g : Fv) : Prop := (-1125899906842624 ≤ g.ax ∧ g.ax ≤ 1125899906842624) ∧ (-1125899906842624 ≤ g.ay ∧ g.ay ≤ 1125899906842624) ∧ (-1125899906842624 ≤ g.bx ∧ g.bx ≤ 1125899906842624) ∧ -1125899906842624 ≤ g.by' ∧ g.by' ≤ 1125899906842624
set_option maxHeartbeats 1000000 in
theorem rIn16_any (n a b far : Int) (w : World) (a0 : -1125899906842624 ≤ a) (a1 : a ≤ 1125899906842624) (b0 : -1125899906842624 ≤ b) (b1 : b ≤ 1125899906842624) (f0 : 0 ≤ far) (f1 : far ≤ 274877906944) :
    Calls Try.prog 31 #[.int .i64 n, .int .i64 a, .int .i64 b, .int .i64 far] w fun e w' => e = .returned (.bool (decide (inF n a b far))) ∧ w' = w := by
  go_enter Try.func31, Try.ntmps31
  go_wp2
  all_goals
    go_ret
    refine ⟨retB ?_, rfl⟩
    first
      | (rw [decide_eq_decide]; unfold inF; omega)
      | (symm; rw [decide_eq_true_iff]; unfold inF; omega)
      | (symm; rw [decide_eq_false_iff_not]; unfold inF; omega)
      | (rw [decide_eq_true_iff]; unfold inF; omega)
      | (rw [decide_eq_false_iff_not]; unfold inF; omega)
/-- numbers as values -/
def inVs (L : List Int) : List Value := L.map (Value.int .i64)
theorem inVs_add (L : List Int) (n : Int) : inVs (L ++ [n]) = inVs L ++ [.int .i64 n] := by unfold inVs; rw [List.map_append]; rfl
theorem inVs_len (L : List Int) : (inVs L).length = L.length := by unfold inVs; rw [List.length_map]
/-- a place's copy, numbers so far -/
structure ArS (w W : World) (x y : Int) (v : Value) (L : List Int) : Prop where
  p : BW W w.heap.size [.int .i64 x, .int .i64 y]
  o : OB (w.heap.size + 1) W v (inVs L)
  l : Below w.heap.size w W
theorem ArS.step {w W W' : World} {x y : Int} {v : Value} {L : List Int} (S : ArS w W x y v L) (h : Below W.heap.size W W') : ArS w W' x y v L :=
  ⟨S.p.below h S.p.lt, S.o.below h, S.l.trans (h.mono S.l.size)⟩
theorem one_near (W : World) (x y : Int) (T : TypeId) (hx : (Lit.int .i64 x).wf = true) (hy : (Lit.int .i64 y).wf = true) : Dots (W.alloc (.cells #[.int .i64 x, .int .i64 y] T)) (some ⟨W.heap.size, 0, none⟩) 1 1 (fun _ => x) (fun _ => y) :=
  ⟨by unfold maxLen; omega, Nat.le_refl _, fun _ _ => ⟨hx, hy⟩, fun _ => ⟨W.heap.size, 0, rfl, by simp, fun i hi => by
    have : i = 0 := by omega
    subst this
    exact ⟨World.cell?_alloc_new W _ T 0, World.cell?_alloc_new W _ T 1⟩⟩⟩
set_option maxRecDepth 100000 in
set_option maxHeartbeats 4000000 in
theorem rAround_any (a : Option Addr) (n c : Nat) (g : Nat → Fv) (x y far : Int) (w : World) (hn : n ≤ 2000) (D : Brs w a n c g) (bd : ∀ i, i < n → FvB (g i)) (hx : (Lit.int .i64 x).wf = true) (hy : (Lit.int .i64 y).wf = true) :
    Calls Try.prog 14 #[.slice a n c, .agg #[.int .i64 x, .int .i64 y], .int .i64 far] w fun e w' => (∃ v, e = .returned v ∧ OB w.heap.size w' v (inVs (arnI g n x y far))) ∧ Below w.heap.size w w' := by
  obtain ⟨R, hR⟩ : ∃ R, arnI g n x y far = R := ⟨_, rfl⟩
  rw [hR]
  have HR := Lib.hid hR
  have HD := Lib.hid D
  have HB := Lib.hid bd
  clear hR D bd
  by_cases f0 : far < 0
  · have E := Lib.hid (show [] = R by rw [← HR.out]; unfold arnI; rw [if_neg (fun h => by have := h.1.1; omega)])
    clear HD HB HR
    go_enter Try.func14, Try.ntmps14
    go_wp2
    go_ret
    exact ⟨⟨_, rfl, by rw [← E.out]; exact OB.nil _ _⟩, (Below.refl _ _).alloc (Nat.le_refl _) _⟩
  by_cases f1 : 274877906944 < far
  · have E := Lib.hid (show [] = R by rw [← HR.out]; unfold arnI; rw [if_neg (fun h => by have := h.1.2; omega)])
    clear HD HB HR
    go_enter Try.func14, Try.ntmps14
    go_wp2
    go_ret
    exact ⟨⟨_, rfl, by rw [← E.out]; exact OB.nil _ _⟩, (Below.refl _ _).alloc (Nat.le_refl _) _⟩
  have ND := Lib.hid (one_near (w.alloc (.cells #[.int .i64 x, .int .i64 y] 24)) x y 24 hx hy)
  obtain ⟨q, hq⟩ : ∃ q, decide (nearN 1 (fun _ => x) (fun _ => y)) = q := ⟨_, rfl⟩
  have S0 := Lib.hid (show ArS w ((w.alloc (.cells #[.int .i64 x, .int .i64 y] 24)).alloc (.cells #[.int .i64 x, .int .i64 y] 24)) x y (.slice none 0 0) [] from by
    have b := (Below.refl w.heap.size w).alloc (Nat.le_refl _) (.cells #[.int .i64 x, .int .i64 y] 24)
    have S : ArS w (w.alloc (.cells #[.int .i64 x, .int .i64 y] 24)) x y (.slice none 0 0) [] := ⟨BW.new w _ [.int .i64 x, .int .i64 y] _ rfl, OB.nil _ _, b⟩
    exact S.step ((Below.refl _ _).alloc (Nat.le_refl _) _))
  have XN := Lib.hid (rNearL_any (some ⟨(w.alloc (.cells #[.int .i64 x, .int .i64 y] 24)).heap.size, 0, none⟩) 1 1 (fun _ => x) (fun _ => y) _ (by omega) ND.out)
  rw [hq] at XN
  simp only [World.size_alloc] at XN
  cases q with
  | false =>
    have E := Lib.hid (show [] = R by rw [← HR.out]; unfold arnI; rw [if_neg (fun h => (of_decide_eq_false hq) (fun i hi => h.2))])
    clear HD HB HR ND hq
    go_enter Try.func14, Try.ntmps14
    go_wp2_with fail
    refine XN.out.mono ?_
    rintro e w1 ⟨rfl, rfl⟩
    go_wp2
    go_ret
    exact ⟨⟨_, rfl, by rw [← E.out]; exact OB.nil _ _⟩, S0.out.l⟩
  | true =>
    have E := Lib.hid (show selI (fun i => decide (arP (g i) x y far)) n = R by rw [← HR.out]; unfold arnI; rw [if_pos ⟨⟨by omega, by omega⟩, (of_decide_eq_true hq) 0 (by omega)⟩])
    clear HR ND hq
    go_enter Try.func14, Try.ntmps14
    go_wp2_with fail
    refine XN.out.mono ?_
    rintro e w1 ⟨rfl, rfl⟩
    go_wp2
    go_loopw [7, 8] (fun v i wr => ∃ j : Nat, j ≤ n ∧ i = .int .i64 j ∧ ArS w wr x y v (selI (fun i => decide (arP (g i) x y far)) j)) (fun _ i _ => n - (intOf i).toNat)
    case atStart => exact ⟨0, by omega, rfl, S0.out⟩
    case round =>
      obtain ⟨j, hj, rfl, hS⟩ := hrel
      have S1 := Lib.hid hS
      clear hS S0 XN
      by_cases hlt : j < n
      · obtain ⟨b, off, rfl, hb, hcell⟩ := HD.out.at' (by omega)
        obtain ⟨⟨a0, a1⟩, ⟨a2, a3⟩, ⟨b0, b1⟩, b2, b3⟩ := HB.out j hlt
        have z0 : (0 : Int) ≤ (j : Int) := by omega
        have z1 : (j : Int) < (n : Int) := by omega
        have G0 := Lib.hid (fun (h : ¬ arP (g j) x y far) => sel_no (P := fun i => decide (arP (g i) x y far)) (n := j) (decide_eq_false h))
        have G1 := Lib.hid (fun (h : arP (g j) x y far) => sel_yes (P := fun i => decide (arP (g i) x y far)) (n := j) (decide_eq_true h))
        have V1 := Lib.hid (fun (W : World) => rIn16_any x (g j).ax (g j).bx far W a0 a1 b0 b1 (by omega) (by omega))
        have V2 := Lib.hid (fun (W : World) => rIn16_any y (g j).ay (g j).by' far W a2 a3 b2 b3 (by omega) (by omega))
        have LN := selI_len (fun i => decide (arP (g i) x y far)) j
        have A : arP (g j) x y far ↔ inF x (g j).ax (g j).bx far ∧ inF y (g j).ay (g j).by' far := Iff.rfl
        generalize arP (g j) x y far = PA at *
        obtain ⟨l2, hl2⟩ : ∃ l2, selI (fun i => decide (arP (g i) x y far)) (j + 1) = l2 := ⟨_, rfl⟩
        have HL := Lib.hid hl2
        rw [hl2] at G0 G1
        clear hl2
        generalize selI (fun i => decide (arP (g i) x y far)) j = l1 at *
        have CL := Lib.hid (fun (W : World) (l : List Int) (v : Value) (Q : ArS w W x y v l) => show ((W.cell? ⟨b, off + j * 5, none⟩ = some (.int .i64 (g j).ax) ∧ W.cell? ⟨b, off + j * 5 + 1, none⟩ = some (.int .i64 (g j).ay)) ∧ (W.cell? ⟨b, off + j * 5 + 2, none⟩ = some (.int .i64 (g j).bx) ∧ W.cell? ⟨b, off + j * 5 + 3, none⟩ = some (.int .i64 (g j).by'))) ∧ (W.cell? ⟨w.heap.size, 0, none⟩ = some (.int .i64 x) ∧ W.cell? ⟨w.heap.size, 1, none⟩ = some (.int .i64 y)) by
          obtain ⟨b', off', ha', -, hc⟩ := (HD.out.step Q.l).at' (by omega)
          cases ha'
          exact ⟨⟨(hc j hlt).1, (hc j hlt).2.1⟩, Q.p.c 0 _ rfl, Q.p.c 1 _ rfl⟩)
        clear hcell a0 a1 a2 a3 b0 b1 b2 b3 hb
        generalize (g j).ax = ax at *
        generalize (g j).ay = ay at *
        generalize (g j).bx = bx at *
        generalize (g j).by' = by1 at *
        have S2 := Lib.hid (S1.out.step (Below.refl _ _).drew)
        clear S1
        go_wp2_with fail
        refine wp_region_held_drew (S := fun W => ((W.cell? ⟨b, off + j * 5, none⟩ = some (.int .i64 ax) ∧ W.cell? ⟨b, off + j * 5 + 1, none⟩ = some (.int .i64 ay)) ∧ (W.cell? ⟨b, off + j * 5 + 2, none⟩ = some (.int .i64 bx) ∧ W.cell? ⟨b, off + j * 5 + 3, none⟩ = some (.int .i64 by1))) ∧ (W.cell? ⟨w.heap.size, 0, none⟩ = some (.int .i64 x) ∧ W.cell? ⟨w.heap.size, 1, none⟩ = some (.int .i64 y))) (by kernel_rfl) (CL.out _ _ _ S2.out) (fun hHeld => ?_)
        generalize World.drew _ = w2 at *
        refine tkD 0 28 (v := ?_) ?_ hHeld ?_
        rotate_left 1
        (intro W hSw; (try dsimp only at hSw); go_simp; try with_reducible rfl)
        (try simp only [putA, putB, putC, putD])
        refine tkD 1 29 (v := ?_) ?_ hHeld ?_
        rotate_left 1
        (intro W hSw; (try dsimp only at hSw); go_simp; try with_reducible rfl)
        (try simp only [putA, putB, putC, putD])
        refine tkD 2 30 (v := ?_) ?_ hHeld ?_
        rotate_left 1
        (intro W hSw; (try dsimp only at hSw); go_simp; try with_reducible rfl)
        (try simp only [putA, putB, putC, putD])
        refine tkD 3 31 (v := ?_) ?_ hHeld ?_
        rotate_left 1
        (intro W hSw; (try dsimp only at hSw); go_simp; try with_reducible rfl)
        (try simp only [putA, putB, putC, putD])
        refine tkD 4 32 (v := ?_) ?_ hHeld ?_
        rotate_left 1
        (intro W hSw; (try dsimp only at hSw); go_simp; try with_reducible rfl)
        (try simp only [putA, putB, putC, putD])
        refine tkD 5 33 (v := ?_) ?_ hHeld ?_
        rotate_left 1
        (intro W hSw; (try dsimp only at hSw); go_simp; try with_reducible rfl)
        (try simp only [putA, putB, putC, putD])
        refine tkD 6 34 (v := ?_) ?_ hHeld ?_
        rotate_left 1
        (intro W hSw; (try dsimp only at hSw); go_simp; try with_reducible rfl)
        (try simp only [putA, putB, putC, putD])
        refine tkD 7 35 (v := ?_) ?_ hHeld ?_
        rotate_left 1
        (intro W hSw; (try dsimp only at hSw); go_simp; try with_reducible rfl)
        (try simp only [putA, putB, putC, putD])
        refine tkD 8 36 (v := ?_) ?_ hHeld ?_
        rotate_left 1
        (intro W hSw; (try dsimp only at hSw); go_simp; try with_reducible rfl)
        (try simp only [putA, putB, putC, putD])
        refine tkD 9 37 (v := ?_) ?_ hHeld ?_
        rotate_left 1
        (intro W hSw; (try dsimp only at hSw); go_simp; try with_reducible rfl)
        (try simp only [putA, putB, putC, putD])
        refine tkD 10 38 (v := ?_) ?_ hHeld ?_
        rotate_left 1
        (intro W hSw; (try dsimp only at hSw); go_simp; try with_reducible rfl)
        (try simp only [putA, putB, putC, putD])
        refine tkD 11 39 (v := ?_) ?_ hHeld ?_
        rotate_left 1
        (intro W hSw; (try dsimp only at hSw); go_simp; try with_reducible rfl)
        (try simp only [putA, putB, putC, putD])
        refine tkD 12 40 (v := ?_) ?_ hHeld ?_
        rotate_left 1
        (intro W hSw; (try dsimp only at hSw); go_simp; try with_reducible rfl)
        (try simp only [putA, putB, putC, putD])
        refine tkD 13 41 (v := ?_) ?_ hHeld ?_
        rotate_left 1
        (intro W hSw; (try dsimp only at hSw); go_simp; try with_reducible rfl)
        (try simp only [putA, putB, putC, putD])
        refine tkD 14 42 (v := ?_) ?_ hHeld ?_
        rotate_left 1
        (intro W hSw; (try dsimp only at hSw); go_simp; try with_reducible rfl)
        (try simp only [putA, putB, putC, putD])
        refine onlD 15 (fun K hK => ?_)
        go_simp
        refine (V1.out _).mono ?_
        rintro e w3 ⟨rfl, h⟩
        obtain rfl := h.symm
        by_cases c1 : inF x ax bx far
        rotate_left
        · rw [decide_eq_false c1]
          have G := Lib.hid (G0.out (fun h => c1 (A.1 h).1))
          clear G0 G1 A V1 V2 c1
          go_wp2_with fail
          refine hK.out _ _ (CL.out _ _ _ S2.out) ?_
          clear hK K hHeld
          intro hHeld
          refine tkD 16 44 (v := ?_) ?_ hHeld ?_
          rotate_left 1
          (intro W hSw; (try dsimp only at hSw); go_simp; try with_reducible rfl)
          (try simp only [putA, putB, putC, putD])
          refine wpAnyH_skipD 17 45 (by kernel_rfl) (by kernel_rfl) (by kernel_rfl) (by kernel_rfl) (by rfl) (fun _ _ _ h => h) hHeld ?_
          (try simp only [putA, putB, putC, putD])
          refine wpAnyH_skipD 18 46 (by kernel_rfl) (by kernel_rfl) (by kernel_rfl) (by kernel_rfl) (by rfl) (fun _ _ _ h => h) hHeld ?_
          (try simp only [putA, putB, putC, putD])
          refine wpAnyH_skipD 19 47 (by kernel_rfl) (by kernel_rfl) (by kernel_rfl) (by kernel_rfl) (by rfl) (fun _ _ _ h => h) hHeld ?_
          (try simp only [putA, putB, putC, putD])
          refine wpAnyH_skipD 20 48 (by kernel_rfl) (by kernel_rfl) (by kernel_rfl) (by kernel_rfl) (by rfl) (fun _ _ _ h => h) hHeld ?_
          (try simp only [putA, putB, putC, putD])
          refine wpAnyH_skipD 21 49 (by kernel_rfl) (by kernel_rfl) (by kernel_rfl) (by kernel_rfl) (by rfl) (fun _ _ _ h => h) hHeld ?_
          (try simp only [putA, putB, putC, putD])
          refine wpAnyH_skipD 22 50 (by kernel_rfl) (by kernel_rfl) (by kernel_rfl) (by kernel_rfl) (by rfl) (fun _ _ _ h => h) hHeld ?_
          (try simp only [putA, putB, putC, putD])
          refine wpAnyH_skipD 23 51 (by kernel_rfl) (by kernel_rfl) (by kernel_rfl) (by kernel_rfl) (by rfl) (fun _ _ _ h => h) hHeld ?_
          (try simp only [putA, putB, putC, putD])
          refine wpAnyH_skipD 24 52 (by kernel_rfl) (by kernel_rfl) (by kernel_rfl) (by kernel_rfl) (by rfl) (fun _ _ _ h => h) hHeld ?_
          (try simp only [putA, putB, putC, putD])
          refine wpAnyH_skipD 25 53 (by kernel_rfl) (by kernel_rfl) (by kernel_rfl) (by kernel_rfl) (by rfl) (fun _ _ _ h => h) hHeld ?_
          (try simp only [putA, putB, putC, putD])
          refine wpAnyH_skipD 26 54 (by kernel_rfl) (by kernel_rfl) (by kernel_rfl) (by kernel_rfl) (by rfl) (fun _ _ _ h => h) hHeld ?_
          (try simp only [putA, putB, putC, putD])
          refine wpAnyH_skipD 27 55 (by kernel_rfl) (by kernel_rfl) (by kernel_rfl) (by kernel_rfl) (by rfl) (fun _ _ _ h => h) hHeld ?_
          (try simp only [putA, putB, putC, putD])
          refine wpAnyH_skipD 28 56 (by kernel_rfl) (by kernel_rfl) (by kernel_rfl) (by kernel_rfl) (by rfl) (fun _ _ _ h => h) hHeld ?_
          (try simp only [putA, putB, putC, putD])
          refine wpAnyH_skipD 29 57 (by kernel_rfl) (by kernel_rfl) (by kernel_rfl) (by kernel_rfl) (by rfl) (fun _ _ _ h => h) hHeld ?_
          (try simp only [putA, putB, putC, putD])
          refine wpAnyH_skipD 30 58 (by kernel_rfl) (by kernel_rfl) (by kernel_rfl) (by kernel_rfl) (by rfl) (fun _ _ _ h => h) hHeld ?_
          (try simp only [putA, putB, putC, putD])
          refine wpAnyH_skipD 31 59 (by kernel_rfl) (by kernel_rfl) (by kernel_rfl) (by kernel_rfl) (by rfl) (fun _ _ _ h => h) hHeld ?_
          (try simp only [putA, putB, putC, putD])
          refine wpAnyH_skipD 32 60 (by kernel_rfl) (by kernel_rfl) (by kernel_rfl) (by kernel_rfl) (by rfl) (fun _ _ _ h => h) hHeld ?_
          (try simp only [putA, putB, putC, putD])
          refine tkD 33 61 (v := ?_) ?_ hHeld ?_
          rotate_left 1
          (intro W hSw; (try dsimp only at hSw); go_simp; try with_reducible rfl)
          (try simp only [putA, putB, putC, putD])
          refine wpAnyH_done (by kernel_rfl) ?_ _
          clear hHeld CL
          go_wp2
          go_roundw
          case rel => exact ⟨j + 1, by omega, by go_num, by rw [HL.out, ← G.out]; exact S2.out⟩
          case measure => simp [intOf]; omega
        rw [decide_eq_true c1]
        go_wp2_with fail
        refine hK.out _ _ (CL.out _ _ _ S2.out) ?_
        clear hK K hHeld
        intro hHeld
        refine tkD 16 44 (v := ?_) ?_ hHeld ?_
        rotate_left 1
        (intro W hSw; (try dsimp only at hSw); go_simp; try with_reducible rfl)
        (try simp only [putA, putB, putC, putD])
        refine tkD 17 45 (v := ?_) ?_ hHeld ?_
        rotate_left 1
        (intro W hSw; (try dsimp only at hSw); go_simp; try with_reducible rfl)
        (try simp only [putA, putB, putC, putD])
        refine tkD 18 46 (v := ?_) ?_ hHeld ?_
        rotate_left 1
        (intro W hSw; (try dsimp only at hSw); go_simp; try with_reducible rfl)
        (try simp only [putA, putB, putC, putD])
        refine tkD 19 47 (v := ?_) ?_ hHeld ?_
        rotate_left 1
        (intro W hSw; (try dsimp only at hSw); go_simp; try with_reducible rfl)
        (try simp only [putA, putB, putC, putD])
        refine tkD 20 48 (v := ?_) ?_ hHeld ?_
        rotate_left 1
        (intro W hSw; (try dsimp only at hSw); go_simp; try with_reducible rfl)
        (try simp only [putA, putB, putC, putD])
        refine tkD 21 49 (v := ?_) ?_ hHeld ?_
        rotate_left 1
        (intro W hSw; (try dsimp only at hSw); go_simp; try with_reducible rfl)
        (try simp only [putA, putB, putC, putD])
        refine tkD 22 50 (v := ?_) ?_ hHeld ?_
        rotate_left 1
        (intro W hSw; (try dsimp only at hSw); go_simp; try with_reducible rfl)
        (try simp only [putA, putB, putC, putD])
        refine tkD 23 51 (v := ?_) ?_ hHeld ?_
        rotate_left 1
        (intro W hSw; (try dsimp only at hSw); go_simp; try with_reducible rfl)
        (try simp only [putA, putB, putC, putD])
        refine tkD 24 52 (v := ?_) ?_ hHeld ?_
        rotate_left 1
        (intro W hSw; (try dsimp only at hSw); go_simp; try with_reducible rfl)
        (try simp only [putA, putB, putC, putD])
        refine tkD 25 53 (v := ?_) ?_ hHeld ?_
        rotate_left 1
        (intro W hSw; (try dsimp only at hSw); go_simp; try with_reducible rfl)
        (try simp only [putA, putB, putC, putD])
        refine tkD 26 54 (v := ?_) ?_ hHeld ?_
        rotate_left 1
        (intro W hSw; (try dsimp only at hSw); go_simp; try with_reducible rfl)
        (try simp only [putA, putB, putC, putD])
        refine tkD 27 55 (v := ?_) ?_ hHeld ?_
        rotate_left 1
        (intro W hSw; (try dsimp only at hSw); go_simp; try with_reducible rfl)
        (try simp only [putA, putB, putC, putD])
        refine tkD 28 56 (v := ?_) ?_ hHeld ?_
        rotate_left 1
        (intro W hSw; (try dsimp only at hSw); go_simp; try with_reducible rfl)
        (try simp only [putA, putB, putC, putD])
        refine tkD 29 57 (v := ?_) ?_ hHeld ?_
        rotate_left 1
        (intro W hSw; (try dsimp only at hSw); go_simp; try with_reducible rfl)
        (try simp only [putA, putB, putC, putD])
        refine tkD 30 58 (v := ?_) ?_ hHeld ?_
        rotate_left 1
        (intro W hSw; (try dsimp only at hSw); go_simp; try with_reducible rfl)
        (try simp only [putA, putB, putC, putD])
        refine tkD 31 59 (v := ?_) ?_ hHeld ?_
        rotate_left 1
        (intro W hSw; (try dsimp only at hSw); go_simp; try with_reducible rfl)
        (try simp only [putA, putB, putC, putD])
        refine onlD 32 (fun K hK => ?_)
        go_simp
        refine (V2.out _).mono ?_
        rintro e w4 ⟨rfl, h⟩
        obtain rfl := h.symm
        by_cases c2 : inF y ay by1 far
        rotate_left
        · rw [decide_eq_false c2]
          have G := Lib.hid (G0.out (fun h => c2 (A.1 h).2))
          clear G0 G1 A V1 V2 c1 c2
          go_wp2_with fail
          refine hK.out _ _ (CL.out _ _ _ S2.out) ?_
          clear hK K hHeld
          intro hHeld
          refine tkD 33 61 (v := ?_) ?_ hHeld ?_
          rotate_left 1
          (intro W hSw; (try dsimp only at hSw); go_simp; try with_reducible rfl)
          (try simp only [putA, putB, putC, putD])
          refine wpAnyH_done (by kernel_rfl) ?_ _
          clear hHeld CL
          go_wp2
          go_roundw
          case rel => exact ⟨j + 1, by omega, by go_num, by rw [HL.out, ← G.out]; exact S2.out⟩
          case measure => simp [intOf]; omega
        rw [decide_eq_true c2]
        have G := Lib.hid (G1.out (A.2 ⟨c1, c2⟩))
        clear G0 G1 A V1 V2 c1 c2
        go_wp2_with fail
        refine hK.out _ _ (CL.out _ _ _ S2.out) ?_
        clear hK K hHeld
        intro hHeld
        refine tkD 33 61 (v := ?_) ?_ hHeld ?_
        rotate_left 1
        (intro W hSw; (try dsimp only at hSw); go_simp; try with_reducible rfl)
        (try simp only [putA, putB, putC, putD])
        refine wpAnyH_done (by kernel_rfl) ?_ _
        clear hHeld CL
        have sz := S2.out.p.lt
        have O2 := Lib.hid (S2.out.o.below ((Below.refl _ _).alloc (Nat.le_refl _) (.cells #[.int .i64 (j : Int)] 3)))
        go_wp2_with (at_builtin; refine wpList_ob rfl (.tmp 62) (.tmp 64) 26 26 rfl 3 _ (.int .i64 0) Try.underlying26 rfl rfl rfl rfl (by decide) O2.out rfl _ 1 [.int .i64 (j : Int)] rfl (src_new Try.underlying26 _ [.int .i64 (j : Int)] 3 1 rfl (one_ints .i64 [(j : Int)])) (by rw [inVs_len]; omega) (by simp; omega) ?_)
        intro v5 w5 o5 g5 p5
        have S5 := Lib.hid (show ArS w w5 x y v5 l2 from by
          have B := O2.out.up g5 (by simp; omega)
          have S3 := S2.out.step ((Below.refl _ _).alloc (Nat.le_refl _) (.cells #[.int .i64 (j : Int)] 3))
          exact ⟨S3.p.below B (by omega), by rw [← G.out, inVs_add]; exact o5, S3.l.trans (B.mono (by omega))⟩)
        clear o5 g5 p5 O2 S2 G
        go_wp2
        go_roundw
        case rel => exact ⟨j + 1, by omega, by go_num, by rw [HL.out]; exact S5.out⟩
        case measure => simp [intOf]; omega
      · have z1 : ¬ (j : Int) < (n : Int) := by omega
        have e : j = n := by omega
        subst e
        go_wp2
        go_ret
        exact ⟨⟨_, rfl, by rw [← E.out]; exact S1.out.o.mono (by omega)⟩, S1.out.l⟩
end Go.Proofs.Ytllkhgcokbpggaa
