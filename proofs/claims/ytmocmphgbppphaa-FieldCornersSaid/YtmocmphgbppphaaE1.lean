/- The walk of FieldCorners on right ground. -/
import Derived.Test.YtmocmphgbppphaaEs
import Derived.BigQuiet
import Derived.Deep.QuietTactic
namespace Go.Proofs.Ytmocmphgbppphaa
open Go.RowKit
set_option linter.unusedVariables false
set_option linter.unusedSimpArgs false

set_option maxRecDepth 100000 in
set_option maxHeartbeats 8000000 in
theorem fcorners_yes (F : FieldT) (C : FieldC F) (t : Trk) (j : Nat) (B : Nat) (w : World) (hB : B ≤ w.heap.size) (K : TrkM B w t) (few : fewT t) (k : rightFd t = 0) (hj : j < t.H.n) :
    Calls Try.prog 6 #[trkV t, .int .i64 j] w fun e w' => e = .returned (.bool true) ∧ Below w.heap.size w w' := by
  have Q0 := Lib.hid (PT.new 34 K hB)
  have HC := Lib.hid C
  have HB := Lib.hid hB
  have XF := Lib.hid (fun (W : World) (h : B ≤ W.heap.size) (K : TrkM B W t) => gfew_any t B W h K)
  have XR := Lib.hid (fun (W : World) (h : B ≤ W.heap.size) (K : TrkM B W t) => rFRight_any t B W h K)
  have KT := Lib.hid K
  clear K C
  have E := Lib.hid (decide_eq_true few)
  rw [E.out] at XF
  have RI := Lib.hid (right_is k)
  have XN := Lib.hid (fun (W : World) (h : B ≤ W.heap.size) (K : TrkM B W t) => HC.out.yes t 0 B W h K (Nat.zero_le _) (TrkLo.zero t) k)
  clear few E k XR
  have HJ := Lib.hid hj
  have CA := Lib.hid (corner_at RI.out.1 RI.out.2 hj)
  have h0 : ¬ (j : Int) < 0 := by omega
  have h1 : ¬ (t.H.n : Int) ≤ (j : Int) := by omega
  have h2 : ¬ t.cols < 1 := by have := RI.out.1.1; omega
  clear hj
  go_enter Try.func6, Try.ntmps6
  go_wp2_with fail
  refine calls_gen (S := fun W => PT w W B w.heap.size t) Q0.out (fun W1 hS => ?_)
  have Q1 := Lib.hid hS
  clear hS Q0
  refine (XF.out _ (by have := Q1.out.l.size; have := HB.out; omega) Q1.out.t).mono ?_
  rintro e w2 ⟨rfl, h⟩
  have Q2 := Lib.hid (Q1.out.step h)
  have hz2 := Lib.hid (show B ≤ w2.heap.size by have := Q2.out.l.size; have := HB.out; omega)
  clear h Q1 XF
  obtain ⟨q0, q1, q2, q3, q4, q5, q6, q7, q8, q9, q10, q11, q12, q13, q14, q15⟩ := Q2.out.all
  go_wp2_with fail
  refine (XN.out _ hz2.out Q2.out.t).mono ?_
  rintro e w3 ⟨⟨f, rfl, hp⟩, h⟩
  have Q3 := Lib.hid (Q2.out.step h)
  have P3 := Lib.hid hp
  clear q0 q1 q2 q3 q4 q5 q6 q7 q8 q9 q10 q11 q12 q13 q14 q15
  clear h hp XN hz2 Q2
  obtain ⟨top, htop⟩ : ∃ top, w3.heap.size = top := ⟨_, rfl⟩
  rw [htop] at P3
  clear htop
  have q2 := Q3.out.c.c 2 _ rfl
  have q6 := Q3.out.c.c 6 _ rfl
  go_wp2_with fail
  have S4 := Lib.hid (cs_new 53 P3.out Q3.out)
  obtain ⟨m, hm⟩ : ∃ m, w3.heap.size = m := ⟨_, rfl⟩
  rw [hm] at S4 ⊢
  refine wp_gen (S := fun W => CS F w W B top f m t) S4.out (fun W4 hS => ?_)
  clear S4 q2 q6 P3 Q3 hm
  have S4 := Lib.hid hS
  clear hS
  obtain ⟨c0, r0, ec, er, ⟨lc, lr⟩, ⟨pc0, pc1⟩, ⟨pr0, pr1⟩, near⟩ := CA.out
  clear CA
  have NR := Lib.hid near
  have RN := Lib.hid (show (1 ≤ t.cols ∧ t.cols ≤ 64) ∧ (-140737488355328 ≤ t.cx ∧ t.cx ≤ 140737488355328) ∧ (-140737488355328 ≤ t.cy ∧ t.cy ≤ 140737488355328) from ⟨RI.out.1.1.1, RI.out.2.2.1, RI.out.2.2.2.1⟩)
  clear near
  obtain ⟨X, hX⟩ : ∃ X, t.cx + (c0 : Int) * t.cell = X := ⟨_, rfl⟩
  obtain ⟨Y, hY⟩ : ∃ Y, t.cy + (r0 : Int) * t.cell = Y := ⟨_, rfl⟩
  rw [hX, hY] at NR
  obtain ⟨n1, hn1⟩ : ∃ n1, t.cols + 1 = n1 := ⟨_, rfl⟩
  have XY := Lib.hid (show In64 X ∧ In64 Y by unfold In64; have := RN.out; omega)
  have W1 := Lib.hid (show IntKind.i64.wrap (t.cols + 1) = n1 ∧ 1 ≤ n1 ∧ (n1 == 0) = false from ⟨by rw [← hn1]; exact (wrap_in' (by unfold In64; have := RN.out; omega)).1, by have := RN.out; omega, by have := RN.out; simp; omega⟩)
  have WX := Lib.hid (show Int.tmod j n1 = (c0 : Int) ∧ IntKind.i64.wrap ((c0 : Int) * t.cell) = (c0 : Int) * t.cell ∧ IntKind.i64.wrap (t.cx + (c0 : Int) * t.cell) = X from ⟨by rw [← hn1]; exact ec, (wrap_in' (by unfold In64; omega)).1, by rw [hX]; exact (wrap_in' XY.out.1).1⟩)
  have WY := Lib.hid (show Int.tdiv j n1 = (r0 : Int) ∧ IntKind.i64.wrap ((r0 : Int) * t.cell) = (r0 : Int) * t.cell ∧ IntKind.i64.wrap (t.cy + (r0 : Int) * t.cell) = Y from ⟨by rw [← hn1]; exact er, (wrap_in' (by unfold In64; omega)).1, by rw [hY]; exact (wrap_in' XY.out.2).1⟩)
  have WZ := Lib.hid (show IntKind.i64.wrap (c0 : Int) = c0 ∧ IntKind.i64.wrap (r0 : Int) = r0 from ⟨(wrap_in' (by unfold In64; omega)).1, (wrap_in' (by unfold In64; omega)).1⟩)
  clear ec er pc0 pc1 pr0 pr1 lc lr hX hY hn1
  obtain ⟨⟨c1, c2⟩, ⟨c4, c5⟩, c6⟩ := S4.out.cs
  obtain ⟨w1, w1b, w1c⟩ := W1.out
  obtain ⟨x1, x2, x3⟩ := WX.out
  obtain ⟨z1, z2⟩ := WZ.out
  go_quiet (fail)
  clear x1 x2 x3 c1 c2 c4 c5 c6 WX
  go_wp2_with fail
  refine wp_gen (S := fun W => CS F w W B top f m t) (S4.out.step (by repeat (first | with_reducible refine Below.setCell ?_ (by first | omega | (simp; done) | (simp; omega)) _ | with_reducible refine Below.alloc ?_ (by first | omega | (simp; done) | (simp; omega)) _ | with_reducible refine below_drewN ?_ _ | with_reducible refine Below.drew ?_ | with_reducible exact Below.refl _ _ | with_reducible assumption | with_reducible refine Below.trans ?_ (Below.mono (by assumption) (by first | omega | (simp; done) | (simp; omega)))))) (fun W5 hS => ?_)
  have S5 := Lib.hid hS
  clear hS S4
  obtain ⟨⟨c1, c2⟩, ⟨c4, c5⟩, c6⟩ := S5.out.cs
  obtain ⟨y1, y2, y3⟩ := WY.out
  go_quiet (fail)
  clear y1 y2 y3 c1 c2 c4 c5 c6 WY w1 w1b w1c z1 z2 W1 WZ
  go_wp2_with fail
  refine wp_gen (S := fun W => CS F w W B top f m t) (S5.out.step (by repeat (first | with_reducible refine Below.setCell ?_ (by first | omega | (simp; done) | (simp; omega)) _ | with_reducible refine Below.alloc ?_ (by first | omega | (simp; done) | (simp; omega)) _ | with_reducible refine below_drewN ?_ _ | with_reducible refine Below.drew ?_ | with_reducible exact Below.refl _ _ | with_reducible assumption | with_reducible refine Below.trans ?_ (Below.mono (by assumption) (by first | omega | (simp; done) | (simp; omega)))))) (fun W6 hS => ?_)
  have S6 := Lib.hid hS
  clear hS S5
  have HV := Lib.hid (S6.out.k.H.wf j HJ.out)
  obtain ⟨b, off, hHa, hb, hcell⟩ := S6.out.k.H.at' (by have := HJ.out; omega)
  have HC6 := Lib.hid (fun (W : World) (s : CS F w W B top f m t) => (show W.cell? ⟨w.heap.size, 6, none⟩ = some (.slice (some ⟨b, off, none⟩) t.H.n t.H.c) ∧ W.cell? ⟨b, off + j, none⟩ = some (.int .i64 (t.H.v j)) from ⟨by have := s.cs.2.2; rw [hHa] at this; exact this, by
    obtain ⟨b', off', hHa', _, hcell'⟩ := s.k.H.at' (by have := HJ.out; omega)
    rw [hHa] at hHa'
    cases hHa'
    exact hcell' j HJ.out⟩))
  clear hb hcell hHa
  have HH := Lib.hid (fun (b : Nat) (o : Bool) (W : World) (p : F.P 0 top W f t) (e : b < 0 ∨ top ≤ b) (m : MAt W b 0 o) => HC.out.height t X Y b 0 o 0 top f W XY.out.1 XY.out.2 p e m)
  have HG := Lib.hid (fun (b : Nat) (o : Bool) (W : World) (p : F.P 0 top W f t) (e : b < 0 ∨ top ≤ b) (m : MAt W b 0 o) => HC.out.normal t X Y b 0 o 0 top f W XY.out.1 XY.out.2 p e m)
  have I0 := Lib.hid (show In64 (heightF t X Y) from addF_in _ _)
  generalize heightF t X Y = g1 at *
  have IV := Lib.hid (show In64 (t.H.v j) from bounds_i64 HV.out)
  have ZU := Lib.hid (show 2147483648 ≤ upZ (slpA t X Y) (slpB t X Y) from (up_is (slp_in RI.out.1 RI.out.2 X Y).1.1 (slp_in RI.out.1 RI.out.2 X Y).1.2 (slp_in RI.out.1 RI.out.2 X Y).2.1 (slp_in RI.out.1 RI.out.2 X Y).2.2).2.2.2.2.2.2.2)
  generalize upX (slpA t X Y) (slpB t X Y) = n1 at *
  generalize upY (slpA t X Y) (slpB t X Y) = n2 at *
  generalize upZ (slpA t X Y) (slpB t X Y) = n3 at *
  have z0 : (0 : Int) ≤ (j : Int) := by omega
  have zj : (j : Int) < (t.H.n : Int) := by have := HJ.out; omega
  clear HV
  have R5 := Lib.hid (S6.out.step ((Below.refl _ _).drew))
  clear S6
  refine wp_region_held_drew (S := fun W => W.cell? ⟨w.heap.size, 6, none⟩ = some (.slice (some ⟨b, off, none⟩) t.H.n t.H.c) ∧ W.cell? ⟨b, off + j, none⟩ = some (.int .i64 (t.H.v j))) (by kernel_rfl) (HC6.out _ R5.out) (fun hHeld => ?_)
  generalize World.drew _ = w6 at *
  generalize t.H.v j = hv at *
  refine wpAnyH_takeD 0 65 (v := ?_) (by decide +kernel) (by decide +kernel) (by decide +kernel) (by decide +kernel) (by rfl) (fun _ _ _ h => h) ?_ hHeld ?_
  rotate_left 1
  (intro o ho W hSw; simp only [List.getElem?_toArray, List.getElem?_cons_succ, List.getElem?_cons_zero, Option.some.injEq] at ho; subst ho; (try dsimp only at hSw); go_simp; try with_reducible rfl)
  (try simp only [Act.put, List.setIfInBounds_toArray, List.set_cons_zero, List.set_cons_succ])
  refine wpAnyH_takeD 1 66 (v := ?_) (by decide +kernel) (by decide +kernel) (by decide +kernel) (by decide +kernel) (by rfl) (fun _ _ _ h => h) ?_ hHeld ?_
  rotate_left 1
  (intro o ho W hSw; simp only [List.getElem?_toArray, List.getElem?_cons_succ, List.getElem?_cons_zero, Option.some.injEq] at ho; subst ho; (try dsimp only at hSw); go_simp; try with_reducible rfl)
  (try simp only [Act.put, List.setIfInBounds_toArray, List.set_cons_zero, List.set_cons_succ])
  refine wpAnyH_takeD 2 67 (v := ?_) (by decide +kernel) (by decide +kernel) (by decide +kernel) (by decide +kernel) (by rfl) (fun _ _ _ h => h) ?_ hHeld ?_
  rotate_left 1
  (intro o ho W hSw; simp only [List.getElem?_toArray, List.getElem?_cons_succ, List.getElem?_cons_zero, Option.some.injEq] at ho; subst ho; (try dsimp only at hSw); go_simp; try with_reducible rfl)
  (try simp only [Act.put, List.setIfInBounds_toArray, List.set_cons_zero, List.set_cons_succ])
  refine wpAnyH_takeD 3 68 (v := ?_) (by decide +kernel) (by decide +kernel) (by decide +kernel) (by decide +kernel) (by rfl) (fun _ _ _ h => h) ?_ hHeld ?_
  rotate_left 1
  (intro o ho W hSw; simp only [List.getElem?_toArray, List.getElem?_cons_succ, List.getElem?_cons_zero, Option.some.injEq] at ho; subst ho; (try dsimp only at hSw); go_simp; try with_reducible rfl)
  (try simp only [Act.put, List.setIfInBounds_toArray, List.set_cons_zero, List.set_cons_succ])
  refine wpAnyH_takeD 4 69 (v := ?_) (by decide +kernel) (by decide +kernel) (by decide +kernel) (by decide +kernel) (by rfl) (fun _ _ _ h => h) ?_ hHeld ?_
  rotate_left 1
  (intro o ho W hSw; simp only [List.getElem?_toArray, List.getElem?_cons_succ, List.getElem?_cons_zero, Option.some.injEq] at ho; subst ho; (try dsimp only at hSw); go_simp; try with_reducible rfl)
  (try simp only [Act.put, List.setIfInBounds_toArray, List.set_cons_zero, List.set_cons_succ])
  refine wpAnyH_takeD 6 71 (v := ?_) (by decide +kernel) (by decide +kernel) (by decide +kernel) (by decide +kernel) (by rfl) (fun _ _ _ h => h) ?_ hHeld ?_
  rotate_left 1
  (intro o ho W hSw; simp only [List.getElem?_toArray, List.getElem?_cons_succ, List.getElem?_cons_zero, Option.some.injEq] at ho; subst ho; (try dsimp only at hSw); go_simp; try with_reducible rfl)
  (try simp only [Act.put, List.setIfInBounds_toArray, List.set_cons_zero, List.set_cons_succ])
  refine wpAnyH_takeD 7 72 (v := ?_) (by decide +kernel) (by decide +kernel) (by decide +kernel) (by decide +kernel) (by rfl) (fun _ _ _ h => h) ?_ hHeld ?_
  rotate_left 1
  (intro o ho W hSw; simp only [List.getElem?_toArray, List.getElem?_cons_succ, List.getElem?_cons_zero, Option.some.injEq] at ho; subst ho; (try dsimp only at hSw); go_simp; try with_reducible rfl)
  (try simp only [Act.put, List.setIfInBounds_toArray, List.set_cons_zero, List.set_cons_succ])
  refine wpAnyH_takeD 8 73 (v := ?_) (by decide +kernel) (by decide +kernel) (by decide +kernel) (by decide +kernel) (by rfl) (fun _ _ _ h => h) ?_ hHeld ?_
  rotate_left 1
  (intro o ho W hSw; simp only [List.getElem?_toArray, List.getElem?_cons_succ, List.getElem?_cons_zero, Option.some.injEq] at ho; subst ho; (try dsimp only at hSw); go_simp; try with_reducible rfl)
  (try simp only [Act.put, List.setIfInBounds_toArray, List.set_cons_zero, List.set_cons_succ])
  refine wpAnyH_takeD 9 74 (v := ?_) (by decide +kernel) (by decide +kernel) (by decide +kernel) (by decide +kernel) (by rfl) (fun _ _ _ h => h) ?_ hHeld ?_
  rotate_left 1
  (intro o ho W hSw; simp only [List.getElem?_toArray, List.getElem?_cons_succ, List.getElem?_cons_zero, Option.some.injEq] at ho; subst ho; (try dsimp only at hSw); go_simp; try with_reducible rfl)
  (try simp only [Act.put, List.setIfInBounds_toArray, List.set_cons_zero, List.set_cons_succ])
  refine wpAnyH_takeD 10 75 (v := ?_) (by decide +kernel) (by decide +kernel) (by decide +kernel) (by decide +kernel) (by rfl) (fun _ _ _ h => h) ?_ hHeld ?_
  rotate_left 1
  (intro o ho W hSw; simp only [List.getElem?_toArray, List.getElem?_cons_succ, List.getElem?_cons_zero, Option.some.injEq] at ho; subst ho; (try dsimp only at hSw); go_simp; try with_reducible rfl)
  (try simp only [Act.put, List.setIfInBounds_toArray, List.set_cons_zero, List.set_cons_succ])
  refine wpAnyH_onlyD 5 (by decide +kernel) (fun o ho K hK => ?_) (by decide +kernel)
  simp only [List.getElem?_toArray, List.getElem?_cons_succ, List.getElem?_cons_zero, Option.some.injEq] at ho
  subst ho
  go_simp
  refine (HH.out m false _ R5.out.g.p R5.out.g.e R5.out.g.a).mono ?_
  rintro e w7 ⟨rfl, h⟩
  have R7 := Lib.hid (R5.out.fx h)
  clear h R5
  go_wp2_with fail
  refine hK.out _ _ (HC6.out _ R7.out) ?_
  clear hK K hHeld
  intro hHeld
  have NS := Lib.hid (show subO g1 hv = false ∧ absO (subF g1 hv) = false ∧ absF (subF g1 hv) ≤ 4096 from by
    have n := NR.out
    obtain ⟨s1, o1⟩ := sub_ok (a := g1) (b := hv) (by omega) (by omega)
    obtain ⟨o2, c2, -, -⟩ := abs_ok (a := g1 - hv) (by omega) (by omega)
    rw [s1]
    exact ⟨o1, o2, by omega⟩)
  refine wpAnyH_onlyD 11 (by decide +kernel) (fun o ho K hK => ?_) (by decide +kernel)
  simp only [List.getElem?_toArray, List.getElem?_cons_succ, List.getElem?_cons_zero, Option.some.injEq] at ho
  subst ho
  go_simp
  refine (fxSub_any g1 hv m 0 false _ I0.out.1 I0.out.2 IV.out.1 IV.out.2 R7.out.g.a).mono ?_
  rintro e w8 ⟨rfl, h⟩
  have R8 := Lib.hid (R7.out.fxo h NS.out.1)
  clear h R7
  go_wp2_with fail
  refine hK.out _ _ (HC6.out _ R8.out) ?_
  clear hK K hHeld
  intro hHeld
  have I1 := Lib.hid (subF_in g1 hv)
  generalize subF g1 hv = d1 at *
  refine wpAnyH_takeD 12 10 (v := ?_) (by decide +kernel) (by decide +kernel) (by decide +kernel) (by decide +kernel) (by rfl) (fun _ _ _ h => h) ?_ hHeld ?_
  rotate_left 1
  (intro o ho W hSw; simp only [List.getElem?_toArray, List.getElem?_cons_succ, List.getElem?_cons_zero, Option.some.injEq] at ho; subst ho; (try dsimp only at hSw); go_simp; try with_reducible rfl)
  (try simp only [Act.put, List.setIfInBounds_toArray, List.set_cons_zero, List.set_cons_succ])
  refine wpAnyH_done (by kernel_rfl) ?_ _
  clear hHeld HH I0 IV NR
  go_wp2_with fail
  refine (HG.out m false _ R8.out.g.p R8.out.g.e R8.out.g.a).mono ?_
  rintro e w9 ⟨rfl, h⟩
  have R9 := Lib.hid (R8.out.fx h)
  clear h R8
  clear HG
  go_wp2_with fail
  have R9b := Lib.hid (R9.out.step ((Below.refl _ _).alloc (Nat.le_refl _) (.cells #[.int .i64 n1, .int .i64 n2, .int .i64 n3] 63)))
  have m9 := R9.out.g.a.lt
  refine (fxAbs_any d1 m 0 false _ I1.out.1 I1.out.2 R9b.out.g.a).mono ?_
  rintro e w10 ⟨rfl, h⟩
  have c2 : w10.cell? ⟨w9.heap.size, 2, none⟩ = some (.int .i64 n3) := (h.cell (by simp) (by omega)).trans (by go_simp)
  have R10 := Lib.hid (R9b.out.fxo h NS.out.2.1)
  have le := NS.out.2.2
  have zu := ZU.out
  generalize absF d1 = u at *
  have fl := R10.out.g.a.c
  clear h R9 R9b NS I1 ZU m9
  go_wp2_with fail
  refine (fawake_any F HC.out _).mono ?_
  rintro e w11 ⟨rfl, h⟩
  have R11 := Lib.hid (R10.out.step h)
  clear h R10 fl le zu c2
  go_wp2
  go_ret
  exact ⟨rfl, R11.out.g.bl⟩
theorem fcorners_walk (F : FieldT) (C : FieldC F) (t : Trk) (a : Int) (B : Nat) (w : World) (hB : B ≤ w.heap.size) (K : TrkM B w t) :
    Calls Try.prog 6 #[trkV t, .int .i64 a] w fun e w' => e = .returned (.bool true) ∧ Below w.heap.size w w' := by
  by_cases few : fewT t
  · by_cases k : rightFd t = 0
    · by_cases d : a < 0 ∨ (t.H.n : Int) ≤ a
      · exact fcorners_off F C t a B w hB K few k d
      · obtain ⟨j, rfl⟩ : ∃ j : Nat, a = j := ⟨a.toNat, by omega⟩
        exact fcorners_yes F C t j B w hB K few k (by omega)
    · exact fcorners_no F C t a B w hB K few k
  · exact fcorners_many F C t a B w hB K few
end Go.Proofs.Ytmocmphgbppphaa
