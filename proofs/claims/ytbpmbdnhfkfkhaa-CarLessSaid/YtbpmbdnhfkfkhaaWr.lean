/- The statements on cars: less gears, another differential. -/
import Derived.Test.YtbpmbdnhfkfkhaaU7
namespace Go.Proofs.Ytbpmbdnhfkfkhaa
open Go.RowKit
set_option linter.unusedVariables false
set_option linter.unusedSimpArgs false

set_option maxRecDepth 100000 in
set_option maxHeartbeats 8000000 in
theorem cless_walk (c : Cr) (diff : Int) (w : World) (M : CrM w.heap.size w c) (hw : CrW c) (hd : In64 diff) :
    Calls Try.prog 5 #[.agg (carL c).toArray, .int .i64 diff] w fun e w' => e = .returned (.bool true) ∧ Below w.heap.size w w' := by
  have Q0 := Lib.hid (CA.new 37 M (Nat.le_refl _))
  have X0 := Lib.hid (fun (W : World) (Q : CA w W w.heap.size w.heap.size c) => lFew_any c w.heap.size W Q.bz Q.M)
  have X1 := Lib.hid (fun (few : fewC c) (W : World) (Q : CA w W w.heap.size w.heap.size c) => cRight_any c w.heap.size W Q.bz few hw Q.M)
  have X3 := Lib.hid (fun (few : fewC c) (W : World) (Q : CA w W w.heap.size w.heap.size c) => cRight_any (lessC c) w.heap.size W Q.bz (less_few few) (less_w hw) (less_m Q.M))
  have X4 := Lib.hid (fun (few : fewC c) (W : World) (M : CrM w.heap.size W c) (hz : w.heap.size ≤ W.heap.size) => cRight_any (diffC c diff) w.heap.size W hz few (diff_w hw hd) ⟨M.d, M.t, M.q, M.r, M.g⟩)
  clear M hw
  by_cases few : fewC c
  rotate_left
  · rw [decide_eq_false few] at X0
    clear X1 X3 X4
    go_enter Try.func5, Try.ntmps5
    have RR := Lib.hid Q0.out.k.range
    go_wp2_with ((with_reducible refine wpList_load_mid ?_ 37 (.tmp 2) ?_ w.heap.size 0 ?_ (carL c) _ RR.out Try.underlying37 ?_ ?_ ?_); (· rfl); (· rfl); (· rfl); (· rfl); (· kernel_rfl))
    clear RR
    refine (X0.out _ Q0.out).mono ?_
    rintro e w1 ⟨rfl, h⟩
    have Q1 := Lib.hid (Q0.out.step h)
    clear h Q0
    go_wp2
    go_ret
    exact ⟨rfl, Q1.out.l⟩
  rw [decide_eq_true few] at X0
  have X1 := Lib.hid (X1.out few)
  by_cases z : (rgtC c).1 = 0
  rotate_left
  · obtain ⟨⟨r0, r1⟩, hr⟩ : ∃ r, rgtC c = r := ⟨_, rfl⟩
    rw [hr] at X1 z
    dsimp only at X1 z
    have zb : (r0 != 0) = true := bne_iff_ne.mpr z
    clear hr few X3 X4
    go_enter Try.func5, Try.ntmps5
    have RR := Lib.hid Q0.out.k.range
    go_wp2_with ((with_reducible refine wpList_load_mid ?_ 37 (.tmp 2) ?_ w.heap.size 0 ?_ (carL c) _ RR.out Try.underlying37 ?_ ?_ ?_); (· rfl); (· rfl); (· rfl); (· rfl); (· kernel_rfl))
    clear RR
    refine (X0.out _ Q0.out).mono ?_
    rintro e w1 ⟨rfl, h⟩
    have Q1 := Lib.hid (Q0.out.step h)
    clear h Q0
    have RR := Lib.hid Q1.out.k.range
    go_wp2_with ((with_reducible refine wpList_load_mid ?_ 37 (.tmp 2) ?_ w.heap.size 0 ?_ (carL c) _ RR.out Try.underlying37 ?_ ?_ ?_); (· rfl); (· rfl); (· rfl); (· rfl); (· kernel_rfl))
    clear RR
    refine (X1.out _ Q1.out).mono ?_
    rintro e w2 ⟨rfl, h⟩
    have Q2 := Lib.hid (Q1.out.step h)
    clear h Q1
    go_wp2_with fail
    refine (carAwake_any _).mono ?_
    rintro e w3 ⟨rfl, h⟩
    have Q3 := Lib.hid (Q2.out.step h)
    clear h Q2
    go_wp2
    go_ret
    exact ⟨rfl, Q3.out.l⟩
  have X3 := Lib.hid (X3.out few)
  have X4 := Lib.hid (X4.out few)
  have G := right_gears z
  have HS := less_right z
  have HD := diff_right z diff
  obtain ⟨⟨s0, s1⟩, hs⟩ : ∃ r, rgtC (lessC c) = r := ⟨_, rfl⟩
  obtain ⟨⟨t0, t1⟩, ht⟩ : ∃ r, rgtC (diffC c diff) = r := ⟨_, rfl⟩
  rw [hs] at HS X3
  rw [ht] at HD X4
  dsimp only at X3 X4
  have HS := Lib.hid HS
  have HD := Lib.hid HD
  clear hs ht
  have n1 : ¬ (c.g.n : Int) < 1 := by omega
  have nb : decide ((c.g.n : Int) < 1) = false := decide_eq_false n1
  obtain ⟨⟨r0, r1⟩, hr⟩ : ∃ r, rgtC c = r := ⟨_, rfl⟩
  have r00 : r0 = 0 := by rw [hr] at z; exact z
  subst r00
  rw [hr] at X1
  dsimp only at X1
  go_enter Try.func5, Try.ntmps5
  have RR := Lib.hid Q0.out.k.range
  go_wp2_with ((with_reducible refine wpList_load_mid ?_ 37 (.tmp 2) ?_ w.heap.size 0 ?_ (carL c) _ RR.out Try.underlying37 ?_ ?_ ?_); (· rfl); (· rfl); (· rfl); (· rfl); (· kernel_rfl))
  clear RR
  refine (X0.out _ Q0.out).mono ?_
  rintro e w1 ⟨rfl, h⟩
  have Q1 := Lib.hid (Q0.out.step h)
  clear h Q0
  have RR := Lib.hid Q1.out.k.range
  go_wp2_with ((with_reducible refine wpList_load_mid ?_ 37 (.tmp 2) ?_ w.heap.size 0 ?_ (carL c) _ RR.out Try.underlying37 ?_ ?_ ?_); (· rfl); (· rfl); (· rfl); (· rfl); (· kernel_rfl))
  clear RR
  refine (X1.out _ Q1.out).mono ?_
  rintro e w2 ⟨rfl, h⟩
  have Q2 := Lib.hid (Q1.out.step h)
  clear h Q1
  have k60 := Q2.out.k.c 60 _ rfl
  have RR := Lib.hid Q2.out.k.range
  go_wp2_with ((with_reducible refine wpList_load_mid ?_ 37 (.tmp 2) ?_ w.heap.size 0 ?_ (carL c) _ RR.out Try.underlying37 ?_ ?_ ?_); (· rfl); (· rfl); (· rfl); (· rfl); (· kernel_rfl))
  clear RR
  have Z3 := BW.new w2 w2.heap.size zcL 37 rfl
  have ZT := Lib.hid Z3.there
  have lt2 : w.heap.size < w2.heap.size := Q2.out.k.lt
  have BE := below_setC (Nat.le_refl w2.heap.size) (carL c) 0 (w2.alloc (.cells zcL.toArray 37))
  have Q3 := Lib.hid ((Q2.out.alloc (.cells zcL.toArray 37)).stepB BE lt2 (by omega))
  have D3 := Lib.hid (Z3.store (l' := carL c) rfl)
  rw [run_sc _ _ _ (by exact ZT.out) (carL_one c)]
  clear Z3 ZT BE k60
  change Oper.upon _ _ _ _ _ ((Result.ok () ((w2.alloc (.cells zcL.toArray 37)).setCells w2.heap.size 0 (carL c))).andThen _)
  generalize (w2.alloc (.cells zcL.toArray 37)).setCells w2.heap.size 0 (carL c) = w3 at *
  generalize w2.heap.size = m2 at *
  obtain ⟨b, off, ea, hb, hcg⟩ := Q3.out.M.g.at' (by omega)
  have k60 : w3.cell? ⟨w.heap.size, 60, none⟩ = some (.slice (some ⟨b, off, none⟩) c.g.n c.g.c) := by rw [← ea]; exact Q3.out.k.c 60 _ rfl
  have j60 : w3.cell? ⟨m2, 60, none⟩ = some (.slice (some ⟨b, off, none⟩) c.g.n c.g.c) := by rw [← ea]; exact D3.out.c 60 _ rfl
  have jf := D3.out.f
  have jl := D3.out.lt
  have hl := Q3.out.M.g.hl
  have hm := Q3.out.M.g.hm
  unfold maxLen at hm
  have wz : IntKind.i64.wrap ((c.g.n : Int) - 1) = ((c.g.n - 1 : Nat) : Int) := (wrap_inC (n := (c.g.n : Int) - 1) (by unfold In64; omega)).1.trans (by omega)
  have wy : wrap64 ((c.g.n : Int) - 1) = ((c.g.n - 1 : Nat) : Int) := (wrap_inC (n := (c.g.n : Int) - 1) (by unfold In64; omega)).2.trans (by omega)
  have v0 : (0 : Int) ≤ ((c.g.n - 1 : Nat) : Int) := by omega
  have v1 : ((c.g.n - 1 : Nat) : Int) ≤ (c.g.c : Int) := by omega
  have v2 : c.g.n - 1 ≤ c.g.c := by omega
  have RL := Lib.hid (show (w3.setCell ⟨m2, 60, none⟩ (.slice (some ⟨b, off, none⟩) (c.g.n - 1) c.g.c)).rangeAt m2 0 (carL (lessC c)) from by
    have := (bw_put D3.out (.slice (some ⟨b, off, none⟩) (c.g.n - 1) c.g.c) _ (i := 60) rfl).range
    rw [← ea, less_cells] at this
    rw [← ea]
    exact this)
  go_wp2_with ((with_reducible refine wpList_load_mid ?_ 37 (.tmp 7) ?_ m2 0 ?_ (carL (lessC c)) _ RL.out Try.underlying37 ?_ ?_ ?_); (· rfl); (· rfl); (· rfl); (· rfl); (· kernel_rfl))
  have Q4 := Lib.hid (Q3.out.stepB ((Below.refl m2 w3).setCell (p := ⟨m2, 60, none⟩) (Nat.le_refl _) (.slice (some ⟨b, off, none⟩) (c.g.n - 1) c.g.c)) lt2 (by omega))
  have D4 := Lib.hid (bw_put D3.out (.slice (some ⟨b, off, none⟩) (c.g.n - 1) c.g.c) _ (i := 60) rfl)
  refine (X3.out _ Q4.out).mono ?_
  rintro e w5 ⟨rfl, h⟩
  have Q5 := Lib.hid (Q4.out.step h)
  have D5 := Lib.hid (D4.out.below h D4.out.lt)
  clear h Q4 D4 Q3 D3 RL k60 j60 jf jl X3
  have j60 : w5.cell? ⟨m2, 60, none⟩ = some (.slice (some ⟨b, off, none⟩) (c.g.n - 1) c.g.c) := D5.out.c 60 _ rfl
  have k62 := Q5.out.k.c 62 _ rfl
  have kf := Q5.out.k.f
  have kl := Q5.out.k.lt
  have BS := (Below.refl w.heap.size w5).setCell (p := ⟨w.heap.size, 62, none⟩) (Nat.le_refl _) (.int .i64 diff)
  have M6 := Lib.hid (Q5.out.M.keep BS (Nat.le_refl _))
  have L6 := Lib.hid (Q5.out.l.trans BS)
  have RD := Lib.hid (show (w5.setCell ⟨w.heap.size, 62, none⟩ (.int .i64 diff)).rangeAt w.heap.size 0 (carL (diffC c diff)) from by
    have := (bw_put Q5.out.k (.int .i64 diff) _ (i := 62) rfl).range
    rw [diff_cells] at this
    exact this)
  clear BS
  by_cases n1' : c.g.n = 1
  · have E := HS.out
    rw [if_pos n1'] at E
    cases E
    have ez : (((c.g.n - 1 : Nat) : Int) == 0) = true := by rw [beq_iff_eq]; omega
    have ey : decide ((0 : Int) < ((c.g.n - 1 : Nat) : Int)) = false := decide_eq_false (by omega)
    generalize hk1 : c.g.n - 1 = k1 at *
    have k10 : k1 = 0 := by omega
    subst k10
    clear HS ez ey
    go_wp2_with ((with_reducible refine wpList_load_mid ?_ 37 (.tmp 2) ?_ w.heap.size 0 ?_ (carL (diffC c diff)) _ RD.out Try.underlying37 ?_ ?_ ?_); (· rfl); (· rfl); (· rfl); (· rfl); (· kernel_rfl))
    by_cases d0 : 0 ≤ diff ∧ diff ≤ 2
    · have E := HD.out
      rw [if_pos d0] at E
      cases E
      clear HD
      rcases (show diff = 0 ∨ diff = 1 ∨ diff = 2 by omega) with rfl | rfl | rfl
      · skip
        refine (X4.out _ M6.out L6.out.size).mono ?_
        rintro e w7 ⟨rfl, h⟩
        have L7 := Lib.hid (L6.out.trans (h.mono L6.out.size))
        clear h M6 L6 X4
        go_wp2_with fail
        refine (carAwake_any _).mono ?_
        rintro e w8 ⟨rfl, h⟩
        have L8 := Lib.hid (L7.out.trans (h.mono L7.out.size))
        clear h L7
        go_wp2
        go_ret
        exact ⟨rfl, L8.out⟩
      · skip
        refine (X4.out _ M6.out L6.out.size).mono ?_
        rintro e w7 ⟨rfl, h⟩
        have L7 := Lib.hid (L6.out.trans (h.mono L6.out.size))
        clear h M6 L6 X4
        go_wp2_with fail
        refine (carAwake_any _).mono ?_
        rintro e w8 ⟨rfl, h⟩
        have L8 := Lib.hid (L7.out.trans (h.mono L7.out.size))
        clear h L7
        go_wp2
        go_ret
        exact ⟨rfl, L8.out⟩
      · skip
        refine (X4.out _ M6.out L6.out.size).mono ?_
        rintro e w7 ⟨rfl, h⟩
        have L7 := Lib.hid (L6.out.trans (h.mono L6.out.size))
        clear h M6 L6 X4
        go_wp2_with fail
        refine (carAwake_any _).mono ?_
        rintro e w8 ⟨rfl, h⟩
        have L8 := Lib.hid (L7.out.trans (h.mono L7.out.size))
        clear h L7
        go_wp2
        go_ret
        exact ⟨rfl, L8.out⟩
    · have E := HD.out
      rw [if_neg d0] at E
      cases E
      clear HD
      have f0 : (diff == 0) = false := beq_false_of_ne (by omega)
      have f1 : (diff == 1) = false := beq_false_of_ne (by omega)
      have f2 : (diff == 2) = false := beq_false_of_ne (by omega)
      refine (X4.out _ M6.out L6.out.size).mono ?_
      rintro e w7 ⟨rfl, h⟩
      have L7 := Lib.hid (L6.out.trans (h.mono L6.out.size))
      clear h M6 L6 X4
      go_wp2_with fail
      refine (carAwake_any _).mono ?_
      rintro e w8 ⟨rfl, h⟩
      have L8 := Lib.hid (L7.out.trans (h.mono L7.out.size))
      clear h L7
      go_wp2
      go_ret
      exact ⟨rfl, L8.out⟩
  · have E := HS.out
    rw [if_neg n1'] at E
    cases E
    have ez : (((c.g.n - 1 : Nat) : Int) == 0) = false := beq_false_of_ne (by omega)
    have ey : decide ((0 : Int) < ((c.g.n - 1 : Nat) : Int)) = true := decide_eq_true (by omega)
    have ex : (0 : Int) < ((c.g.n - 1 : Nat) : Int) := by omega
    generalize c.g.n - 1 = k1 at *
    clear HS
    go_wp2_with ((with_reducible refine wpList_load_mid ?_ 37 (.tmp 2) ?_ w.heap.size 0 ?_ (carL (diffC c diff)) _ RD.out Try.underlying37 ?_ ?_ ?_); (· rfl); (· rfl); (· rfl); (· rfl); (· kernel_rfl))
    by_cases d0 : 0 ≤ diff ∧ diff ≤ 2
    · have E := HD.out
      rw [if_pos d0] at E
      cases E
      clear HD
      rcases (show diff = 0 ∨ diff = 1 ∨ diff = 2 by omega) with rfl | rfl | rfl
      · skip
        refine (X4.out _ M6.out L6.out.size).mono ?_
        rintro e w7 ⟨rfl, h⟩
        have L7 := Lib.hid (L6.out.trans (h.mono L6.out.size))
        clear h M6 L6 X4
        go_wp2_with fail
        refine (carAwake_any _).mono ?_
        rintro e w8 ⟨rfl, h⟩
        have L8 := Lib.hid (L7.out.trans (h.mono L7.out.size))
        clear h L7
        go_wp2
        go_ret
        exact ⟨rfl, L8.out⟩
      · skip
        refine (X4.out _ M6.out L6.out.size).mono ?_
        rintro e w7 ⟨rfl, h⟩
        have L7 := Lib.hid (L6.out.trans (h.mono L6.out.size))
        clear h M6 L6 X4
        go_wp2_with fail
        refine (carAwake_any _).mono ?_
        rintro e w8 ⟨rfl, h⟩
        have L8 := Lib.hid (L7.out.trans (h.mono L7.out.size))
        clear h L7
        go_wp2
        go_ret
        exact ⟨rfl, L8.out⟩
      · skip
        refine (X4.out _ M6.out L6.out.size).mono ?_
        rintro e w7 ⟨rfl, h⟩
        have L7 := Lib.hid (L6.out.trans (h.mono L6.out.size))
        clear h M6 L6 X4
        go_wp2_with fail
        refine (carAwake_any _).mono ?_
        rintro e w8 ⟨rfl, h⟩
        have L8 := Lib.hid (L7.out.trans (h.mono L7.out.size))
        clear h L7
        go_wp2
        go_ret
        exact ⟨rfl, L8.out⟩
    · have E := HD.out
      rw [if_neg d0] at E
      cases E
      clear HD
      have f0 : (diff == 0) = false := beq_false_of_ne (by omega)
      have f1 : (diff == 1) = false := beq_false_of_ne (by omega)
      have f2 : (diff == 2) = false := beq_false_of_ne (by omega)
      refine (X4.out _ M6.out L6.out.size).mono ?_
      rintro e w7 ⟨rfl, h⟩
      have L7 := Lib.hid (L6.out.trans (h.mono L6.out.size))
      clear h M6 L6 X4
      go_wp2_with fail
      refine (carAwake_any _).mono ?_
      rintro e w8 ⟨rfl, h⟩
      have L8 := Lib.hid (L7.out.trans (h.mono L7.out.size))
      clear h L7
      go_wp2
      go_ret
      exact ⟨rfl, L8.out⟩
theorem cless_law (c : Cr) (g : Int) (w : World) (M : CrM w.heap.size w c) (hw : CrW c) (wg : (Lit.int .i64 g).wf = true) :
    Calls Try.prog 5 #[.agg (carL c).toArray, .int .i64 g] w fun e w' => e = .returned (.bool true) ∧ Below w.heap.size w w' := cless_walk c g w M hw (bounds_i64 wg)
end Go.Proofs.Ytbpmbdnhfkfkhaa
