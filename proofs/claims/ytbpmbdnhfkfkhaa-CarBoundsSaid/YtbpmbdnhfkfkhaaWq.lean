/- The statements on cars: the walks. -/
import Derived.Test.YtbpmbdnhfkfkhaaU7
namespace Go.Proofs.Ytbpmbdnhfkfkhaa
open Go.RowKit
set_option linter.unusedVariables false
set_option linter.unusedSimpArgs false

set_option maxRecDepth 100000 in
set_option maxHeartbeats 8000000 in
theorem cbounds_walk (c : Cr) (gear : Int) (w : World) (M : CrM w.heap.size w c) (hw : CrW c) (hg : In64 gear) :
    Calls Try.prog 4 #[.agg (carL c).toArray, .int .i64 gear] w fun e w' => e = .returned (.bool true) ∧ Below w.heap.size w w' := by
  have Q0 := Lib.hid (CA.new 37 M (Nat.le_refl _))
  have X0 := Lib.hid (fun (W : World) (Q : CA w W w.heap.size w.heap.size c) => lFew_any c w.heap.size W Q.bz Q.M)
  have X1 := Lib.hid (fun (few : fewC c) (W : World) (Q : CA w W w.heap.size w.heap.size c) => cRight_any c w.heap.size W Q.bz few hw Q.M)
  have X2 := Lib.hid (fun (few : fewC c) (W : World) (Q : CA w W w.heap.size w.heap.size c) => cRatio_any c gear w.heap.size W Q.bz hw hg Q.M.g few.2.2.2.1)
  clear M hw
  by_cases few : fewC c
  rotate_left
  · rw [decide_eq_false few] at X0
    clear X1 X2
    go_enter Try.func4, Try.ntmps4
    have RR := Lib.hid Q0.out.k.range
    go_wp2_with ((with_reducible refine wpList_load_mid ?_ 37 (.tmp 2) ?_ w.heap.size 0 ?_ (carL c) _ RR.out Try.underlying37 ?_ ?_ ?_); (· rfl); (· rfl); (· rfl); (· rfl); (· kernel_rfl))
    clear RR
    refine (X0.out _ Q0.out).mono ?_
    rintro e w1 ⟨rfl, h⟩
    have Q1 := Lib.hid (Q0.out.step h)
    clear h Q0
    go_wp2
    go_ret
    exact ⟨rfl, Q1.out.l⟩
  rw [decide_eq_true few] at X0
  have X1 := Lib.hid (X1.out few)
  have X2 := Lib.hid (X2.out few)
  have RN := Lib.hid (fun (h : gear = 0 ∨ gear < -1 ∨ (c.g.n : Int) < gear) => ratio_none (c := c) h)
  have RS := Lib.hid (fun (k : (rgtC c).1 = 0) (h : ¬ (gear = 0 ∨ gear < -1 ∨ (c.g.n : Int) < gear)) => ratio_some (c := c) k h)
  obtain ⟨⟨r0, r1⟩, hr⟩ : ∃ r, rgtC c = r := ⟨_, rfl⟩
  rw [hr] at X1 RS
  clear hr few
  dsimp only at X1 RS
  generalize ratioF c gear = ra at *
  by_cases z : r0 = 0
  rotate_left
  · have zb : (r0 != 0) = true := bne_iff_ne.mpr z
    go_enter Try.func4, Try.ntmps4
    have RR := Lib.hid Q0.out.k.range
    go_wp2_with ((with_reducible refine wpList_load_mid ?_ 37 (.tmp 2) ?_ w.heap.size 0 ?_ (carL c) _ RR.out Try.underlying37 ?_ ?_ ?_); (· rfl); (· rfl); (· rfl); (· rfl); (· kernel_rfl))
    clear RR
    refine (X0.out _ Q0.out).mono ?_
    rintro e w1 ⟨rfl, h⟩
    have Q1 := Lib.hid (Q0.out.step h)
    clear h Q0
    have RR := Lib.hid Q1.out.k.range
    go_wp2_with ((with_reducible refine wpList_load_mid ?_ 37 (.tmp 2) ?_ w.heap.size 0 ?_ (carL c) _ RR.out Try.underlying37 ?_ ?_ ?_); (· rfl); (· rfl); (· rfl); (· rfl); (· kernel_rfl))
    clear RR
    refine (X1.out _ Q1.out).mono ?_
    rintro e w2 ⟨rfl, h⟩
    have Q2 := Lib.hid (Q1.out.step h)
    clear h Q1
    go_wp2_with fail
    refine (carAwake_any _).mono ?_
    rintro e w3 ⟨rfl, h⟩
    have Q3 := Lib.hid (Q2.out.step h)
    clear h Q2
    go_wp2
    go_ret
    exact ⟨rfl, Q3.out.l⟩
  subst z
  by_cases g0 : gear = 0 ∨ gear < -1 ∨ (c.g.n : Int) < gear
  · have E := RN.out g0
    subst E
    by_cases a1 : gear = 0
    · subst a1
      go_enter Try.func4, Try.ntmps4
      have RR := Lib.hid Q0.out.k.range
      go_wp2_with ((with_reducible refine wpList_load_mid ?_ 37 (.tmp 2) ?_ w.heap.size 0 ?_ (carL c) _ RR.out Try.underlying37 ?_ ?_ ?_); (· rfl); (· rfl); (· rfl); (· rfl); (· kernel_rfl))
      clear RR
      refine (X0.out _ Q0.out).mono ?_
      rintro e w1 ⟨rfl, h⟩
      have Q1 := Lib.hid (Q0.out.step h)
      clear h Q0
      have RR := Lib.hid Q1.out.k.range
      go_wp2_with ((with_reducible refine wpList_load_mid ?_ 37 (.tmp 2) ?_ w.heap.size 0 ?_ (carL c) _ RR.out Try.underlying37 ?_ ?_ ?_); (· rfl); (· rfl); (· rfl); (· rfl); (· kernel_rfl))
      clear RR
      refine (X1.out _ Q1.out).mono ?_
      rintro e w2 ⟨rfl, h⟩
      have Q2 := Lib.hid (Q1.out.step h)
      clear h Q1
      have RR := Lib.hid Q2.out.k.range
      go_wp2_with ((with_reducible refine wpList_load_mid ?_ 37 (.tmp 2) ?_ w.heap.size 0 ?_ (carL c) _ RR.out Try.underlying37 ?_ ?_ ?_); (· rfl); (· rfl); (· rfl); (· rfl); (· kernel_rfl))
      clear RR
      refine (X2.out _ Q2.out).mono ?_
      rintro e w3 ⟨rfl, h⟩
      have Q3 := Lib.hid (Q2.out.step h)
      clear h Q2
      go_wp2_with fail
      refine (carAwake_any _).mono ?_
      rintro e w4 ⟨rfl, h⟩
      have Q4 := Lib.hid (Q3.out.step h)
      clear h Q3
      go_wp2
      go_ret
      exact ⟨rfl, Q4.out.l⟩
    · by_cases a2 : gear < -1
      · skip
        go_enter Try.func4, Try.ntmps4
        have RR := Lib.hid Q0.out.k.range
        go_wp2_with ((with_reducible refine wpList_load_mid ?_ 37 (.tmp 2) ?_ w.heap.size 0 ?_ (carL c) _ RR.out Try.underlying37 ?_ ?_ ?_); (· rfl); (· rfl); (· rfl); (· rfl); (· kernel_rfl))
        clear RR
        refine (X0.out _ Q0.out).mono ?_
        rintro e w1 ⟨rfl, h⟩
        have Q1 := Lib.hid (Q0.out.step h)
        clear h Q0
        have RR := Lib.hid Q1.out.k.range
        go_wp2_with ((with_reducible refine wpList_load_mid ?_ 37 (.tmp 2) ?_ w.heap.size 0 ?_ (carL c) _ RR.out Try.underlying37 ?_ ?_ ?_); (· rfl); (· rfl); (· rfl); (· rfl); (· kernel_rfl))
        clear RR
        refine (X1.out _ Q1.out).mono ?_
        rintro e w2 ⟨rfl, h⟩
        have Q2 := Lib.hid (Q1.out.step h)
        clear h Q1
        have RR := Lib.hid Q2.out.k.range
        go_wp2_with ((with_reducible refine wpList_load_mid ?_ 37 (.tmp 2) ?_ w.heap.size 0 ?_ (carL c) _ RR.out Try.underlying37 ?_ ?_ ?_); (· rfl); (· rfl); (· rfl); (· rfl); (· kernel_rfl))
        clear RR
        refine (X2.out _ Q2.out).mono ?_
        rintro e w3 ⟨rfl, h⟩
        have Q3 := Lib.hid (Q2.out.step h)
        clear h Q2
        go_wp2_with fail
        refine (carAwake_any _).mono ?_
        rintro e w4 ⟨rfl, h⟩
        have Q4 := Lib.hid (Q3.out.step h)
        clear h Q3
        go_wp2
        go_ret
        exact ⟨rfl, Q4.out.l⟩
      · have a3 : (c.g.n : Int) < gear := by omega
        go_enter Try.func4, Try.ntmps4
        have RR := Lib.hid Q0.out.k.range
        go_wp2_with ((with_reducible refine wpList_load_mid ?_ 37 (.tmp 2) ?_ w.heap.size 0 ?_ (carL c) _ RR.out Try.underlying37 ?_ ?_ ?_); (· rfl); (· rfl); (· rfl); (· rfl); (· kernel_rfl))
        clear RR
        refine (X0.out _ Q0.out).mono ?_
        rintro e w1 ⟨rfl, h⟩
        have Q1 := Lib.hid (Q0.out.step h)
        clear h Q0
        have RR := Lib.hid Q1.out.k.range
        go_wp2_with ((with_reducible refine wpList_load_mid ?_ 37 (.tmp 2) ?_ w.heap.size 0 ?_ (carL c) _ RR.out Try.underlying37 ?_ ?_ ?_); (· rfl); (· rfl); (· rfl); (· rfl); (· kernel_rfl))
        clear RR
        refine (X1.out _ Q1.out).mono ?_
        rintro e w2 ⟨rfl, h⟩
        have Q2 := Lib.hid (Q1.out.step h)
        clear h Q1
        have RR := Lib.hid Q2.out.k.range
        go_wp2_with ((with_reducible refine wpList_load_mid ?_ 37 (.tmp 2) ?_ w.heap.size 0 ?_ (carL c) _ RR.out Try.underlying37 ?_ ?_ ?_); (· rfl); (· rfl); (· rfl); (· rfl); (· kernel_rfl))
        clear RR
        refine (X2.out _ Q2.out).mono ?_
        rintro e w3 ⟨rfl, h⟩
        have Q3 := Lib.hid (Q2.out.step h)
        clear h Q2
        have k60 := Q3.out.k.c 60 _ rfl
        go_wp2_with fail
        refine (carAwake_any _).mono ?_
        rintro e w4 ⟨rfl, h⟩
        have Q4 := Lib.hid (Q3.out.step h)
        clear h Q3
        go_wp2
        go_ret
        exact ⟨rfl, Q4.out.l⟩
  · obtain ⟨p1, p2, p3, p4⟩ := RS.out rfl g0
    have a1 : ¬ gear = 0 := fun h => g0 (Or.inl h)
    have a2 : ¬ gear < -1 := fun h => g0 (Or.inr (Or.inl h))
    have a3 : ¬ (c.g.n : Int) < gear := fun h => g0 (Or.inr (Or.inr h))
    have b1 : (gear == 0) = false := beq_false_of_ne a1
    have b2 : decide (gear < -1) = false := decide_eq_false a2
    have b3 : decide ((c.g.n : Int) < gear) = false := decide_eq_false a3
    have t3 : (ra != 0) = true := bne_iff_ne.mpr p2
    have t4 : decide (ra ≤ 2199023255552) = true := decide_eq_true p3
    have t5 : decide (-2199023255552 ≤ ra) = true := decide_eq_true p4
    clear RS RN g0
    by_cases s : 0 < gear
    · have s1 := p1.mpr s
      have u1 : decide (0 < ra) = true := decide_eq_true s1
      have u2 : decide (0 < gear) = true := decide_eq_true s
      go_enter Try.func4, Try.ntmps4
      have RR := Lib.hid Q0.out.k.range
      go_wp2_with ((with_reducible refine wpList_load_mid ?_ 37 (.tmp 2) ?_ w.heap.size 0 ?_ (carL c) _ RR.out Try.underlying37 ?_ ?_ ?_); (· rfl); (· rfl); (· rfl); (· rfl); (· kernel_rfl))
      clear RR
      refine (X0.out _ Q0.out).mono ?_
      rintro e w1 ⟨rfl, h⟩
      have Q1 := Lib.hid (Q0.out.step h)
      clear h Q0
      have RR := Lib.hid Q1.out.k.range
      go_wp2_with ((with_reducible refine wpList_load_mid ?_ 37 (.tmp 2) ?_ w.heap.size 0 ?_ (carL c) _ RR.out Try.underlying37 ?_ ?_ ?_); (· rfl); (· rfl); (· rfl); (· rfl); (· kernel_rfl))
      clear RR
      refine (X1.out _ Q1.out).mono ?_
      rintro e w2 ⟨rfl, h⟩
      have Q2 := Lib.hid (Q1.out.step h)
      clear h Q1
      have RR := Lib.hid Q2.out.k.range
      go_wp2_with ((with_reducible refine wpList_load_mid ?_ 37 (.tmp 2) ?_ w.heap.size 0 ?_ (carL c) _ RR.out Try.underlying37 ?_ ?_ ?_); (· rfl); (· rfl); (· rfl); (· rfl); (· kernel_rfl))
      clear RR
      refine (X2.out _ Q2.out).mono ?_
      rintro e w3 ⟨rfl, h⟩
      have Q3 := Lib.hid (Q2.out.step h)
      clear h Q2
      have k60 := Q3.out.k.c 60 _ rfl
      go_wp2_with fail
      refine (lwhole_any 512 2199023255552 (by decide +kernel) _).mono ?_
      rintro e w3 ⟨rfl, rfl⟩
      go_wp2_with fail
      refine (lwhole_any (-512) (-2199023255552) (by decide +kernel) _).mono ?_
      rintro e w3 ⟨rfl, rfl⟩
      go_wp2_with fail
      refine (carAwake_any _).mono ?_
      rintro e w4 ⟨rfl, h⟩
      have Q4 := Lib.hid (Q3.out.step h)
      clear h Q3
      go_wp2
      go_ret
      exact ⟨rfl, Q4.out.l⟩
    · have s1 : ¬ 0 < ra := fun h => s (p1.mp h)
      have u1 : decide (0 < ra) = false := decide_eq_false s1
      have u2 : decide (0 < gear) = false := decide_eq_false s
      go_enter Try.func4, Try.ntmps4
      have RR := Lib.hid Q0.out.k.range
      go_wp2_with ((with_reducible refine wpList_load_mid ?_ 37 (.tmp 2) ?_ w.heap.size 0 ?_ (carL c) _ RR.out Try.underlying37 ?_ ?_ ?_); (· rfl); (· rfl); (· rfl); (· rfl); (· kernel_rfl))
      clear RR
      refine (X0.out _ Q0.out).mono ?_
      rintro e w1 ⟨rfl, h⟩
      have Q1 := Lib.hid (Q0.out.step h)
      clear h Q0
      have RR := Lib.hid Q1.out.k.range
      go_wp2_with ((with_reducible refine wpList_load_mid ?_ 37 (.tmp 2) ?_ w.heap.size 0 ?_ (carL c) _ RR.out Try.underlying37 ?_ ?_ ?_); (· rfl); (· rfl); (· rfl); (· rfl); (· kernel_rfl))
      clear RR
      refine (X1.out _ Q1.out).mono ?_
      rintro e w2 ⟨rfl, h⟩
      have Q2 := Lib.hid (Q1.out.step h)
      clear h Q1
      have RR := Lib.hid Q2.out.k.range
      go_wp2_with ((with_reducible refine wpList_load_mid ?_ 37 (.tmp 2) ?_ w.heap.size 0 ?_ (carL c) _ RR.out Try.underlying37 ?_ ?_ ?_); (· rfl); (· rfl); (· rfl); (· rfl); (· kernel_rfl))
      clear RR
      refine (X2.out _ Q2.out).mono ?_
      rintro e w3 ⟨rfl, h⟩
      have Q3 := Lib.hid (Q2.out.step h)
      clear h Q2
      have k60 := Q3.out.k.c 60 _ rfl
      go_wp2_with fail
      refine (lwhole_any 512 2199023255552 (by decide +kernel) _).mono ?_
      rintro e w3 ⟨rfl, rfl⟩
      go_wp2_with fail
      refine (lwhole_any (-512) (-2199023255552) (by decide +kernel) _).mono ?_
      rintro e w3 ⟨rfl, rfl⟩
      go_wp2_with fail
      refine (carAwake_any _).mono ?_
      rintro e w4 ⟨rfl, h⟩
      have Q4 := Lib.hid (Q3.out.step h)
      clear h Q3
      go_wp2
      go_ret
      exact ⟨rfl, Q4.out.l⟩
theorem cbounds_law (c : Cr) (g : Int) (w : World) (M : CrM w.heap.size w c) (hw : CrW c) (wg : (Lit.int .i64 g).wf = true) :
    Calls Try.prog 4 #[.agg (carL c).toArray, .int .i64 g] w fun e w' => e = .returned (.bool true) ∧ Below w.heap.size w w' := cbounds_walk c g w M hw (bounds_i64 wg)
end Go.Proofs.Ytbpmbdnhfkfkhaa
