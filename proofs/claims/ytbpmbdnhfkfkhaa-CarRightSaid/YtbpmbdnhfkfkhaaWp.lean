/- The statements on cars: the walks. -/
import Derived.Test.YtbpmbdnhfkfkhaaU7
namespace Go.Proofs.Ytbpmbdnhfkfkhaa
open Go.RowKit
set_option linter.unusedVariables false
set_option linter.unusedSimpArgs false

set_option maxRecDepth 100000 in
set_option maxHeartbeats 8000000 in
theorem cright_walk (c : Cr) (w : World) (M : CrM w.heap.size w c) (hw : CrW c) :
    Calls Try.prog 3 #[.agg (carL c).toArray] w fun e w' => e = .returned (.bool true) ∧ Below w.heap.size w w' := by
  have Q0 := Lib.hid (CA.new 37 M (Nat.le_refl _))
  have X0 := Lib.hid (fun (W : World) (Q : CA w W w.heap.size w.heap.size c) => lFew_any c w.heap.size W Q.bz Q.M)
  have X1 := Lib.hid (fun (few : fewC c) (W : World) (Q : CA w W w.heap.size w.heap.size c) => cRight_any c w.heap.size W Q.bz few hw Q.M)
  have X2 := Lib.hid (fun (few : fewC c) (W : World) (Q : CA w W w.heap.size w.heap.size c) => rCRightA c w.heap.size W Q.bz few Q.M)
  clear M hw
  by_cases few : fewC c
  · rw [decide_eq_true few] at X0
    have X1 := Lib.hid (X1.out few)
    have X2 := Lib.hid (X2.out few)
    obtain ⟨⟨r0, r1⟩, hr⟩ : ∃ r, rgtC c = r := ⟨_, rfl⟩
    rw [hr] at X1 X2
    clear hr few
    dsimp only at X1 X2
    go_enter Try.func3, Try.ntmps3
    have RR := Lib.hid Q0.out.k.range
    go_wp2_with ((with_reducible refine wpList_load_mid ?_ 37 (.tmp 1) ?_ w.heap.size 0 ?_ (carL c) _ RR.out Try.underlying37 ?_ ?_ ?_); (· rfl); (· rfl); (· rfl); (· rfl); (· kernel_rfl))
    clear RR
    refine (X0.out _ Q0.out).mono ?_
    rintro e w1 ⟨rfl, h⟩
    have Q1 := Lib.hid (Q0.out.step h)
    clear h Q0
    have RR := Lib.hid Q1.out.k.range
    go_wp2_with ((with_reducible refine wpList_load_mid ?_ 37 (.tmp 1) ?_ w.heap.size 0 ?_ (carL c) _ RR.out Try.underlying37 ?_ ?_ ?_); (· rfl); (· rfl); (· rfl); (· rfl); (· kernel_rfl))
    clear RR
    refine (X1.out _ Q1.out).mono ?_
    rintro e w2 ⟨rfl, h⟩
    have Q2 := Lib.hid (Q1.out.step h)
    clear h Q1
    have RR := Lib.hid Q2.out.k.range
    go_wp2_with ((with_reducible refine wpList_load_mid ?_ 37 (.tmp 1) ?_ w.heap.size 0 ?_ (carL c) _ RR.out Try.underlying37 ?_ ?_ ?_); (· rfl); (· rfl); (· rfl); (· rfl); (· kernel_rfl))
    clear RR
    refine (X2.out _ Q2.out).mono ?_
    rintro e w3 ⟨rfl, h⟩
    have Q3 := Lib.hid (Q2.out.step h)
    clear h Q2
    go_wp2_with fail
    refine (carAwake_any _).mono ?_
    rintro e w4 ⟨rfl, h⟩
    have Q4 := Lib.hid (Q3.out.step h)
    clear h Q3
    go_wp2
    go_ret
    exact ⟨rfl, Q4.out.l⟩
  · rw [decide_eq_false few] at X0
    clear X1 X2
    go_enter Try.func3, Try.ntmps3
    have RR := Lib.hid Q0.out.k.range
    go_wp2_with ((with_reducible refine wpList_load_mid ?_ 37 (.tmp 1) ?_ w.heap.size 0 ?_ (carL c) _ RR.out Try.underlying37 ?_ ?_ ?_); (· rfl); (· rfl); (· rfl); (· rfl); (· kernel_rfl))
    clear RR
    refine (X0.out _ Q0.out).mono ?_
    rintro e w1 ⟨rfl, h⟩
    have Q1 := Lib.hid (Q0.out.step h)
    clear h Q0
    go_wp2
    go_ret
    exact ⟨rfl, Q1.out.l⟩
end Go.Proofs.Ytbpmbdnhfkfkhaa
