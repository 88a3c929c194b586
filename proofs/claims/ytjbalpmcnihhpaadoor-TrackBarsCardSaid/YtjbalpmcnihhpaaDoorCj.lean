/- The walk of TrackBars: awake stands as a condition. -/
import Derived.Test.YtjbalpmcnihhpaaDoorB4
namespace Go.Proofs.YtjbalpmcnihhpaaDoor
open Go.RowKit
set_option linter.unusedVariables false
set_option linter.unusedSimpArgs false

theorem eqV2s (n : Nat) (a b c d : Int) (w : World) : (Op.equalIn (n + 1 + 1) 24 (.agg #[.int .i64 a, .int .i64 b]) (.agg #[.int .i64 c, .int .i64 d])).run Tryd.prog w = .ok (a == c && b == d) w := by
  have u3 := Tryd.underlying22
  have a3 := Tryd.isAgg22
  have z3 := Tryd.sizeOf22
  have hS : Tryd.prog.underlying 24 = some (.struct (Tryd.prog.fieldsOf 24)) := by kernel_rfl
  have hp : Tryd.prog.stoodInHeld 24 = false := by kernel_rfl
  rw [run_equalIn_agg w (n + 1) 24 _ _ hS hp]
  simp only [Program.fieldsOf, Tryd.underlying24]
  go_simp
  by_cases h1 : a = c <;> by_cases h2 : b = d <;> simp [h1, h2]
theorem eqBar (a b c d r : Int) (w : World) : (Op.equalIn 10000 39 (.agg #[.int .i64 a, .int .i64 b, .int .i64 c, .int .i64 d, .int .i64 r]) (.agg #[.int .i64 a, .int .i64 b, .int .i64 c, .int .i64 d, .int .i64 r])).run Tryd.prog w = .ok true w := by
  have ev := fun (a b c d : Int) (w : World) => eqV2s 9997 a b c d w
  have ua := Tryd.underlying24
  have aa := Tryd.isAgg24
  have za := Tryd.sizeOf24
  have hS : Tryd.prog.underlying 39 = some (.struct (Tryd.prog.fieldsOf 39)) := by kernel_rfl
  have hp : Tryd.prog.stoodInHeld 39 = false := by kernel_rfl
  rw [show (10000 : Nat) = 9999 + 1 from rfl, run_equalIn_agg w 9999 39 _ _ hS hp]
  simp only [Program.fieldsOf, Tryd.underlying39]
  go_simp
set_option maxRecDepth 100000 in
set_option maxHeartbeats 4000000 in
theorem kbars_walk (C : TrackC) (A : TAw) (k : Tk) (B : Nat) (w : World) (hB : B ≤ w.heap.size) (hE : ErT w) (K : TkM B w k) :
    Calls Tryd.prog 3 #[trkV k.t] w fun e w' => e = .returned (.bool true) ∧ Below w.heap.size w w' := by
  have Q0 := Lib.hid (PK.new 34 K hB)
  have XF := Lib.hid (fun (W : World) (Q : PK w W B w.heap.size k) => kfew_any k B W Q.bz Q.t)
  have HC := Lib.hid C
  have HA := Lib.hid A
  have HE := Lib.hid hE
  clear K hB C A hE
  by_cases few : fewK k
  rotate_left
  · rw [decide_eq_false few] at XF
    clear few HC HA
    go_enter Tryd.func3, Tryd.ntmps3
    go_wp2_with fail
    refine calls_gen (S := fun W => PK w W B w.heap.size k) Q0.out (fun W1 hS => ?_)
    have Q1 := Lib.hid hS
    clear hS Q0
    refine (XF.out _ Q1.out).mono ?_
    rintro e w2 ⟨rfl, h⟩
    have Q2 := Lib.hid (Q1.out.step h)
    clear h Q1 XF
    go_wp2
    go_ret
    exact ⟨rfl, Q2.out.l⟩
  rw [decide_eq_true few] at XF
  have XP := Lib.hid (fun (W : World) (Q : PK w W B w.heap.size k) => HC.out.bars k B W Q.bz few Q.t)
  have XR := Lib.hid (fun (W : World) (Q : PK w W B w.heap.size k) => rKBars_any k B W Q.bz few.2 Q.t)
  have BN := Lib.hid (show barN k k.t.rn ≤ 1980 by have := barN_le k (q := 99) (fun i hi => by have := few.2.2.2.2 i hi; omega) (m := k.t.rn) (Nat.le_refl _); have := few.2.2.1; omega)
  clear few HC
  generalize barN k k.t.rn = N at *
  go_enter Tryd.func3, Tryd.ntmps3
  go_wp2_with fail
  refine calls_gen (S := fun W => PK w W B w.heap.size k) Q0.out (fun W1 hS => ?_)
  have Q1 := Lib.hid hS
  clear hS Q0
  refine (XF.out _ Q1.out).mono ?_
  rintro e w2 ⟨rfl, h⟩
  have Q2 := Lib.hid (Q1.out.step h)
  clear h Q1 XF
  have cs := tk_of Q2.out.c
  unfold TKc at cs
  obtain ⟨c00, c01, c02, c03, c04, c05, c06, c07, c08, c09, c10, c11, c12, c13, c14, c15⟩ := cs
  go_wp2_with fail
  refine (XP.out _ Q2.out).mono ?_
  rintro e w3 ⟨ba, bc, rfl, hD, h⟩
  have Q3 := Lib.hid (Q2.out.step h)
  have D3 := Lib.hid hD
  clear c00 c01 c02 c03 c04 c05 c06 c07 c08 c09 c10 c11 c12 c13 c14 c15
  clear h Q2 XP hD
  have cs := tk_of Q3.out.c
  unfold TKc at cs
  obtain ⟨c00, c01, c02, c03, c04, c05, c06, c07, c08, c09, c10, c11, c12, c13, c14, c15⟩ := cs
  go_wp2_with fail
  refine (XR.out _ Q3.out).mono ?_
  rintro e w4 ⟨da, dc, rfl, hD, h, -⟩
  have Q4 := Lib.hid (Q3.out.step h)
  have D4 := Lib.hid (D3.out.step h)
  have F4 := Lib.hid hD
  clear c00 c01 c02 c03 c04 c05 c06 c07 c08 c09 c10 c11 c12 c13 c14 c15
  clear h Q3 XR D3 hD
  have bn := BN.out
  clear BN
  go_wp2
  go_loopw [5] (fun i wr => ∃ j : Nat, j ≤ N ∧ i = .int .i64 j ∧ PK w wr B w.heap.size k ∧ Brs wr ba N bc (barG k) ∧ Brs wr da N dc (barG k)) (fun i _ => N - (intOf i).toNat)
  case atStart => exact ⟨0, by omega, rfl, Q4.out, D4.out, F4.out⟩
  case round =>
    obtain ⟨j, hj, rfl, hQ, hD, hF⟩ := hrel
    have Q7 := Lib.hid hQ
    have D7 := Lib.hid hD
    have F7 := Lib.hid hF
    clear hQ hD hF Q4 D4 F4
    have z0 : (0 : Int) ≤ (j : Int) := by omega
    by_cases hlj : j < N
    · obtain ⟨bb, bo, hba, hbb, hbc⟩ := D7.out.at' (by omega)
      obtain ⟨⟨e0, e1⟩, ⟨e2, e3⟩, e4⟩ := hbc j hlj
      obtain ⟨db, dof, hda, hdb, hdc⟩ := F7.out.at' (by omega)
      obtain ⟨⟨f0, f1⟩, ⟨f2, f3⟩, f4⟩ := hdc j hlj
      have z1 : (j : Int) < (N : Int) := by omega
      clear hbc hdc
      have hne := Lib.hid hba
      have hnd := Lib.hid hda
      have D8 := D7
      have F8 := F7
      clear D7 F7
      subst hba hda
      have ev := fun w => eqBar (barG k j).ax (barG k j).ay (barG k j).bx (barG k j).by' (barG k j).r w
      generalize (barG k j).ax = x0 at *
      generalize (barG k j).ay = v0 at *
      generalize (barG k j).bx = x1 at *
      generalize (barG k j).by' = v1 at *
      generalize ((barG k j).r : Int) = r1 at *
      go_wp2
      go_quiet (fail)
      clear ev e0 e1 e2 e3 e4 f0 f1 f2 f3 f4
      go_wp2
      go_roundw
      case rel => exact ⟨j + 1, by omega, by go_num, Q7.out.step (by repeat (first | exact Below.refl _ _ | assumption | refine Below.setCell ?_ (by first | omega | (simp; done) | (simp; omega)) _ | refine Below.alloc ?_ (by first | omega | (simp; done) | (simp; omega)) _ | refine below_drewN ?_ _ | refine Below.drew ?_ | refine Below.trans ?_ (Below.mono (by assumption) (by first | omega | (simp; done) | (simp; omega))))), D8.out.step (by repeat (first | exact Below.refl _ _ | assumption | refine Below.setCell ?_ (by first | omega | (simp; done) | (simp; omega)) _ | refine Below.alloc ?_ (by first | omega | (simp; done) | (simp; omega)) _ | refine below_drewN ?_ _ | refine Below.drew ?_ | refine Below.trans ?_ (Below.mono (by assumption) (by first | omega | (simp; done) | (simp; omega))))), F8.out.step (by repeat (first | exact Below.refl _ _ | assumption | refine Below.setCell ?_ (by first | omega | (simp; done) | (simp; omega)) _ | refine Below.alloc ?_ (by first | omega | (simp; done) | (simp; omega)) _ | refine below_drewN ?_ _ | refine Below.drew ?_ | refine Below.trans ?_ (Below.mono (by assumption) (by first | omega | (simp; done) | (simp; omega)))))⟩
      case measure => simp [intOf]; omega
    · have e : j = N := by omega
      subst e
      go_wp2_with fail
      refine (HA.out _ (HE.out.step Q7.out.l)).mono ?_
      rintro e w9 ⟨rfl, h⟩
      have Q9 := Lib.hid (Q7.out.step h)
      clear h Q7
      go_wp2
      go_ret
      exact ⟨rfl, Q9.out.l⟩
end Go.Proofs.YtjbalpmcnihhpaaDoor
