/- The walk of TrackLess: awake stands as a condition. -/
import Derived.Test.YtjbalpmcnihhpaaDoorCl
namespace Go.Proofs.YtjbalpmcnihhpaaDoor
open Go.RowKit
set_option linter.unusedVariables false
set_option linter.unusedSimpArgs false

set_option maxRecDepth 100000 in
set_option maxHeartbeats 4000000 in
theorem kless_walk (C : TrackC) (A : TAw) (k : Tk) (B : Nat) (w : World) (hB : B ≤ w.heap.size) (hE : ErT w) (K : TkM B w k) :
    Calls Tryd.prog 5 #[trkV k.t] w fun e w' => e = .returned (.bool true) ∧ Below w.heap.size w w' := by
  have Q0 := Lib.hid (PK.new 34 K hB)
  have XF := Lib.hid (fun (W : World) (Q : PK w W B w.heap.size k) => kfew_any k B W Q.bz Q.t)
  have HC := Lib.hid C
  have HA := Lib.hid A
  have HE := Lib.hid hE
  clear K hB C A hE
  by_cases few : fewK k
  rotate_left
  · rw [decide_eq_false few] at XF
    clear few HC HA
    go_enter Tryd.func5, Tryd.ntmps5
    go_wp2_with fail
    refine calls_gen (S := fun W => PK w W B w.heap.size k) Q0.out (fun W1 hS => ?_)
    have Q1 := Lib.hid hS
    clear hS Q0
    refine (XF.out _ Q1.out).mono ?_
    rintro e w2 ⟨rfl, h⟩
    have Q2 := Lib.hid (Q1.out.step h)
    clear h Q1 XF
    go_wp2
    go_ret
    exact ⟨rfl, Q2.out.l⟩
  rw [decide_eq_true few] at XF
  have XP := Lib.hid (fun (W : World) (Q : PK w W B w.heap.size k) => HC.out.right k B W Q.bz few (HE.out.step Q.l) Q.t)
  have XL := Lib.hid (fun (hz : (rgtK k).1 = 0) (W : World) (Q : PK w W B w.heap.size k) => by
    have := HC.out.right (lessK k) B W Q.bz (less_few few) (HE.out.step Q.l) (less_m Q.t)
    rw [less_right hz] at this
    exact this)
  have FR := Lib.hid few.2.2.1
  clear few HC
  generalize (rgtK k).1 = x1 at *
  generalize (rgtK k).2 = x2 at *
  go_enter Tryd.func5, Tryd.ntmps5
  go_wp2_with fail
  refine calls_gen (S := fun W => PK w W B w.heap.size k) Q0.out (fun W1 hS => ?_)
  have Q1 := Lib.hid hS
  clear hS Q0
  refine (XF.out _ Q1.out).mono ?_
  rintro e w2 ⟨rfl, h⟩
  have Q2 := Lib.hid (Q1.out.step h)
  clear h Q1 XF
  have cs := tk_of Q2.out.c
  unfold TKc at cs
  obtain ⟨c00, c01, c02, c03, c04, c05, c06, c07, c08, c09, c10, c11, c12, c13, c14, c15⟩ := cs
  go_wp2_with fail
  refine (XP.out _ Q2.out).mono ?_
  rintro e w3 ⟨rfl, h⟩
  have Q3 := Lib.hid (Q2.out.step h)
  clear c00 c01 c02 c03 c04 c05 c06 c07 c08 c09 c10 c11 c12 c13 c14 c15
  clear h Q2 XP
  by_cases hz : x1 = 0
  rotate_left
  · have hb : (x1 == 0) = false := beq_false_of_ne hz
    clear XL
    go_wp2_with fail
    refine (HA.out _ (HE.out.step Q3.out.l)).mono ?_
    rintro e w9 ⟨rfl, h⟩
    have Q9 := Lib.hid (Q3.out.step h)
    clear h Q3
    go_wp2
    go_ret
    exact ⟨rfl, Q9.out.l⟩
  subst hz
  have XM := Lib.hid (fun (m : Nat) (hm : k.t.rn - 1 = m) (W : World) (Q : PK w W B w.heap.size k) => show Calls Tryd.prog 10 #[.agg #[.int .i64 k.t.rate, .int .i64 k.t.cell, .int .i64 k.t.cols, .int .i64 k.t.rows, .int .i64 k.t.cx, .int .i64 k.t.cy, .slice k.t.H.a k.t.H.n k.t.H.c, .slice k.t.G.a k.t.G.n k.t.G.c, .slice k.t.ka k.t.kn k.t.kc, .slice k.t.la k.t.ln k.t.lc, .slice k.t.ra m k.t.rc, .slice k.t.ga k.t.gn k.t.gc, .int .i64 k.t.sx, .int .i64 k.t.sy, .int .u32 k.t.head, .int .i64 1]] W fun e w' => e = .returned (.tuple #[.int .i64 0, .int .i64 0]) ∧ Below W.heap.size W w' by rw [← hm]; exact XL.out rfl W Q)
  clear XL
  have cs := tk_of Q3.out.c
  unfold TKc at cs
  obtain ⟨c00, c01, c02, c03, c04, c05, c06, c07, c08, c09, c10, c11, c12, c13, c14, c15⟩ := cs
  have cl := Q3.out.c.lt
  have fr := FR.out
  by_cases h0 : k.t.rn = 0
  · have g0 : ¬ (0 : Int) < (k.t.rn : Int) := by omega
    have XN := Lib.hid (XM.out 0 (by omega))
    clear XM
    as_aux_lemma =>
      go_wp2_with fail
      refine calls_gen (S := fun W => PK w W B w.heap.size k) (Q3.out.step ((Below.refl _ _).alloc (Nat.le_refl _) _)) (fun W4 hS => ?_)
      have Q4 := Lib.hid hS
      clear hS Q3
      refine (XN.out _ Q4.out).mono ?_
      rintro e w5 ⟨rfl, h⟩
      have Q5 := Lib.hid (Q4.out.step h)
      clear c00 c01 c02 c03 c04 c05 c06 c07 c08 c09 c10 c11 c12 c13 c14 c15
      clear h Q4 XN
      go_wp2_with fail
      refine (HA.out _ (HE.out.step Q5.out.l)).mono ?_
      rintro e w9 ⟨rfl, h⟩
      have Q9 := Lib.hid (Q5.out.step h)
      clear h Q5
      go_wp2
      go_ret
      exact ⟨rfl, Q9.out.l⟩
  · have g0 : (0 : Int) < (k.t.rn : Int) := by omega
    obtain ⟨m, hm⟩ : ∃ m, k.t.rn = m + 1 := ⟨k.t.rn - 1, by omega⟩
    have XN := Lib.hid (XM.out m (by omega))
    have u0 : IntKind.i64.wrap ((k.t.rn : Int) - 1) = (m : Int) := by rw [show (k.t.rn : Int) - 1 = (m : Int) by omega]; exact (wrap_in' (by unfold In64; omega)).1
    have rl := Q3.out.t.rl
    have y0 : (0 : Int) ≤ (m : Int) := by omega
    have y1 : (m : Int) ≤ (k.t.rc : Int) := by omega
    obtain ⟨rb, ro, hra, hrb, -⟩ := Q3.out.t.R (by omega)
    rw [hra] at c10 XN
    clear XM hm h0 hra hrb rl
    as_aux_lemma =>
      go_wp2_with fail
      refine calls_gen (S := fun W => PK w W B w.heap.size k) (Q3.out.step ((Below.refl _ _).alloc (Nat.le_refl _) _)) (fun W4 hS => ?_)
      have Q4 := Lib.hid hS
      clear hS Q3
      refine (XN.out _ Q4.out).mono ?_
      rintro e w5 ⟨rfl, h⟩
      have Q5 := Lib.hid (Q4.out.step h)
      clear c00 c01 c02 c03 c04 c05 c06 c07 c08 c09 c10 c11 c12 c13 c14 c15
      clear h Q4 XN
      go_wp2_with fail
      refine (HA.out _ (HE.out.step Q5.out.l)).mono ?_
      rintro e w9 ⟨rfl, h⟩
      have Q9 := Lib.hid (Q5.out.step h)
      clear h Q5
      go_wp2
      go_ret
      exact ⟨rfl, Q9.out.l⟩
end Go.Proofs.YtjbalpmcnihhpaaDoor
