/- -/
import Derived.Test.YtmdjnamkbekjkaaGreatDoorXq
import Derived.Test.YtmdjnamkbekjkaaGreatDoorTj
import Derived.Test.YtmdjnamkbekjkaaGreatDoorB4
namespace Go.Proofs.YtmdjnamkbekjkaaGreatDoor
open Go.RowKit
set_option linter.unusedVariables false
set_option linter.unusedSimpArgs false
set_option maxRecDepth 100000 in
set_option maxHeartbeats 4000000 in
theorem tioenc_walk (C : TioC) (A : TioAw) (a : TAd) (d : TD) (B : Nat) (w : World) (hB : B ≤ w.heap.size) (hE : ErT w) (hh : 0 ≤ d.head ∧ d.head ≤ 4294967295) (K : TkM B w (tkA a d)) :
  Calls Tryz.prog 3 #[trkV (tkA a d).t] w fun e w' => e = .returned (.bool true) ∧ Below w.heap.size w w' := by
 have Q0 := Lib.hid (PK.new 34 K hB)
 have XF := Lib.hid (fun (W : World) (Q : PK w W B w.heap.size (tkA a d)) => kfew_any (tkA a d) B W Q.bz Q.t)
 have HC := Lib.hid C
 have HA := Lib.hid A
 have HE := Lib.hid hE
 have RO := Lib.hid (fun (h : (rgtK (tkA a d)).1 = 0) => right_ok K hh h)
 clear K hB C A hE
 by_cases few : fewK (tkA a d)
 rotate_left
 ·rw [decide_eq_false few] at XF
  clear few HC HA RO
  go_enter Tryz.func3, Tryz.ntmps3
  go_wp2_with fail
  refine calls_gen (S := fun W => PK w W B w.heap.size (tkA a d)) Q0.out (fun W1 hS => ?_)
  have Q1 := Lib.hid hS
  clear hS Q0
  refine (XF.out _ Q1.out).mono ?_
  rintro e w2 ⟨rfl, h⟩
  have Q2 := Lib.hid (Q1.out.step h)
  clear h Q1 XF
  go_wp2
  go_ret
  exact ⟨rfl, Q2.out.l⟩
 rw [decide_eq_true few] at XF
 have XP := Lib.hid (fun (W : World) (Q : PK w W B w.heap.size (tkA a d)) => HC.out.enc a d B W Q.bz few.2 hh (HE.out.step Q.l) Q.t)
 have XR := Lib.hid (fun (W : World) (Q : PK w W B w.heap.size (tkA a d)) => r15Encode_any a d B W Q.bz few hh Q.t)
 have BY := Lib.hid (show Byt (if (rgtK (tkA a d)).1 = 0 then trackCod.wr d else []) by
  split
  ·exact byt_track d
  ·exact fun x hx => by cases hx)
 clear few HC hh
 generalize (if (rgtK (tkA a d)).1 = 0 then trackCod.wr d else []) = Y at *
 generalize (rgtK (tkA a d)).1 = x1 at *
 go_enter Tryz.func3, Tryz.ntmps3
 go_wp2_with fail
 refine calls_gen (S := fun W => PK w W B w.heap.size (tkA a d)) Q0.out (fun W1 hS => ?_)
 have Q1 := Lib.hid hS
 clear hS Q0
 refine (XF.out _ Q1.out).mono ?_
 rintro e w2 ⟨rfl, h⟩
 have Q2 := Lib.hid (Q1.out.step h)
 clear h Q1 XF
 have cs := tk_of Q2.out.c
 unfold TKc at cs
 obtain ⟨c00, c01, c02, c03, c04, c05, c06, c07, c08, c09, c10, c11, c12, c13, c14, c15⟩ := cs
 go_wp2_with fail
 refine (XP.out _ Q2.out).mono ?_
 rintro e w3 ⟨⟨v1, rfl, o1⟩, h⟩
 have Q3 := Lib.hid (Q2.out.step h)
 have O1 := Lib.hid o1
 clear c00 c01 c02 c03 c04 c05 c06 c07 c08 c09 c10 c11 c12 c13 c14 c15
 clear h Q2 XP o1
 have cs := tk_of Q3.out.c
 unfold TKc at cs
 obtain ⟨c00, c01, c02, c03, c04, c05, c06, c07, c08, c09, c10, c11, c12, c13, c14, c15⟩ := cs
 go_wp2_with fail
 refine (XR.out _ Q3.out).mono ?_
 rintro e w4 ⟨⟨v2, rfl, o2⟩, h⟩
 have Q4 := Lib.hid (Q3.out.step h)
 have cv1 := conv_ob (P := Tryz.prog) (O1.out.below h) BY.out 36 5 9 rfl rfl rfl
 have cv2 := conv_ob (P := Tryz.prog) o2 BY.out 36 5 9 rfl rfl rfl
 clear c00 c01 c02 c03 c04 c05 c06 c07 c08 c09 c10 c11 c12 c13 c14 c15
 clear h Q3 XR O1 o2
 have b1 : (x1 == x1) = true := beq_self_eq_true x1
 go_wp2_with fail
 refine (HA.out _ (HE.out.step Q4.out.l)).mono ?_
 rintro e w5 ⟨rfl, h⟩
 have Q5 := Lib.hid (Q4.out.step h)
 clear h Q4 cv1 cv2
 go_wp2
 go_ret
 exact ⟨rfl, Q5.out.l⟩
end Go.Proofs.YtmdjnamkbekjkaaGreatDoor
