/- -/
import Derived.Test.YtmdjnamkbekjkaaGreatDoorXq
import Derived.Test.YtmdjnamkbekjkaaGreatDoorB4
namespace Go.Proofs.YtmdjnamkbekjkaaGreatDoor
open Go.RowKit
set_option linter.unusedVariables false
set_option linter.unusedSimpArgs false
set_option maxRecDepth 100000 in
set_option maxHeartbeats 4000000 in
theorem tioback_walk (C : TioC) (A : TioAw) (a : TAd) (d : TD) (B : Nat) (w : World) (hB : B ≤ w.heap.size) (hE : ErT w) (hh : 0 ≤ d.head ∧ d.head ≤ 4294967295) (K : TkM B w (tkA a d)) :
  Calls Tryz.prog 5 #[trkV (tkA a d).t] w fun e w' => e = .returned (.bool true) ∧ Below w.heap.size w w' := by
 have Q0 := Lib.hid (PK.new 34 K hB)
 have XF := Lib.hid (fun (W : World) (Q : PK w W B w.heap.size (tkA a d)) => kfew_any (tkA a d) B W Q.bz Q.t)
 have HC := Lib.hid C
 have HA := Lib.hid A
 have HE := Lib.hid hE
 have RO := Lib.hid (fun (h : (rgtK (tkA a d)).1 = 0) => right_ok K hh h)
 clear K hB C A hE
 by_cases few : fewK (tkA a d)
 rotate_left
 ·rw [decide_eq_false few] at XF
  clear few HC HA RO
  go_enter Tryz.func5, Tryz.ntmps5
  go_wp2_with fail
  refine calls_gen (S := fun W => PK w W B w.heap.size (tkA a d)) Q0.out (fun W1 hS => ?_)
  have Q1 := Lib.hid hS
  clear hS Q0
  refine (XF.out _ Q1.out).mono ?_
  rintro e w2 ⟨rfl, h⟩
  have Q2 := Lib.hid (Q1.out.step h)
  clear h Q1 XF
  go_wp2
  go_ret
  exact ⟨rfl, Q2.out.l⟩
 rw [decide_eq_true few] at XF
 have XP := Lib.hid (fun (W : World) (Q : PK w W B w.heap.size (tkA a d)) => HC.out.enc a d B W Q.bz few.2 hh (HE.out.step Q.l) Q.t)
 have XR := Lib.hid (fun (W : World) (Q : PK w W B w.heap.size (tkA a d)) => HC.out.right (tkA a d) B W Q.bz few.2 (HE.out.step Q.l) Q.t)
 clear few hh
 have RN := Lib.hid (show (rgtK (tkA a d)).1 = (rgtK (tkA noAd d)).1 by rw [rgt_ad])
 generalize (rgtK (tkA a d)).2 = x2 at *
 by_cases hz : (rgtK (tkA a d)).1 = 0
 rotate_left
 ·rw [if_neg hz] at XP
  have bz : ((rgtK (tkA a d)).1 == 0) = false := beq_false_of_ne hz
  clear hz RO RN
  generalize (rgtK (tkA a d)).1 = x1 at *
  have b1 : (x1 == x1) = true := beq_self_eq_true x1
  as_aux_lemma =>
  go_enter Tryz.func5, Tryz.ntmps5
  go_wp2_with fail
  refine calls_gen (S := fun W => PK w W B w.heap.size (tkA a d)) Q0.out (fun W1 hS => ?_)
  have Q1 := Lib.hid hS
  clear hS Q0
  refine (XF.out _ Q1.out).mono ?_
  rintro e w2 ⟨rfl, h⟩
  have Q2 := Lib.hid (Q1.out.step h)
  clear h Q1 XF
  have cs := tk_of Q2.out.c
  unfold TKc at cs
  obtain ⟨c00, c01, c02, c03, c04, c05, c06, c07, c08, c09, c10, c11, c12, c13, c14, c15⟩ := cs
  go_wp2_with fail
  refine (XP.out _ Q2.out).mono ?_
  rintro e w3 ⟨⟨v1, rfl, o1⟩, h⟩
  have Q3 := Lib.hid (Q2.out.step h)
  obtain ⟨a1, c1, rfl⟩ := o1.form
  clear c00 c01 c02 c03 c04 c05 c06 c07 c08 c09 c10 c11 c12 c13 c14 c15
  clear h Q2 XP o1
  have cs := tk_of Q3.out.c
  unfold TKc at cs
  obtain ⟨c00, c01, c02, c03, c04, c05, c06, c07, c08, c09, c10, c11, c12, c13, c14, c15⟩ := cs
  go_wp2_with fail
  refine (XR.out _ Q3.out).mono ?_
  rintro e w4 ⟨rfl, h⟩
  have Q4 := Lib.hid (Q3.out.step h)
  clear c00 c01 c02 c03 c04 c05 c06 c07 c08 c09 c10 c11 c12 c13 c14 c15
  clear h Q3 XR
  go_wp2_with fail
  refine (HA.out _ (HE.out.step Q4.out.l)).mono ?_
  rintro e w5 ⟨rfl, h⟩
  have Q5 := Lib.hid (Q4.out.step h)
  clear h Q4
  go_wp2
  go_ret
  exact ⟨rfl, Q5.out.l⟩
 have OK := Lib.hid (RO.out hz)
 have DB := Lib.hid (dec_back OK.out (RN.out.symm.trans hz))
 have LN := Lib.hid (wr_len (ok_all OK.out))
 have BD := Lib.hid (tok_bd (ok_all OK.out))
 rw [if_pos hz, hz] at XP
 rw [hz] at XR
 clear hz RO RN OK
 go_enter Tryz.func5, Tryz.ntmps5
 go_wp2_with fail
 refine calls_gen (S := fun W => PK w W B w.heap.size (tkA a d)) Q0.out (fun W1 hS => ?_)
 have Q1 := Lib.hid hS
 clear hS Q0
 refine (XF.out _ Q1.out).mono ?_
 rintro e w2 ⟨rfl, h⟩
 have Q2 := Lib.hid (Q1.out.step h)
 clear h Q1 XF
 have cs := tk_of Q2.out.c
 unfold TKc at cs
 obtain ⟨c00, c01, c02, c03, c04, c05, c06, c07, c08, c09, c10, c11, c12, c13, c14, c15⟩ := cs
 go_wp2_with fail
 refine (XP.out _ Q2.out).mono ?_
 rintro e w3 ⟨⟨v1, rfl, o1⟩, h⟩
 have Q3 := Lib.hid (Q2.out.step h)
 obtain ⟨a0, c0, rfl, hb, -, hc0, hm0⟩ := ob_bl3 o1 (byt_track d)
 have BL1 := Lib.hid hb
 clear c00 c01 c02 c03 c04 c05 c06 c07 c08 c09 c10 c11 c12 c13 c14 c15
 clear h Q2 XP o1 hb
 have cs := tk_of Q3.out.c
 unfold TKc at cs
 obtain ⟨c00, c01, c02, c03, c04, c05, c06, c07, c08, c09, c10, c11, c12, c13, c14, c15⟩ := cs
 go_wp2_with fail
 refine (XR.out _ Q3.out).mono ?_
 rintro e w4 ⟨rfl, h⟩
 have Q4 := Lib.hid (Q3.out.step h)
 have BL2 := Lib.hid (bl_step BL1.out h)
 clear c00 c01 c02 c03 c04 c05 c06 c07 c08 c09 c10 c11 c12 c13 c14 c15
 clear h Q3 XR BL1
 have XD := Lib.hid (fun (W : World) (Q : PK w W B w.heap.size (tkA a d)) (b : BL W a0 (trackCod.wr d).length (trackCod.wr d)) => by
  have := HC.out.dec a0 _ c0 (trackCod.wr d) W b hc0 hm0 (by have := LN.out; omega) (HE.out.step Q.l)
  unfold DecP at this
  rw [DB.out.1, DB.out.2.1, DB.out.2.2] at this
  exact this)
 generalize (trackCod.wr d).length = n0 at *
 clear hc0 hm0 LN DB
 as_aux_lemma =>
 go_wp2_with fail
 refine (XD.out _ Q4.out BL2.out).mono ?_
 rintro e w5 ⟨⟨ad, rfl, k5⟩, h⟩
 have Q5 := Lib.hid (Q4.out.step h)
 have K5 := Lib.hid k5
 clear h Q4 BL2 XD k5
 as_aux_lemma =>
 have cs := tk_of Q5.out.c
 unfold TKc at cs
 obtain ⟨c00, c01, c02, c03, c04, c05, c06, c07, c08, c09, c10, c11, c12, c13, c14, c15⟩ := cs
 have bal := (Below.refl w5.heap.size w5).alloc (Nat.le_refl _) (.cells (tdL ad d).toArray 34)
 have Q6' := Lib.hid (Q5.out.step bal)
 have K6' := Lib.hid (tkm_up (K5.out.keep bal (Nat.le_refl _)) bal.size)
 have zl := Q5.out.c.lt
 clear bal
 go_wp2_with fail
 refine calls_gen (S := fun W => PK w W B w.heap.size (tkA a d) ∧ TkM W.heap.size W (tkA ad d)) ⟨Q6'.out, K6'.out⟩ (fun W6 hS => ?_)
 have Q6 := Lib.hid hS.1
 have K6 := Lib.hid hS.2
 clear c00 c01 c02 c03 c04 c05 c06 c07 c08 c09 c10 c11 c12 c13 c14 c15
 clear hS Q5 K5 Q6' K6' zl
 refine (r15Same_any a ad d d W6.heap.size W6 (Nat.le_refl _) BD.out (tkm_up Q6.out.t Q6.out.bz) K6.out).mono ?_
 rintro e w7 ⟨rfl, h⟩
 have Q7 := Lib.hid (Q6.out.step h)
 rw [decide_eq_true ((tdP_iff d d).2 rfl)]
 clear h Q6 K6
 as_aux_lemma =>
 go_wp2_with fail
 refine (HA.out _ (HE.out.step Q7.out.l)).mono ?_
 rintro e w8 ⟨rfl, h⟩
 have Q8 := Lib.hid (Q7.out.step h)
 clear h Q7
 go_wp2
 go_ret
 exact ⟨rfl, Q8.out.l⟩
end Go.Proofs.YtmdjnamkbekjkaaGreatDoor
