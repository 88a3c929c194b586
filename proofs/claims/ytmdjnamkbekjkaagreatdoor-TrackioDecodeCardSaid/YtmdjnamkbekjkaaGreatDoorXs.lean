/- -/
import Derived.Test.YtmdjnamkbekjkaaGreatDoorXq
namespace Go.Proofs.YtmdjnamkbekjkaaGreatDoor
open Go.RowKit
set_option linter.unusedVariables false
set_option linter.unusedSimpArgs false
def Td2 (w W : World) (n m : Nat) (p q : TAd) (d : TD) : Prop := TdW w W n p d ∧ BW W m (tdL q d) ∧ TkM W.heap.size W (tkA q d)
theorem Td2.step {w W W' : World} {n m : Nat} {p q : TAd} {d : TD} (S : Td2 w W n m p q d) (h : Below W.heap.size W W') : Td2 w W' n m p q d :=
 ⟨S.1.step h, S.2.1.below h S.2.1.lt, tkm_up (S.2.2.keep h (Nat.le_refl _)) h.size⟩
set_option maxRecDepth 100000 in
set_option maxHeartbeats 4000000 in
theorem tiodec_walk (C : TioC) (A : TioAw) (R : RefDec) (a : Option Addr) (n c : Nat) (l : List Int) (w : World) (hE : ErT w) (h : BL w a n l) (hc : n ≤ c) (hm : c ≤ maxLen) :
  Calls Tryz.prog 4 #[.slice a n c] w fun e w' => e = .returned (.bool true) ∧ Below w.heap.size w w' := by
 by_cases hn : 20000 < n
 ·have g : (20000 : Int) < (n : Int) := by omega
  clear h C A R
  go_enter Tryz.func4, Tryz.ntmps4
  go_wp2
  go_ret
  exact ⟨rfl, Below.refl _ _⟩
 have g : ¬ (20000 : Int) < (n : Int) := by omega
 have HC := Lib.hid C
 have HA := Lib.hid A
 have HR := Lib.hid R
 have HE := Lib.hid hE
 have HB := Lib.hid h
 have HU := Lib.hid h.u
 have BD := Lib.hid (dec_bd h.u)
 have HN := Lib.hid (And.intro hc hm)
 have LN := Lib.hid h.hn
 clear C A R hE h hc hm
 go_enter Tryz.func4, Tryz.ntmps4
 go_wp2_with (at_builtin; refine wpList_ob rfl (.tmp 13) (.tmp 14) 36 36 rfl 5 _ (.int .u8 0) Tryz.underlying36 rfl rfl rfl rfl (by decide) (own_emptyX _ _) rfl _ n (byC l) rfl (src_bl Tryz.underlying36 (HB.out.below ((Below.refl _ _).alloc (Nat.le_refl _) _)) (fun _ => by cases a <;> simp) c) (by simp; omega) (by simp) ?_)
 intro v w1 o1 g1 p1
 have B1 := Lib.hid (show Below w.heap.size w w1 from ((Below.refl w.heap.size w).alloc (Nat.le_refl _) _).grown g1 (by simp) (fun k e => by cases e; exact Nat.le_refl _))
 obtain ⟨a1, c1, rfl, hb, -, hc1, hm1⟩ := ob_bl3 o1 HU.out
 have hl := LN.out
 subst hl
 have XD := Lib.hid (HC.out.dec a1 _ c1 l w1 hb hc1 hm1 (by omega) (HE.out.step B1.out))
 have BL1 := Lib.hid (bl_step HB.out B1.out)
 have XR := Lib.hid (fun (W : World) (b : BL W a l.length l) => HR.out a l.length c l W b HN.out.1 HN.out.2 (by omega))
 clear o1 g1 p1 hb hc1 hm1 LN HR HN HC
 unfold DecP at XD XR
 have b1 : (decE l == decE l) = true := beq_self_eq_true _
 have b2 : (decA l == decA l) = true := beq_self_eq_true _
 generalize decE l = er at *
 generalize decA l = pl at *
 generalize decD l = d at *
 generalize l.length = n at *
 as_aux_lemma =>
 go_wp2_with fail
 refine XD.out.mono ?_
 rintro e w2 ⟨⟨p, rfl, k2⟩, h⟩
 have bal := (Below.refl w2.heap.size w2).alloc (Nat.le_refl _) (.cells (tdL p d).toArray 34)
 have T3 := Lib.hid (show TdW w (w2.alloc (.cells (tdL p d).toArray 34)) w2.heap.size p d ∧ BL (w2.alloc (.cells (tdL p d).toArray 34)) a n l from ⟨⟨BW.new w2 _ (tdL p d) _ rfl, (B1.out.trans (h.mono B1.out.size)).trans (bal.mono ((B1.out.trans (h.mono B1.out.size)).size)), tkm_up (k2.keep bal (Nat.le_refl _)) bal.size⟩, bl_step (bl_step BL1.out h) bal⟩)
 clear XD k2 h bal B1 BL1
 go_wp2_with fail
 refine calls_gen (S := fun W => TdW w W w2.heap.size p d ∧ BL W a n l) T3.out (fun W3 hS => ?_)
 have S3 := Lib.hid hS.1
 have XR3 := Lib.hid (XR.out W3 hS.2)
 clear hS T3 XR
 generalize w2.heap.size = n1 at *
 refine XR3.out.mono ?_
 rintro e w4 ⟨⟨q, rfl, k4⟩, h⟩
 have S4 := Lib.hid (S3.out.step h)
 have K4 := Lib.hid k4
 clear h k4 S3 XR3
 have bal := (Below.refl w4.heap.size w4).alloc (Nat.le_refl _) (.cells (tdL q d).toArray 34)
 have S5' := Lib.hid (show Td2 w (w4.alloc (.cells (tdL q d).toArray 34)) n1 w4.heap.size p q d from ⟨S4.out.step bal, BW.new w4 _ (tdL q d) _ rfl, tkm_up (K4.out.keep bal (Nat.le_refl _)) bal.size⟩)
 have zl := S4.out.c.lt
 have cs := S4.out.kc
 unfold TKc at cs
 obtain ⟨e00, e01, e02, e03, e04, e05, e06, e07, e08, e09, e10, e11, e12, e13, e14, e15⟩ := cs
 clear bal
 as_aux_lemma =>
 go_wp2_with fail
 refine calls_gen (S := fun W => Td2 w W n1 w4.heap.size p q d) S5'.out (fun W5 hS => ?_)
 have S5 := Lib.hid hS
 clear hS S5' K4 S4 zl e00 e01 e02 e03 e04 e05 e06 e07 e08 e09 e10 e11 e12 e13 e14 e15
 refine (r15Same_any p q d d W5.heap.size W5 (Nat.le_refl _) BD.out S5.out.1.t S5.out.2.2).mono ?_
 rintro e w6 ⟨rfl, h⟩
 have S6 := Lib.hid (S5.out.step h)
 rw [decide_eq_true ((tdP_iff d d).2 rfl)]
 clear h S5
 as_aux_lemma =>
 go_wp2_with fail
 refine (HA.out _ (HE.out.step S6.out.1.l)).mono ?_
 rintro e w7 ⟨rfl, h⟩
 have S7 := Lib.hid (S6.out.step h)
 clear h S6
 go_wp2
 go_ret
 exact ⟨rfl, S7.out.1.l⟩
end Go.Proofs.YtmdjnamkbekjkaaGreatDoor
