/- -/
import Derived.Test.YtmdjnamkbekjkaaGreatDoorXq
import Derived.Test.YtmdjnamkbekjkaaGreatDoorD4
namespace Go.Proofs.YtmdjnamkbekjkaaGreatDoor
open Go.RowKit
set_option linter.unusedVariables false
set_option linter.unusedSimpArgs false
def OnS (w W : World) (n : Nat) (p : TAd) (d : TD) (a : Option Addr) (m : Nat) (l : List Int) : Prop := TdW w W n p d ∧ BL W a m l
theorem OnS.step {w W W' : World} {n m : Nat} {p : TAd} {d : TD} {a : Option Addr} {l : List Int} (S : OnS w W n p d a m l) (h : Below W.heap.size W W') : OnS w W' n p d a m l :=
 ⟨S.1.step h, bl_step S.2 h⟩
set_option maxRecDepth 100000 in
set_option maxHeartbeats 4000000 in
theorem tioone_walk (C : TioC) (A : TioAw) (a : Option Addr) (n c : Nat) (l : List Int) (w : World) (hE : ErT w) (h : BL w a n l) (hc : n ≤ c) (hm : c ≤ maxLen) :
  Calls Tryz.prog 6 #[.slice a n c] w fun e w' => e = .returned (.bool true) ∧ Below w.heap.size w w' := by
 by_cases hn : 20000 < n
 ·have g : (20000 : Int) < (n : Int) := by omega
  clear h C A
  go_enter Tryz.func6, Tryz.ntmps6
  go_wp2
  go_ret
  exact ⟨rfl, Below.refl _ _⟩
 have g : ¬ (20000 : Int) < (n : Int) := by omega
 have HC := Lib.hid C
 have HA := Lib.hid A
 have HE := Lib.hid hE
 have HB := Lib.hid h
 have HU := Lib.hid h.u
 have XD := Lib.hid (HC.out.dec a n c l w h hc hm (by omega) hE)
 have LN := Lib.hid h.hn
 clear C A hE h hc hm
 by_cases ok : decE l = 0
 rotate_left
 ·-- refused
  obtain ⟨p0, p1⟩ := dec_place l
  have p2 : decA l ≤ (n : Int) := by have := LN.out; omega
  have ez : decD l = zTD := by
   unfold decD
   unfold decE at ok
   split at ok
   ·rename_i k; exact if_pos (Or.inl k)
   ·exact if_pos (Or.inr ok)
  have bz : (decE l == 0) = false := beq_false_of_ne ok
  unfold DecP at XD
  rw [ez] at XD
  clear ok ez p1
  generalize decE l = er at *
  generalize decA l = pl at *
  go_enter Tryz.func6, Tryz.ntmps6
  go_wp2_with fail
  refine XD.out.mono ?_
  rintro e w1 ⟨⟨ad, rfl, k1⟩, h⟩
  have K1 := Lib.hid k1
  have B1 := Lib.hid h
  clear XD k1 h
  have bal := (Below.refl w1.heap.size w1).alloc (Nat.le_refl _) (.cells (tdL ad zTD).toArray 34)
  have K2 := Lib.hid (tkm_up (K1.out.keep bal (Nat.le_refl _)) bal.size)
  have B2 := Lib.hid (B1.out.trans (bal.mono B1.out.size))
  clear bal B1 K1
  go_wp2_with fail
  refine calls_gen (S := fun W => TkM W.heap.size W (tkA ad zTD) ∧ Below w.heap.size w W) ⟨K2.out, B2.out⟩ (fun W3 hS => ?_)
  have B3 := Lib.hid hS.2
  have K3 := Lib.hid hS.1
  clear hS K2 B2
  refine (r15Same_any ad noAd zTD zTD W3.heap.size W3 (Nat.le_refl _) z_bd K3.out (ztd_m _ _)).mono ?_
  rintro e w4 ⟨rfl, h⟩
  have B4 := Lib.hid (B3.out.trans (h.mono B3.out.size))
  rw [decide_eq_true ((tdP_iff zTD zTD).2 rfl)]
  clear h B3 K3
  go_wp2_with fail
  refine (HA.out _ (HE.out.step B4.out)).mono ?_
  rintro e w5 ⟨rfl, h⟩
  have B5 := Lib.hid (B4.out.trans (h.mono B4.out.size))
  clear h B4 p0 p2 bz
  go_wp2
  go_ret
  exact ⟨rfl, B5.out⟩
 have s0 : (decS l).err = 0 := Classical.byContradiction fun k => k (by unfold decE at ok; rw [if_pos k] at ok; exact ok)
 have g0 : decG l = 0 := by unfold decE at ok; rw [if_neg (fun k => k s0)] at ok; exact ok
 have ed : decD l = (decR l).1 := by unfold decD; rw [if_neg (by rw [s0, g0]; simp)]
 have ea : decA l = 0 := by unfold decA; rw [if_neg (by rw [s0]; simp), if_neg (by rw [g0]; simp)]
 obtain ⟨o1, o2⟩ := dec_ok HU.out s0
 have OK := Lib.hid (ok_all o1)
 have WR := Lib.hid o2
 unfold DecP at XD
 rw [ed, ea, ok] at XD
 have RG := Lib.hid (fun (p : TAd) => show (rgtK (tkA p (decR l).1)).1 = 0 by rw [rgt_ad]; exact g0)
 clear ok s0 g0 ed ea o1 o2
 generalize (decR l).1 = d at *
 have XE := Lib.hid (fun (p : TAd) (W : World) (b : Below w.heap.size w W) (K : TkM W.heap.size W (tkA p d)) => by
  have := HC.out.enc p d W.heap.size W (Nat.le_refl _) (tok_few OK.out p) OK.out.head (HE.out.step b) K
  rw [RG.out, if_pos rfl, WR.out] at this
  exact this)
 have XR := Lib.hid (fun (p : TAd) (W : World) (b : Below w.heap.size w W) (K : TkM W.heap.size W (tkA p d)) => by
  have := HC.out.right (tkA p d) W.heap.size W (Nat.le_refl _) (tok_few OK.out p) (HE.out.step b) K
  rw [RG.out] at this
  exact this)
 clear OK WR RG
 as_aux_lemma =>
 go_enter Tryz.func6, Tryz.ntmps6
 go_wp2_with fail
 refine XD.out.mono ?_
 rintro e w1 ⟨⟨ad, rfl, k1⟩, h⟩
 have bal := (Below.refl w1.heap.size w1).alloc (Nat.le_refl _) (.cells (tdL ad d).toArray 34)
 have T2 := Lib.hid (show OnS w (w1.alloc (.cells (tdL ad d).toArray 34)) w1.heap.size ad d a n l from ⟨⟨BW.new w1 _ (tdL ad d) _ rfl, h.trans (bal.mono h.size), tkm_up (k1.keep bal (Nat.le_refl _)) bal.size⟩, bl_step (bl_step HB.out h) bal⟩)
 clear XD k1 h bal
 go_wp2_with fail
 refine calls_gen (S := fun W => OnS w W w1.heap.size ad d a n l) T2.out (fun W2 hS => ?_)
 have S2 := Lib.hid hS
 clear hS T2
 generalize w1.heap.size = n1 at *
 refine (XE.out ad _ S2.out.1.l S2.out.1.t).mono ?_
 rintro e w3 ⟨⟨v, rfl, o⟩, h⟩
 have S3 := Lib.hid (S2.out.step h)
 have O3 := Lib.hid o
 clear h o S2 XE
 as_aux_lemma =>
 have cs := S3.out.1.kc
 unfold TKc at cs
 obtain ⟨e00, e01, e02, e03, e04, e05, e06, e07, e08, e09, e10, e11, e12, e13, e14, e15⟩ := cs
 go_wp2_with fail
 refine (XR.out ad _ S3.out.1.l S3.out.1.t).mono ?_
 rintro e w4 ⟨rfl, h⟩
 have S4 := Lib.hid (S3.out.step h)
 have cv1 := conv_ob (P := Tryz.prog) (O3.out.below h) HU.out 36 5 9 rfl rfl rfl
 have cv2 := conv_blX (P := Tryz.prog) S4.out.2 c 36 5 9 rfl rfl rfl
 clear e00 e01 e02 e03 e04 e05 e06 e07 e08 e09 e10 e11 e12 e13 e14 e15
 clear h S3 O3 XR
 generalize (rgtK (tkA ad d)).2 = x2 at *
 as_aux_lemma =>
 go_wp2_with fail
 refine (HA.out _ (HE.out.step S4.out.1.l)).mono ?_
 rintro e w5 ⟨rfl, h⟩
 have S5 := Lib.hid (S4.out.step h)
 clear h S4 cv1 cv2
 go_wp2
 go_ret
 exact ⟨rfl, S5.out.1.l⟩
end Go.Proofs.YtmdjnamkbekjkaaGreatDoor
