/- -/
import Derived.Test.YtmdjnamkbekjkaaGreatDoorTi
import Derived.Test.YtmdjnamkbekjkaaGreatDoorXe
namespace Go.Proofs.YtmdjnamkbekjkaaGreatDoor
open Go.RowKit
set_option linter.unusedVariables false
set_option linter.unusedSimpArgs false
set_option maxRecDepth 100000 in
set_option maxHeartbeats 8000000 in
theorem r15Encode_any (a : TAd) (d : TD) (B : Nat) (w : World) (hB : B ≤ w.heap.size) (few : fewK (tkA a d)) (hh : 0 ≤ d.head ∧ d.head ≤ 4294967295) (K : TkM B w (tkA a d)) :
  Calls Tryz.prog 9 #[trkV (tkA a d).t] w fun e w' => (∃ v, e = .returned (.tuple #[v, .int .i64 (rgtK (tkA a d)).1]) ∧ OB w.heap.size w' v (byC (if (rgtK (tkA a d)).1 = 0 then trackCod.wr d else []))) ∧ Below w.heap.size w w' := by
 obtain ⟨-, i6, i7, i8⟩ := tk_nums K
 have XR := Lib.hid (fun (W : World) (Q : PK w W B w.heap.size (tkA a d)) => rKRight_any (tkA a d) B W Q.bz few.2 Q.t)
 have XG := Lib.hid (fun (W : World) (Q : PK w W B w.heap.size (tkA a d)) => r15Ground_any a d B W Q.bz few Q.t)
 have XL := Lib.hid (fun (W : World) (Q : PK w W B w.heap.size (tkA a d)) => show Calls Tryz.prog 20 #[.slice (tkA a d).t.la (tkA a d).t.ln (tkA a d).t.lc] W fun e w' => (∃ v, e = .returned v ∧ OB W.heap.size w' v (byC (wrL d.L))) ∧ Below W.heap.size W w' from r15Places_any a.L d.L B W Q.bz few.2.1 Q.t.L)
 have XS := Lib.hid (fun (W : World) (j : Nat) (hj : j < (tkA a d).t.rn) (Q : PK w W B w.heap.size (tkA a d)) => show Calls Tryz.prog 20 #[.slice ((tkA a d).R j).a ((tkA a d).R j).n ((tkA a d).R j).c] W fun e w' => (∃ v, e = .returned v ∧ OB W.heap.size w' v (byC (wrL (d.R.getD j [])))) ∧ Below W.heap.size W w' from r15Places_any (a.r j) (d.R.getD j []) B W Q.bz (few.2.2.2.2 j hj) (Q.t.Rs j hj))
 have GT := Lib.hid (fun (j : Nat) => show gateC.wr (d.T.getD j ((0, 0), (0, 0), false)) = placeC.wr (((tkA a d).G j).ax, ((tkA a d).G j).ay) ++ (placeC.wr (((tkA a d).G j).bx, ((tkA a d).G j).by') ++ flagB ((tkA a d).G j).s) from rfl)
 have f0 := few.1
 have GL := Lib.hid (show (gnd3 d).length ≤ 12100 by
  have := gnd3_len d
  obtain ⟨g1, g2, g3⟩ := f0
  have g1 : d.H.length ≤ 1200 := g1
  have g2 : d.G.length ≤ 1000 := g2
  have g3 : d.K.length ≤ 20 := g3
  omega)
 have RL := Lib.hid (fun (j : Nat) (hj : j < (tkA a d).t.rn) => show (d.R.getD j []).length ≤ 100 from few.2.2.2.2 j hj)
 obtain ⟨-, f4, f5, f6, -⟩ := few
 clear f0
 have f4 : d.L.length ≤ 100 := f4
 have f5 : d.R.length ≤ 20 := f5
 have f6 : d.T.length ≤ 20 := f6
 have Q0 := Lib.hid (PK.new 34 K hB)
 clear K hB
 obtain ⟨er, her⟩ : ∃ er, (rgtK (tkA a d)).1 = er := ⟨_, rfl⟩
 rw [her] at XR ⊢
 clear her
 obtain ⟨Y, hY⟩ : ∃ Y, (if er = 0 then trackCod.wr d else []) = Y := ⟨_, rfl⟩
 rw [hY]
 have HY := Lib.hid hY
 clear hY
 generalize (rgtK (tkA a d)).2 = e2 at *
 have E9 := Lib.hid (show d.R.length = (tkA a d).t.rn from rfl)
 have E10 := Lib.hid (show d.T.length = (tkA a d).t.gn from rfl)
 have ES := Lib.hid (show d.s = ((tkA a d).t.sx, (tkA a d).t.sy) from rfl)
 have EH := Lib.hid (show d.head = (tkA a d).t.head from rfl)
 have EL := Lib.hid (show d.laps = (tkA a d).t.laps from rfl)
 generalize tkA a d = k at *
 have X12 := Lib.hid (fun (W : World) => r15Place_any k.t.sx k.t.sy W i6 i7)
 have X15 := Lib.hid (fun (W : World) => rwCount_any k.t.laps W i8.1 i8.2)
 rw [EH.out] at hh
 have X14 := Lib.hid (fun (W : World) => rwNum_any k.t.head W (by omega) (by omega))
 obtain ⟨h0, h1⟩ := hh
 obtain ⟨u1, v1⟩ := wrap_in' (n := k.t.head) (by unfold In64; omega)
 clear i6 i7 i8
 unfold trkV
 go_enter Tryz.func9, Tryz.ntmps9
 go_wp2_with fail
 refine calls_gen (S := fun W => PK w W B w.heap.size k) Q0.out (fun W1 hS => ?_)
 have Q1 := Lib.hid hS
 clear hS Q0
 refine (XR.out _ Q1.out).mono ?_
 rintro e w2 ⟨rfl, h⟩
 have Q2 := Lib.hid (Q1.out.step h)
 clear h Q1 XR
 by_cases he : er = 0
 rotate_left
 ·have kb : (er == 0) = false := beq_false_of_ne he
  have E := Lib.hid (show [] = Y by rw [← HY.out, if_neg he])
  clear XG XL XS GT RL X12 X14 X15
  go_wp2
  go_ret2
  exact ⟨⟨_, rfl, by rw [← E.out]; exact OB.nil _ _⟩, Q2.out.l⟩
 subst he
 have E := Lib.hid (show trackCod.wr d = Y by rw [← HY.out, if_pos rfl])
 clear HY
 go_wp2_with fail
 have Q3 := Lib.hid (Q2.out.step ((Below.refl _ _).drew))
 refine wp_region_held_drew (S := fun W => TKc w.heap.size k.t W) (by kernel_rfl) Q3.out.kc (fun hHeld => ?_)
 generalize World.drew _ = w3 at *
 clear Q2
 refine tkD 0 17 (v := ?_) ?_ hHeld ?_
 rotate_left 1
 (intro W hSw; (try dsimp only [TKc] at hSw); go_simp; try with_reducible rfl)
 (try simp only [putA, putB, putC, putD])
 refine tkD 2 19 (v := ?_) ?_ hHeld ?_
 rotate_left 1
 (intro W hSw; (try dsimp only [TKc] at hSw); go_simp; try with_reducible rfl)
 (try simp only [putA, putB, putC, putD])
 refine tkD 3 20 (v := ?_) ?_ hHeld ?_
 rotate_left 1
 (intro W hSw; (try dsimp only [TKc] at hSw); go_simp; try with_reducible rfl)
 (try simp only [putA, putB, putC, putD])
 refine onlD 1 (fun K hK => ?_)
 go_simp
 refine (XG.out _ Q3.out).mono ?_
 rintro e w4 ⟨⟨v1, rfl, o1⟩, h⟩
 have Q4 := Lib.hid (Q3.out.step h)
 have O1 := Lib.hid (o1.mono (show w.heap.size + 1 ≤ w3.heap.size by have := Q3.out.c.lt; omega))
 go_wp2_with fail
 refine hK.out _ _ (Q4.out.kc) ?_
 clear hK K hHeld
 intro hHeld
 clear h Q3 XG o1
 refine onlD 4 (fun K hK => ?_)
 go_simp
 refine (XL.out _ Q4.out).mono ?_
 rintro e w5 ⟨⟨v2, rfl, o2⟩, h⟩
 have Q5 := Lib.hid (Q4.out.step h)
 have O2 := Lib.hid (O1.out.below h)
 have P2 := Lib.hid o2
 have Z2 := Lib.hid (show w.heap.size + 1 ≤ w5.heap.size by have := Q5.out.c.lt; omega)
 go_wp2_with fail
 refine hK.out _ _ (Q5.out.kc) ?_
 clear hK K hHeld
 intro hHeld
 clear h Q4 XL o2 O1
 refine onlD 5 (fun K hK => ?_)
 have LL := wrL_len d.L
 refine step_ob (by rfl) (.tmp 18) (.tmp 21) 36 36 (by rfl) 5 _ (.int .u8 0) Tryz.underlying36 rfl rfl rfl rfl (by decide) O2.out (by rfl) _ _ (byC (wrL d.L)) (by rfl) (src_own Tryz.underlying36 P2.out (one_ints .u8 _)) (by have := GL.out; rw [byC_length, byC_length]; omega) Z2.out ?_
 intro r6 w6 o3 g3 p3
 have B3 := O2.out.up g3 Z2.out
 have S6 := Lib.hid (show EnS w w6 B k r6 (gnd3 d ++ wrL d.L) 13800 from ⟨Q5.out.stepB B3 (by omega) (by omega), by rw [byC_append]; exact o3, by have := g3.size; have := Z2.out; omega, by have := GL.out; rw [List.length_append]; omega⟩)
 refine hK.out _ _ S6.out.q.kc ?_
 clear hK K hHeld o3 g3 p3 B3 O2 P2 Q5 LL GL
 intro hHeld
 refine tkD 6 6 (v := ?_) ?_ hHeld ?_
 rotate_left 1
 (intro W hSw; (try dsimp only [TKc] at hSw); go_simp; try with_reducible rfl)
 (try simp only [putA, putB, putC, putD])
 refine wpAnyH_done (by kernel_rfl) ?_ _
 clear hHeld Z2
 have f5' : k.t.rn ≤ 20 := by have := E9.out; omega
 have f6' : k.t.gn ≤ 20 := by have := E10.out; omega
 have cc := S6.out.q.c.c 10 _ rfl
 go_wp2_with fail
 refine (rwCount_any (k.t.rn : Int) _ (by omega) (by omega)).mono ?_
 rintro e wc ⟨⟨vc, rfl, oc⟩, h⟩
 have OC := Lib.hid (S6.out.o.below h)
 have HC := Lib.hid h
 have zs := S6.out.s
 have zt := h.size
 have hX : (u16B (k.t.rn : Int)).length ≤ 2 := by (rw [u16_len]; omega)
 clear h
 (try clear cc)
 go_wp2_with (at_builtin; refine wpList_ob rfl (.tmp 23) (.tmp 27) 36 36 rfl 5 _ (.int .u8 0) Tryz.underlying36 rfl rfl rfl rfl (by decide) OC.out rfl _ _ (byC (u16B (k.t.rn : Int))) rfl (src_own Tryz.underlying36 oc (one_ints .u8 _)) (by have := S6.out.m; rw [byC_length, byC_length]; omega) (by omega) ?_)
 intro r7 w7 o1 g1 p1
 have S7 := Lib.hid (S6.out.put HC.out o1 g1 hX)
 clear oc o1 g1 p1 OC HC S6 zs zt hX
 have S8 := Lib.hid (S7.out.as (L' := enc1 d ++ wrR d 0) (b' := 13802 + 0 * 1602) (by unfold enc1 wrR; rw [E9.out, List.take_zero, List.flatMap_nil, List.append_nil]) (by omega))
 clear S7
 go_wp2
 go_loopw [6, 7] (fun v i wr => ∃ j : Nat, j ≤ k.t.rn ∧ i = .int .i64 j ∧ EnS w wr B k v (enc1 d ++ wrR d j) (13802 + j * 1602)) (fun _ i _ => k.t.rn - (intOf i).toNat)
 case atStart => exact ⟨0, by omega, rfl, S8.out⟩
 case round =>
  obtain ⟨j, hj, rfl, hS⟩ := hrel
  have S9 := Lib.hid hS
  clear hS S8
  have c10 := S9.out.q.c.c 10 _ rfl
  by_cases hlt : j < k.t.rn
  ·obtain ⟨b, off, ha, hb, hcell⟩ := S9.out.q.t.R (by omega)
   rw [ha] at c10
   have d0 := hcell j hlt
   have z0 : (0 : Int) ≤ (j : Int) := by omega
   have z1 : (j : Int) < (k.t.rn : Int) := by omega
   have FM := Lib.hid (show wrR d (j + 1) = wrR d j ++ wrL (d.R.getD j []) by
    unfold wrR
    exact fm_succ wrL d.R [] (by have := E9.out; omega))
   have LW := wrL_len (d.R.getD j [])
   have LR := RL.out j hlt
   have XJ := Lib.hid (fun (W : World) (Q : PK w W B w.heap.size k) => XS.out W j hlt Q)
   generalize d.R.getD j [] = lr at *
   clear ha hb hcell
   go_wp2_with fail
   refine (XJ.out _ S9.out.q).mono ?_
   rintro e wc ⟨⟨vc, rfl, oc⟩, h⟩
   clear d0 c10
   have OC := Lib.hid (S9.out.o.below h)
   have HC := Lib.hid h
   have zs := S9.out.s
   have zt := h.size
   have hX : (wrL lr).length ≤ 1602 := by omega
   clear h
   (try clear cc)
   go_wp2_with (at_builtin; refine wpList_ob rfl (.tmp 36) (.tmp 42) 36 36 rfl 5 _ (.int .u8 0) Tryz.underlying36 rfl rfl rfl rfl (by decide) OC.out rfl _ _ (byC (wrL lr)) rfl (src_own Tryz.underlying36 oc (one_ints .u8 _)) (by have := S9.out.m; rw [byC_length, byC_length]; omega) (by omega) ?_)
   intro r10 w10 o1 g1 p1
   have S10 := Lib.hid (S9.out.put HC.out o1 g1 hX)
   clear oc o1 g1 p1 OC HC S9 zs zt hX
   have S11 := Lib.hid (S10.out.as (L' := enc1 d ++ wrR d (j + 1)) (b' := 13802 + (j + 1) * 1602) (by rw [FM.out, List.append_assoc]) (by omega))
   clear S10 FM LW LR XJ
   go_wp2
   go_roundw
   case rel => exact ⟨j + 1, by omega, by go_num, S11.out⟩
   case measure => simp [intOf]; omega
  ·have z1 : ¬ (j : Int) < (k.t.rn : Int) := by omega
   have S11 := Lib.hid (S9.out.as (L' := enc1 d ++ d.R.flatMap wrL) (b' := 46000) (by
    have e : j = d.R.length := by have := E9.out; omega
    unfold wrR
    rw [e, List.take_of_length_le (Nat.le_refl _)]) (by omega))
   clear S9 XS RL
   have cc := S11.out.q.c.c 11 _ rfl
   go_wp2_with fail
   refine (rwCount_any (k.t.gn : Int) _ (by omega) (by omega)).mono ?_
   rintro e wc ⟨⟨vc, rfl, oc⟩, h⟩
   have OC := Lib.hid (S11.out.o.below h)
   have HC := Lib.hid h
   have zs := S11.out.s
   have zt := h.size
   have hX : (u16B (k.t.gn : Int)).length ≤ 2 := by (rw [u16_len]; omega)
   clear h
   (try clear cc)
   go_wp2_with (at_builtin; refine wpList_ob rfl (.tmp 44) (.tmp 48) 36 36 rfl 5 _ (.int .u8 0) Tryz.underlying36 rfl rfl rfl rfl (by decide) OC.out rfl _ _ (byC (u16B (k.t.gn : Int))) rfl (src_own Tryz.underlying36 oc (one_ints .u8 _)) (by have := S11.out.m; rw [byC_length, byC_length]; omega) (by omega) ?_)
   intro r12 w12 o1 g1 p1
   have S12 := Lib.hid (S11.out.put HC.out o1 g1 hX)
   clear oc o1 g1 p1 OC HC S11 zs zt hX
   have S13 := Lib.hid (S12.out.as (L' := enc2 d ++ wrT d 0) (b' := 46002 + 0 * 33) (by rw [← E10.out]; unfold wrT enc2; rw [List.take_zero, List.flatMap_nil, List.append_nil]) (by omega))
   clear S12
   go_wp2
   clear c10 z1 hlt hj
   go_loopw [6, 8] (fun v i wr => ∃ j : Nat, j ≤ k.t.gn ∧ i = .int .i64 j ∧ EnS w wr B k v (enc2 d ++ wrT d j) (46002 + j * 33)) (fun _ i _ => k.t.gn - (intOf i).toNat)
   case atStart => exact ⟨0, by omega, rfl, S13.out⟩
   case round =>
    obtain ⟨j, hj, rfl, hS⟩ := hrel
    have S9 := Lib.hid hS
    clear hS S13
    have c11 := S9.out.q.c.c 11 _ rfl
    by_cases hlt : j < k.t.gn
    ·have KC := Lib.hid (fun (W : World) (Q : PK w W B w.heap.size k) => Q.t.G (show 0 < k.t.gn by omega))
     obtain ⟨b, off, ha, hb, hcell⟩ := KC.out _ S9.out.q
     have HA := Lib.hid ha
     have CL := Lib.hid (fun (W : World) (Q : PK w W B w.heap.size k) => show (W.cell? ⟨b, off + j * 5, none⟩ = some (.int .i64 (k.G j).ax) ∧ W.cell? ⟨b, off + j * 5 + 1, none⟩ = some (.int .i64 (k.G j).ay)) ∧ (W.cell? ⟨b, off + j * 5 + 2, none⟩ = some (.int .i64 (k.G j).bx) ∧ W.cell? ⟨b, off + j * 5 + 3, none⟩ = some (.int .i64 (k.G j).by')) ∧ W.cell? ⟨b, off + j * 5 + 4, none⟩ = some (.bool (k.G j).s) by
      obtain ⟨b', off', ha', -, hc⟩ := KC.out W Q
      rw [HA.out] at ha'
      cases ha'
      exact hc j hlt)
     rw [ha] at c11
     obtain ⟨⟨d0, d1⟩, ⟨d2, d3⟩, d4⟩ := CL.out _ S9.out.q
     have z0 : (0 : Int) ≤ (j : Int) := by omega
     have z1 : (j : Int) < (k.t.gn : Int) := by omega
     obtain ⟨⟨y0, y1⟩, y2, y3⟩ := S9.out.q.t.gw j hlt
     have FM := Lib.hid (show wrT d (j + 1) = wrT d j ++ (placeC.wr ((k.G j).ax, (k.G j).ay) ++ (placeC.wr ((k.G j).bx, (k.G j).by') ++ flagB (k.G j).s)) by
      unfold wrT
      rw [fm_succ gateC.wr d.T ((0, 0), (0, 0), false) (by have := E10.out; omega), GT.out j])
     have hj3 : j ≤ 20 := by omega
     clear ha hb hcell
     go_wp2_with fail
     refine (r15Place_any (k.G j).ax (k.G j).ay _ y0 y1).mono ?_
     rintro e wc ⟨⟨vc, rfl, oc⟩, h⟩
     clear d0 d1 d2 d3 d4 c11
     have OC := Lib.hid (S9.out.o.below h)
     have HC := Lib.hid h
     have zs := S9.out.s
     have zt := h.size
     have hX : (placeC.wr ((k.G j).ax, (k.G j).ay)).length ≤ 16 := by (rw [place_len]; omega)
     clear h
     (try clear cc)
     go_wp2_with (at_builtin; refine wpList_ob rfl (.tmp 57) (.tmp 64) 36 36 rfl 5 _ (.int .u8 0) Tryz.underlying36 rfl rfl rfl rfl (by decide) OC.out rfl _ _ (byC (placeC.wr ((k.G j).ax, (k.G j).ay))) rfl (src_own Tryz.underlying36 oc (one_ints .u8 _)) (by have := S9.out.m; rw [byC_length, byC_length]; omega) (by omega) ?_)
     intro r10 w10 o1 g1 p1
     have S10 := Lib.hid (S9.out.put HC.out o1 g1 hX)
     clear oc o1 g1 p1 OC HC S9 zs zt hX
     replace S10 := Lib.hid (S10.out.as (L' := enc2 d ++ (wrT d j ++ placeC.wr ((k.G j).ax, (k.G j).ay))) (by rw [List.append_assoc]) (Nat.le_refl _))
     obtain ⟨⟨d0, d1⟩, ⟨d2, d3⟩, d4⟩ := CL.out _ S10.out.q
     have c11 := S10.out.q.c.c 11 _ rfl
     rw [HA.out] at c11
     go_wp2_with fail
     refine (r15Place_any (k.G j).bx (k.G j).by' _ y2 y3).mono ?_
     rintro e wc ⟨⟨vc, rfl, oc⟩, h⟩
     clear d0 d1 d2 d3 d4 c11
     have OC := Lib.hid (S10.out.o.below h)
     have HC := Lib.hid h
     have zs := S10.out.s
     have zt := h.size
     have hX : (placeC.wr ((k.G j).bx, (k.G j).by')).length ≤ 16 := by (rw [place_len]; omega)
     clear h
     (try clear cc)
     go_wp2_with (at_builtin; refine wpList_ob rfl (.tmp 66) (.tmp 73) 36 36 rfl 5 _ (.int .u8 0) Tryz.underlying36 rfl rfl rfl rfl (by decide) OC.out rfl _ _ (byC (placeC.wr ((k.G j).bx, (k.G j).by'))) rfl (src_own Tryz.underlying36 oc (one_ints .u8 _)) (by have := S10.out.m; rw [byC_length, byC_length]; omega) (by omega) ?_)
     intro r11 w11 o1 g1 p1
     have S11 := Lib.hid (S10.out.put HC.out o1 g1 hX)
     clear oc o1 g1 p1 OC HC S10 zs zt hX
     replace S11 := Lib.hid (S11.out.as (L' := enc2 d ++ (wrT d j ++ (placeC.wr ((k.G j).ax, (k.G j).ay) ++ placeC.wr ((k.G j).bx, (k.G j).by')))) (by simp only [List.append_assoc]) (Nat.le_refl _))
     obtain ⟨⟨d0, d1⟩, ⟨d2, d3⟩, d4⟩ := CL.out _ S11.out.q
     have c11 := S11.out.q.c.c 11 _ rfl
     rw [HA.out] at c11
     go_wp2_with fail
     refine (rwFlag_any (k.G j).s _).mono ?_
     rintro e wc ⟨⟨vc, rfl, oc⟩, h⟩
     clear d0 d1 d2 d3 d4 c11
     have OC := Lib.hid (S11.out.o.below h)
     have HC := Lib.hid h
     have zs := S11.out.s
     have zt := h.size
     have hX : (flagB (k.G j).s).length ≤ 1 := by exact Nat.le_refl 1
     clear h
     (try clear cc)
     go_wp2_with (at_builtin; refine wpList_ob rfl (.tmp 75) (.tmp 82) 36 36 rfl 5 _ (.int .u8 0) Tryz.underlying36 rfl rfl rfl rfl (by decide) OC.out rfl _ _ (byC (flagB (k.G j).s)) rfl (src_own Tryz.underlying36 oc (one_ints .u8 _)) (by have := S11.out.m; rw [byC_length, byC_length]; omega) (by omega) ?_)
     intro r12 w12 o1 g1 p1
     have S12 := Lib.hid (S11.out.put HC.out o1 g1 hX)
     clear oc o1 g1 p1 OC HC S11 zs zt hX
     have S14 := Lib.hid (S12.out.as (L' := enc2 d ++ wrT d (j + 1)) (b' := 46002 + (j + 1) * 33) (by rw [FM.out]; simp only [List.append_assoc]) (by omega))
     clear S12 FM CL KC
     go_wp2
     go_roundw
     case rel => exact ⟨j + 1, by omega, by go_num, S14.out⟩
     case measure => simp [intOf]; omega
    ·have z1 : ¬ (j : Int) < (k.t.gn : Int) := by omega
     have S14 := Lib.hid (S9.out.as (L' := enc2t d) (b' := 47000) (by
      have e : j = d.T.length := by have := E10.out; omega
      unfold wrT enc2t
      rw [e, List.take_of_length_le (Nat.le_refl _)]) (by omega))
     clear S9 GT
     have c13 := S14.out.q.c.c 13 _ rfl
     have cc := S14.out.q.c.c 12 _ rfl
     go_wp2_with fail
     refine (X12.out _).mono ?_
     rintro e wc ⟨⟨vc, rfl, oc⟩, h⟩
     have OC := Lib.hid (S14.out.o.below h)
     have HC := Lib.hid h
     have zs := S14.out.s
     have zt := h.size
     have hX : (placeC.wr (k.t.sx, k.t.sy)).length ≤ 16 := by (rw [place_len]; omega)
     clear h
     (try clear cc)
     go_wp2_with (at_builtin; refine wpList_ob rfl (.tmp 84) (.tmp 87) 36 36 rfl 5 _ (.int .u8 0) Tryz.underlying36 rfl rfl rfl rfl (by decide) OC.out rfl _ _ (byC (placeC.wr (k.t.sx, k.t.sy))) rfl (src_own Tryz.underlying36 oc (one_ints .u8 _)) (by have := S14.out.m; rw [byC_length, byC_length]; omega) (by omega) ?_)
     intro r15 w15 o1 g1 p1
     have S15 := Lib.hid (S14.out.put HC.out o1 g1 hX)
     clear oc o1 g1 p1 OC HC S14 zs zt hX
     clear c13
     have cc := S15.out.q.c.c 14 _ rfl
     go_wp2_with fail
     refine (X14.out _).mono ?_
     rintro e wc ⟨⟨vc, rfl, oc⟩, h⟩
     have OC := Lib.hid (S15.out.o.below h)
     have HC := Lib.hid h
     have zs := S15.out.s
     have zt := h.size
     have hX : (numB (tw64 k.t.head) 8).length ≤ 8 := by (rw [numB_length]; omega)
     clear h
     (try clear cc)
     go_wp2_with (at_builtin; refine wpList_ob rfl (.tmp 89) (.tmp 93) 36 36 rfl 5 _ (.int .u8 0) Tryz.underlying36 rfl rfl rfl rfl (by decide) OC.out rfl _ _ (byC (numB (tw64 k.t.head) 8)) rfl (src_own Tryz.underlying36 oc (one_ints .u8 _)) (by have := S15.out.m; rw [byC_length, byC_length]; omega) (by omega) ?_)
     intro r16 w16 o1 g1 p1
     have S16 := Lib.hid (S15.out.put HC.out o1 g1 hX)
     clear oc o1 g1 p1 OC HC S15 zs zt hX
     have S17 := Lib.hid (S16.out.as (L' := enc3 d) (b' := 47024) (by unfold enc3; rw [ES.out, EH.out]) (by omega))
     clear S16 X12 X14
     have cc := S17.out.q.c.c 15 _ rfl
     go_wp2_with fail
     refine (X15.out _).mono ?_
     rintro e wc ⟨⟨vc, rfl, oc⟩, h⟩
     have OC := Lib.hid (S17.out.o.below h)
     have HC := Lib.hid h
     have zs := S17.out.s
     have zt := h.size
     have hX : (u16B k.t.laps).length ≤ 2 := by (rw [u16_len]; omega)
     clear h
     (try clear cc)
     go_wp2_with (at_builtin; refine wpList_ob rfl (.tmp 95) (.tmp 98) 36 36 rfl 5 _ (.int .u8 0) Tryz.underlying36 rfl rfl rfl rfl (by decide) OC.out rfl _ _ (byC (u16B k.t.laps)) rfl (src_own Tryz.underlying36 oc (one_ints .u8 _)) (by have := S17.out.m; rw [byC_length, byC_length]; omega) (by omega) ?_)
     intro r18 w18 o1 g1 p1
     have S18 := Lib.hid (S17.out.put HC.out o1 g1 hX)
     clear oc o1 g1 p1 OC HC S17 zs zt hX
     have O18 := Lib.hid (show OB w.heap.size w18 r18 (byC Y) by rw [← E.out, enc_is, EL.out]; exact S18.out.o.mono (by omega))
     go_wp2
     go_ret2
     exact ⟨⟨_, rfl, O18.out⟩, S18.out.q.l⟩
end Go.Proofs.YtmdjnamkbekjkaaGreatDoor
