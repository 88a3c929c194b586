/- -/
import Derived.Test.YtmdjnamkbekjkaaGreatDoorTl
import Derived.Test.YtmdjnamkbekjkaaGreatDoorXm
import Derived.Great.BuildSlice
namespace Go.Proofs.YtmdjnamkbekjkaaGreatDoor
open Go.RowKit
set_option linter.unusedVariables false
set_option linter.unusedSimpArgs false
theorem slInfo : (Tryz.prog.info? 28).map (fun i => (i.zero, i.size, i.bytes)) = some (some (.slice none 0 0), 1, 24) := by kernel_rfl
set_option maxRecDepth 100000 in
set_option maxHeartbeats 8000000 in
theorem r15Decode_any (a : Option Addr) (n c : Nat) (l : List Int) (w : World) (h : BL w a n l) (hc : n ≤ c) (hm : c ≤ maxLen) (hn : n ≤ 1000000000) :
  Calls Tryz.prog 12 #[.slice a n c] w fun e w' => DecP l e w' ∧ Below w.heap.size w w' := by
 obtain rfl : l.length = n := h.hn
 have HB := fun (h0 : 0 < l.length) (p : Addr) (hp : a = some p) => show p.block < w.heap.size by
  obtain ⟨b, off, e2, hb, -⟩ := h.c h0
  rw [e2] at hp
  cases hp
  exact hb
 obtain ⟨⟨u0, t1⟩, e1⟩ : ∃ q, (markC chtr).rd l s0I = q := ⟨_, rfl⟩
 obtain ⟨⟨rate, t2⟩, e2⟩ : ∃ q, (cntC 60 1024).rd l t1 = q := ⟨_, rfl⟩
 obtain ⟨⟨cell, t3⟩, e3⟩ : ∃ q, numC.rd l t2 = q := ⟨_, rfl⟩
 obtain ⟨⟨cols, t4⟩, e4⟩ : ∃ q, (cntC 1 64).rd l t3 = q := ⟨_, rfl⟩
 obtain ⟨⟨rows, t5⟩, e5⟩ : ∃ q, (cntC 1 64).rd l t4 = q := ⟨_, rfl⟩
 obtain ⟨⟨⟨px, py⟩, t6⟩, e6⟩ : ∃ q, placeC.rd l t5 = q := ⟨_, rfl⟩
 obtain ⟨⟨H, t7⟩, e7⟩ : ∃ q, (repC ((cols + 1) * (rows + 1)).toNat numC).rd l t6 = q := ⟨_, rfl⟩
 obtain ⟨⟨G, t8⟩, e8⟩ : ∃ q, (repC (cols * rows).toNat (cntC 0 7)).rd l t7 = q := ⟨_, rfl⟩
 obtain ⟨⟨K, s1⟩, e9⟩ : ∃ q, (lstC 1 8 kindC).rd l t8 = q := ⟨_, rfl⟩
 obtain ⟨⟨L, s2⟩, f1⟩ : ∃ q, (lstC 3 64 placeC).rd l s1 = q := ⟨_, rfl⟩
 obtain ⟨⟨nr, s3⟩, f2⟩ : ∃ q, (cntC 0 16).rd l s2 = q := ⟨_, rfl⟩
 obtain ⟨⟨RR, s4⟩, f3⟩ : ∃ q, repR ((lstC 2 64 placeC).rd l) nr.toNat s3 = q := ⟨_, rfl⟩
 obtain ⟨⟨ng, s5⟩, f4⟩ : ∃ q, (cntC 1 16).rd l s4 = q := ⟨_, rfl⟩
 obtain ⟨⟨TT, s6⟩, f5⟩ : ∃ q, repR (gateC.rd l) ng.toNat s5 = q := ⟨_, rfl⟩
 obtain ⟨⟨⟨sx, sy⟩, s7⟩, f6⟩ : ∃ q, placeC.rd l s6 = q := ⟨_, rfl⟩
 obtain ⟨⟨head, s8⟩, f7⟩ : ∃ q, headC.rd l s7 = q := ⟨_, rfl⟩
 obtain ⟨⟨laps, s9⟩, f8⟩ : ∃ q, (cntC 1 100).rd l s8 = q := ⟨_, rfl⟩
 have EG : groundC.rd l s0I = ((u0, rate, cell, cols, rows, (px, py), H, G, K), s1) := bind_eq e1 (bind_eq e2 (bind_eq e3 (bind_eq e4 (bind_eq e5 (bind_eq e6 (bind_eq e7 (bind_eq e8 e9)))))))
 have ET : trackC0.rd l s0I = ((u0, rate, cell, cols, rows, (px, py), H, G, K, L, RR, TT, (sx, sy), head, laps), s9) :=
  bind_eq e1 (bind_eq e2 (bind_eq e3 (bind_eq e4 (bind_eq e5 (bind_eq e6 (bind_eq e7 (bind_eq e8 (bind_eq e9 (bind_eq f1 (bind_eq (lst_eq f2 f3) (bind_eq (lst_eq f4 f5) (bind_eq f6 (bind_eq f7 f8)))))))))))))
 have ED : decR l = (⟨rate, cell, cols, rows, (px, py), H, G, K, L, RR, TT, (sx, sy), head, laps⟩, s9) := by
  show ((_ : TD), (trackC0.rd l s0I).2) = _
  rw [ET]
 have GD := Lib.hid (fun (W : World) (nb : Nat) (I : IN W nb a l.length c l s0I) => r15RdGround_any nb a l.length c l s0I W I)
 rw [EG] at GD
 have PL := Lib.hid (fun (W : World) (nb : Nat) (I : IN W nb a l.length c l s1) => r15RdPlaces_any 3 64 nb a l.length c l s1 W (by omega) (by omega) I)
 rw [f1] at PL
 have CN := Lib.hid (fun (W : World) (nb : Nat) (I : IN W nb a l.length c l s2) => (show Calls Tryz.prog 31 #[.pointer (some ⟨nb, 0, none⟩), .int .i64 0, .int .i64 16] W fun en w' => en = .returned (.int .i64 ((cntC 0 16).rd l s2).1) ∧ IN w' nb a l.length c l ((cntC 0 16).rd l s2).2 ∧ W.grownBy w' (some nb) from riCount_any 0 16 nb a l.length c l s2 W I))
 rw [f2] at CN
 have RP := Lib.hid (fun (q : IS) (W : World) (nb : Nat) (I : IN W nb a l.length c l q) => r15RdPlaces_any 2 64 nb a l.length c l q W (by omega) (by omega) I)
 have k2 : 0 ≤ nr ∧ nr ≤ 16 := by have := cnt_bd (lo := 0) (hi := 16) (by omega) l s2; have e : cntV 0 16 l s2 = nr := congrArg Prod.fst f2; omega
 obtain ⟨NR, hNR⟩ : ∃ N : Nat, nr = (N : Int) := ⟨nr.toNat, by omega⟩
 have FR := Lib.hid f3
 rw [hNR] at FR CN
 have QR := Lib.hid (show NR ≤ 16 by omega)
 have CG := Lib.hid (fun (W : World) (nb : Nat) (I : IN W nb a l.length c l s4) => (show Calls Tryz.prog 31 #[.pointer (some ⟨nb, 0, none⟩), .int .i64 1, .int .i64 16] W fun en w' => en = .returned (.int .i64 ((cntC 1 16).rd l s4).1) ∧ IN w' nb a l.length c l ((cntC 1 16).rd l s4).2 ∧ W.grownBy w' (some nb) from riCount_any 1 16 nb a l.length c l s4 W I))
 rw [f4] at CG
 have PC := Lib.hid (fun (q : IS) (W : World) (nb : Nat) (I : IN W nb a l.length c l q) => r15RdPlace_any nb a l.length c l q W I)
 have FL := Lib.hid (fun (q : IS) (W : World) (nb : Nat) (I : IN W nb a l.length c l q) => (show Calls Tryz.prog 33 #[.pointer (some ⟨nb, 0, none⟩)] W fun en w' => en = .returned (.bool (flagC.rd l q).1) ∧ IN w' nb a l.length c l (flagC.rd l q).2 ∧ W.grownBy w' (some nb) from riFlag_any nb a l.length c l q W I))
 have k4 : 0 ≤ ng ∧ ng ≤ 16 := by have := cnt_bd (lo := 1) (hi := 16) (by omega) l s4; have e : cntV 1 16 l s4 = ng := congrArg Prod.fst f4; omega
 obtain ⟨NG, hNG⟩ : ∃ N : Nat, ng = (N : Int) := ⟨ng.toNat, by omega⟩
 have FG := Lib.hid f5
 rw [hNG] at FG CG
 have QG := Lib.hid (show NG ≤ 16 by omega)
 have I0 := Lib.hid (fun (T : TypeId) (W : World) (hb : Below w.heap.size w W) => in_new0 T (show BL W a l.length l from ⟨rfl, h.u, fun h0 => by
  obtain ⟨b, off, e2, hb2, hcell⟩ := h.c h0
  exact ⟨b, off, e2, by have := hb.size; omega, fun i x hx => (hb.cell (p := ⟨b, off + i, none⟩) hb2).trans (hcell i x hx)⟩⟩) hc hm hn)
 have HBh := Lib.hid HB
 have HU := Lib.hid h.u
 have F6 := Lib.hid f6
 have F7 := Lib.hid (show (numV l s7 % 4294967296 = head ∧ headS l s7 = s8) from ⟨congrArg Prod.fst f7, congrArg Prod.snd f7⟩)
 have DE := Lib.hid ED
 have NU := Lib.hid (fun (W : World) (nb : Nat) (I : IN W nb a l.length c l s7) => riNum_any nb a l.length c l s7 W I)
 have CL := Lib.hid (fun (W : World) (nb : Nat) (I : IN W nb a l.length c l s8) => (show Calls Tryz.prog 31 #[.pointer (some ⟨nb, 0, none⟩), .int .i64 1, .int .i64 100] W fun en w' => en = .returned (.int .i64 ((cntC 1 100).rd l s8).1) ∧ IN w' nb a l.length c l ((cntC 1 100).rd l s8).2 ∧ W.grownBy w' (some nb) from riCount_any 1 100 nb a l.length c l s8 W I))
 rw [f8] at CL
 have EN := Lib.hid (fun (W : World) (nb : Nat) (I : IN W nb a l.length c l s9) => riEnd_any nb a l.length c l s9 W I)
 have ES := Lib.hid (show endS l.length s9 = decS l by unfold decS; rw [ED])
 have ST := Lib.hid (fun (h : s8.err ≠ 0) => show s9 = s8 by have := (cntC 1 100).stay l s8 h; rw [f8] at this; exact this)
 clear f6 f7 f8 ED
 clear h e1 e2 e3 e4 e5 e6 e7 e8 e9 ET HB hc hm hn EG f1 f2 f3 k2 hNR f4 f5 k4 hNG
 go_enter Tryz.func12, Tryz.ntmps12
 go_wp2_with fail
 refine calls_gen (S := fun W => (IN W (w.heap.size + 1) a l.length c l s0I ∧ BW W w.heap.size (gdL 0 0 0 0 0 0 sl0 sl0 sl0)) ∧ Below w.heap.size w W ∧ W.heap.size = w.heap.size + 1 + 1) ⟨⟨by have := I0.out 70 (w.alloc (.cells (gdL 0 0 0 0 0 0 sl0 sl0 sl0).toArray 34)) ((Below.refl _ _).alloc (Nat.le_refl _) _); simpa using this, (BW.new w _ (gdL 0 0 0 0 0 0 sl0 sl0 sl0) _ rfl).alloc _⟩, by repeat (first | with_reducible refine Below.setCell ?_ (by first | omega | (simp; done) | (simp; omega)) _ | with_reducible refine Below.alloc ?_ (by first | omega | (simp; done) | (simp; omega)) _ | with_reducible refine below_drewN ?_ _ | with_reducible refine Below.drew ?_ | with_reducible exact Below.refl _ _ | with_reducible assumption | with_reducible refine Below.trans ?_ (Below.mono (by assumption) (by first | omega | (simp; done) | (simp; omega)))), by simp⟩ (fun W1 hS => ?_)
 have I1 := Lib.hid hS.1.1
 have R1 := Lib.hid hS.1.2
 have B1 := Lib.hid hS.2.1
 have Z1 := Lib.hid hS.2.2
 clear hS I0
 refine (GD.out _ _ I1.out).mono ?_
 rintro e w2 ⟨⟨vh, vg, vk, rfl, q1, q2, q3⟩, h1, g1⟩
 have F2 := Lib.hid (show GdF (w.heap.size + 1) w2.heap.size vh vg vk H G K w2 from by
  have z := Z1.out
  exact ⟨q1.mono (by omega) (Nat.le_refl _), q2.mono (by omega) (Nat.le_refl _), q3.mono (by omega) (Nat.le_refl _)⟩)
 obtain ⟨ah, ch, rfl, -⟩ := q1
 obtain ⟨ag, cg, rfl, -⟩ := q2
 obtain ⟨ak, ck, rfl, -⟩ := q3
 have I2 := Lib.hid h1
 have R2 := Lib.hid (R1.out.grown g1 (fun e => by injection e with e; omega))
 have B2 := Lib.hid (B1.out.grown g1 B1.out.size (fun k e => by injection e with e; omega))
 have Z2 := Lib.hid (show w.heap.size + 1 + 1 ≤ w2.heap.size by have := Z1.out; have := g1.size; omega)
 clear h1 g1 I1 R1 B1 Z1 GD
 go_wp2_with fail
 refine calls_gen (S := fun W => RdD w W a l.length c l s1 w.heap.size (w.heap.size + 1) w2.heap.size (w2.heap.size + 1) (gdL 0 0 0 0 0 0 sl0 sl0 sl0) (dcL rate cell cols rows px py (.slice ah H.length ch) (.slice ag G.length cg) (.slice ak K.length ck) sl0 sl0 sl0 0 0 0 0) (GdF (w.heap.size + 1) w2.heap.size (.slice ah H.length ch) (.slice ag G.length cg) (.slice ak K.length ck) H G K)) (by
  have b3 := (Below.refl w2.heap.size w2).alloc (Nat.le_refl _) (.cells (dcL rate cell cols rows px py (.slice ah H.length ch) (.slice ag G.length cg) (.slice ak K.length ck) sl0 sl0 sl0 0 0 0 0).toArray 34)
  have z2 := Z2.out
  exact ⟨I2.out.grown (row := none) (below_grown b3 none) (fun j e => by cases e), R2.out.below b3 R2.out.lt, BW.new w2 _ (dcL rate cell cols rows px py (.slice ah H.length ch) (.slice ag G.length cg) (.slice ak K.length ck) sl0 sl0 sl0 0 0 0 0) _ rfl, B2.out.trans (b3.mono B2.out.size), ⟨⟨Nat.le_refl _, by omega⟩, ⟨by omega, by omega⟩, by simp⟩, HBh.out, GdF.ah (N := w2.heap.size) (Nat.le_refl _) _ _ F2.out b3.size (fun j _ _ h3 => b3.block j h3), GdF.ah (by omega)⟩) (fun W3 hS => ?_)
 have S3 := Lib.hid hS
 generalize w2.heap.size = tb at *
 clear hS I2 R2 B2 Z2 F2 HBh
 refine (PL.out _ _ S3.out.i).mono ?_
 rintro e w4 ⟨⟨vl, rfl, hl⟩, h1, g1⟩
 have S4' := S3.out.rd h1 g1
 have L4 := (lies_owned hl)
 have S4 := Lib.hid (S4'.lst L4 S3.out.zt.2.2)
 obtain ⟨al, cl, rfl, -⟩ := L4
 clear S4' hl h1 g1 S3 PL
 have tc := S4.out.t.c 9 _ rfl
 have tf := S4.out.t.f
 have tl := S4.out.t.lt
 have S5 := Lib.hid (show RdD w _ a l.length c l s2 w.heap.size (w.heap.size + 1) tb w4.heap.size _ (dcL rate cell cols rows px py (.slice ah H.length ch) (.slice ag G.length cg) (.slice ak K.length ck) (.slice al L.length cl) sl0 sl0 0 0 0 0) _ from S4.out.put 9 (.slice al L.length cl) _ rfl)
 clear S4
 go_wp2_with fail
 refine (CN.out _ _ S5.out.i).mono ?_
 rintro e w6 ⟨rfl, h1, g1⟩
 have S6 := Lib.hid (S5.out.rd h1 g1)
 clear h1 g1 S5 CN tc tf tl
 generalize w4.heap.size = M4 at *
 obtain ⟨i0, hi0, hz0, hz1, hz2⟩ := info_parts slInfo
 go_upto_block 0 with fail
 go_cut [8] (fun i W => ∃ (M : Nat) (ar : Option Addr) (cr : Nat) (r : Nat → Option Addr × Nat), M4 ≤ M ∧ RdD w W a l.length c l s4 w.heap.size (w.heap.size + 1) tb M (gdL 0 0 0 0 0 0 sl0 sl0 sl0) (dcL rate cell cols rows px py (.slice ah H.length ch) (.slice ag G.length cg) (.slice ak K.length ck) (.slice al L.length cl) (.slice ar RR.length cr) sl0 0 0 0 0) (fun W' => (fun W' => GdF (w.heap.size + 1) tb (.slice ah H.length ch) (.slice ag G.length cg) (.slice ak K.length ck) H G K W' ∧ Lies (tb + 1) M4 (.slice al L.length cl) L.length (ptV L) W') W' ∧ RlF M4 M (.slice ar RR.length cr) r RR W'))
 case first =>
  go_wp2_with fail
  go_loopw [8] (fun i wr => ∃ (j : Nat) (ys : List (List (Int × Int))) (sj : IS) (v : Value) (r : Nat → Option Addr × Nat), j ≤ NR ∧ i = .int .i64 j ∧ ys.length = j ∧ (ys ++ (repR ((lstC 2 64 placeC).rd l) (NR - j) sj).1, (repR ((lstC 2 64 placeC).rd l) (NR - j) sj).2) = (RR, s4) ∧ wr.ownsRow M4 28 1 v j (rvV r ys) ∧ RailP M4 v r ys wr ∧ RdD w wr a l.length c l sj w.heap.size (w.heap.size + 1) tb M4 (gdL 0 0 0 0 0 0 sl0 sl0 sl0) (dcL rate cell cols rows px py (.slice ah H.length ch) (.slice ag G.length cg) (.slice ak K.length ck) (.slice al L.length cl) v sl0 0 0 0 0) (fun W' => GdF (w.heap.size + 1) tb (.slice ah H.length ch) (.slice ag G.length cg) (.slice ak K.length ck) H G K W' ∧ Lies (tb + 1) M4 (.slice al L.length cl) L.length (ptV L) W')) (fun i _ => NR - (intOf i).toNat)
  case atStart => exact ⟨0, [], s3, sl0, fun _ => (none, 0), by omega, rfl, rfl, FR.out, ⟨rfl, Or.inl ⟨rfl, rfl⟩⟩, fun k hk => absurd hk (by simp), S6.out⟩
  case round =>
   obtain ⟨j, ys, sj, v, r, hj, rfl, hx, hRR, hO, hP, hS⟩ := hrel
   have S2 := Lib.hid hS
   have O2 := Lib.hid hO
   have P2 := Lib.hid hP
   have RZ := Lib.hid hRR
   clear hS hO hP hRR S6 FR
   have c3 := S2.out.i.c3
   have q1 := QR.out
   by_cases hlt : j < NR
   ·have z1 : (j : Int) < (NR : Int) := by omega
    by_cases he : sj.err = 0
    ·have kb : (sj.err == 0) = true := by rw [he]; rfl
     have XN := Lib.hid (RP.out sj)
     obtain ⟨⟨y, sx⟩, ex⟩ : ∃ q, (lstC 2 64 placeC).rd l sj = q := ⟨_, rfl⟩
     have RQ := Lib.hid (rep_next hlt he ex RZ.out)
     rw [ex] at XN
     clear RZ ex
     go_wp2_with fail
     clear c3 kb
     have S3 := Lib.hid (S2.out.bl (Below.refl _ _).drew)
     have O3 := Lib.hid (World.ownsRow.drew O2.out)
     have P3 := Lib.hid (P2.out.grown (below_grown (Below.refl _ _).drew none) (fun k e => by cases e))
     clear S2 O2 P2
     as_aux_lemma =>
     refine wp_region_held_drew (S := fun _ => True) (by kernel_rfl) trivial (fun hHeld => ?_)
     generalize wr.drew = w3 at *
     refine tkQ 0 37 hHeld ?_
     (try simp only [putA, putB, putC, putD])
     refine tkQ 2 39 hHeld ?_
     (try simp only [putA, putB, putC, putD])
     refine wpAnyH_twoD 1 3 (by kernel_rfl) (fun o ho K hK => ?_) (fun o ho K hK => ?_) (by kernel_rfl) (by kernel_rfl)
     ·skip
      simp only [List.getElem?_toArray, List.getElem?_cons_succ, List.getElem?_cons_zero, Option.some.injEq] at ho
      subst ho
      have tc := S3.out.t.c 10 _ rfl
      go_simp
      refine hK.out _ _ trivial ?_
      clear hK K hHeld tc
      intro hHeld
      refine onlD 3 (fun K hK => ?_)
      go_simp
      refine (XN.out _ _ S3.out.i).mono ?_
      rintro e w4 ⟨⟨v4, rfl, ho4⟩, h1, g1⟩
      have S4 := Lib.hid (S3.out.rd h1 g1)
      have O4 := Lib.hid (O3.out.kept g1 (Or.inr (fun e => by have := (O3.out.lt _ e).1; have := S3.out.zt; omega)))
      have P4' := P3.out.grown g1 (fun k e => by injection e with e; have := S3.out.zt; exact Or.inl (by omega))
      obtain ⟨a4, c4, rfl, q1, q2, q3⟩ := lies_owned ho4
      have P4 := Lib.hid (P4'.add (ad := (a4, c4)) (y := y) ⟨q1, q2⟩ (fun h0 => by
       obtain ⟨gg, e2, l1, l2, hcc⟩ := q3 h0
       exact ⟨gg, e2, by have := S3.out.zt; omega, l2, fun q => by have := (O3.out.lt _ q).2; omega, hcc⟩))
      go_wp2_with fail
      refine hK.out _ _ trivial ?_
      clear hK K hHeld h1 g1 S3 O3 P3 XN P4' q1 q2 q3 ho4
      intro hHeld
      refine onlD 4 (fun K hK => ?_)
      go_simp
      have B5 := (Below.refl w4.heap.size w4).alloc (Nat.le_refl _) (.cells #[Value.slice a4 y.length c4] 28)
      have S5 := Lib.hid (S4.out.bl B5)
      have O5 := Lib.hid (own_below O4.out B5)
      have P5 := Lib.hid (P4.out.grown (below_grown B5 none) (fun k e => by cases e))
      have N5 := Lib.hid (show ∀ (j : Nat) (u : Value), ([Value.slice a4 y.length c4] : List Value)[j]? = some u → (w4.alloc (.cells #[Value.slice a4 y.length c4] 28)).cell? ((⟨w4.heap.size, 0, none⟩ : Addr).add j) = some u from World.news_of_block (heap_alloc_new w4 _))
      generalize w4.alloc (.cells #[Value.slice a4 y.length c4] 28) = w5 at *
      generalize w4.heap.size = sb at *
      refine hK.out _ _ trivial ?_
      clear hK K hHeld S4 O4 P4 B5
      intro hHeld
      refine onlD 5 (fun K hK => ?_)
      refine step_append_lies _ (by rfl) (.tmp 38) (.tmp 41) 29 (by rfl) M4 28 i0 (.slice none 0 0) 1 24 Tryz.underlying29 hi0 hz0 hz1 hz2 rfl (by omega) _ j (rvV r ys) (by rfl) O5.out ⟨sb, 0, none⟩ 1 1 [Value.slice a4 y.length c4] (by rfl) rfl N5.out (by simp [Value.oneCell']) (by omega) (by unfold maxLen; omega) (by omega) (by have := S5.out.zt; omega) _ rfl ?_
      intro g cap w6 hO hG hat hlt2
      have S6 := Lib.hid (S5.out.app O5.out hG)
      have O6 := Lib.hid hO
      have P6 := Lib.hid ((P5.out.grown hG (fun k e => Or.inr e)).own (v' := .slice (some ⟨g, 0, none⟩) (j + 1) cap) (fun b e => by
       have e : g = b := Option.some.inj e
       subst e
       rcases hat with x | x
       ·exact Or.inl x
       ·refine Or.inr (fun k hk h0 gg e2 => ?_)
        obtain ⟨g0, e3, -, l2, -, -⟩ := (P5.out k hk).2 h0
        rw [e3] at e2
        cases e2
        omega))
      refine hK.out _ _ trivial ?_
      clear hK K hHeld hO hG hat hlt2 S5 O5 N5 P5
      intro hHeld
      refine tkQ 6 43 hHeld ?_
      (try simp only [putA, putB, putC, putD])
      refine wpAnyH_onlyD 7 (by kernel_rfl) (fun o ho K hK => ?_) (by kernel_rfl)
      have tc := S6.out.t.c 10 _ rfl
      have tf := S6.out.t.f
      have tl := S6.out.t.lt
      simp only [List.getElem?_toArray, List.getElem?_cons_succ, List.getElem?_cons_zero, Option.some.injEq] at ho
      subst ho
      go_simp
      have S7 := Lib.hid (S6.out.put 10 (.slice (some ⟨g, 0, none⟩) (j + 1) cap) _ rfl)
      have O7 := Lib.hid (O6.out.kept (grown_cell w6 tb 10 (.slice (some ⟨g, 0, none⟩) (j + 1) cap)) (Or.inr (fun e => by have := (O6.out.lt _ e).1; have := S6.out.zt; omega)))
      have P7 := Lib.hid (P6.out.grown (grown_cell w6 tb 10 (.slice (some ⟨g, 0, none⟩) (j + 1) cap)) (fun k e => by injection e with e; have := S6.out.zt; exact Or.inl (by omega)))
      refine hK.out _ _ trivial ?_
      clear hK K hHeld S6 O6 P6 tc tf tl
      intro hHeld
      refine wpAnyH_done (by kernel_rfl) ?_ _
      clear hHeld
      go_wp2
      go_roundw
      case rel => first | exact ⟨j + 1, ys ++ [y], sx, _, _, by omega, by go_num, by simp [hx], RQ.out, by rw [rvV_add]; exact O7.out, P7.out, S7.out⟩ | ((repeat apply Exists.intro); exact ⟨⟨j + 1, ys ++ [y], sx, _, _, by omega, by go_num, by simp [hx], RQ.out, by rw [rvV_add]; exact O7.out, P7.out, S7.out⟩, rfl⟩)
      case measure => simp [intOf]; omega
     ·skip
      simp only [List.getElem?_toArray, List.getElem?_cons_succ, List.getElem?_cons_zero, Option.some.injEq] at ho
      subst ho
      go_simp
      refine (XN.out _ _ S3.out.i).mono ?_
      rintro e w4 ⟨⟨v4, rfl, ho4⟩, h1, g1⟩
      have S4 := Lib.hid (S3.out.rd h1 g1)
      have O4 := Lib.hid (O3.out.kept g1 (Or.inr (fun e => by have := (O3.out.lt _ e).1; have := S3.out.zt; omega)))
      have P4' := P3.out.grown g1 (fun k e => by injection e with e; have := S3.out.zt; exact Or.inl (by omega))
      obtain ⟨a4, c4, rfl, q1, q2, q3⟩ := lies_owned ho4
      have P4 := Lib.hid (P4'.add (ad := (a4, c4)) (y := y) ⟨q1, q2⟩ (fun h0 => by
       obtain ⟨gg, e2, l1, l2, hcc⟩ := q3 h0
       exact ⟨gg, e2, by have := S3.out.zt; omega, l2, fun q => by have := (O3.out.lt _ q).2; omega, hcc⟩))
      go_wp2_with fail
      refine hK.out _ _ trivial ?_
      clear hK K hHeld h1 g1 S3 O3 P3 XN P4' q1 q2 q3 ho4
      intro hHeld
      refine wpAnyH_twoD 1 4 (by kernel_rfl) (fun o ho K hK => ?_) (fun o ho K hK => ?_) (by kernel_rfl) (by kernel_rfl)
      ·skip
       simp only [List.getElem?_toArray, List.getElem?_cons_succ, List.getElem?_cons_zero, Option.some.injEq] at ho
       subst ho
       have tc := S4.out.t.c 10 _ rfl
       go_simp
       refine hK.out _ _ trivial ?_
       clear hK K hHeld tc
       intro hHeld
       refine onlD 4 (fun K hK => ?_)
       go_simp
       have B5 := (Below.refl w4.heap.size w4).alloc (Nat.le_refl _) (.cells #[Value.slice a4 y.length c4] 28)
       have S5 := Lib.hid (S4.out.bl B5)
       have O5 := Lib.hid (own_below O4.out B5)
       have P5 := Lib.hid (P4.out.grown (below_grown B5 none) (fun k e => by cases e))
       have N5 := Lib.hid (show ∀ (j : Nat) (u : Value), ([Value.slice a4 y.length c4] : List Value)[j]? = some u → (w4.alloc (.cells #[Value.slice a4 y.length c4] 28)).cell? ((⟨w4.heap.size, 0, none⟩ : Addr).add j) = some u from World.news_of_block (heap_alloc_new w4 _))
       generalize w4.alloc (.cells #[Value.slice a4 y.length c4] 28) = w5 at *
       generalize w4.heap.size = sb at *
       refine hK.out _ _ trivial ?_
       clear hK K hHeld S4 O4 P4 B5
       intro hHeld
       refine onlD 5 (fun K hK => ?_)
       refine step_append_lies _ (by rfl) (.tmp 38) (.tmp 41) 29 (by rfl) M4 28 i0 (.slice none 0 0) 1 24 Tryz.underlying29 hi0 hz0 hz1 hz2 rfl (by omega) _ j (rvV r ys) (by rfl) O5.out ⟨sb, 0, none⟩ 1 1 [Value.slice a4 y.length c4] (by rfl) rfl N5.out (by simp [Value.oneCell']) (by omega) (by unfold maxLen; omega) (by omega) (by have := S5.out.zt; omega) _ rfl ?_
       intro g cap w6 hO hG hat hlt2
       have S6 := Lib.hid (S5.out.app O5.out hG)
       have O6 := Lib.hid hO
       have P6 := Lib.hid ((P5.out.grown hG (fun k e => Or.inr e)).own (v' := .slice (some ⟨g, 0, none⟩) (j + 1) cap) (fun b e => by
        have e : g = b := Option.some.inj e
        subst e
        rcases hat with x | x
        ·exact Or.inl x
        ·refine Or.inr (fun k hk h0 gg e2 => ?_)
         obtain ⟨g0, e3, -, l2, -, -⟩ := (P5.out k hk).2 h0
         rw [e3] at e2
         cases e2
         omega))
       refine hK.out _ _ trivial ?_
       clear hK K hHeld hO hG hat hlt2 S5 O5 N5 P5
       intro hHeld
       refine tkQ 6 43 hHeld ?_
       (try simp only [putA, putB, putC, putD])
       refine wpAnyH_onlyD 7 (by kernel_rfl) (fun o ho K hK => ?_) (by kernel_rfl)
       have tc := S6.out.t.c 10 _ rfl
       have tf := S6.out.t.f
       have tl := S6.out.t.lt
       simp only [List.getElem?_toArray, List.getElem?_cons_succ, List.getElem?_cons_zero, Option.some.injEq] at ho
       subst ho
       go_simp
       have S7 := Lib.hid (S6.out.put 10 (.slice (some ⟨g, 0, none⟩) (j + 1) cap) _ rfl)
       have O7 := Lib.hid (O6.out.kept (grown_cell w6 tb 10 (.slice (some ⟨g, 0, none⟩) (j + 1) cap)) (Or.inr (fun e => by have := (O6.out.lt _ e).1; have := S6.out.zt; omega)))
       have P7 := Lib.hid (P6.out.grown (grown_cell w6 tb 10 (.slice (some ⟨g, 0, none⟩) (j + 1) cap)) (fun k e => by injection e with e; have := S6.out.zt; exact Or.inl (by omega)))
       refine hK.out _ _ trivial ?_
       clear hK K hHeld S6 O6 P6 tc tf tl
       intro hHeld
       refine wpAnyH_done (by kernel_rfl) ?_ _
       clear hHeld
       go_wp2
       go_roundw
       case rel => first | exact ⟨j + 1, ys ++ [y], sx, _, _, by omega, by go_num, by simp [hx], RQ.out, by rw [rvV_add]; exact O7.out, P7.out, S7.out⟩ | ((repeat apply Exists.intro); exact ⟨⟨j + 1, ys ++ [y], sx, _, _, by omega, by go_num, by simp [hx], RQ.out, by rw [rvV_add]; exact O7.out, P7.out, S7.out⟩, rfl⟩)
       case measure => simp [intOf]; omega
      ·skip
       simp only [List.getElem?_toArray, List.getElem?_cons_succ, List.getElem?_cons_zero, Option.some.injEq] at ho
       subst ho
       go_simp
       have B5 := (Below.refl w4.heap.size w4).alloc (Nat.le_refl _) (.cells #[Value.slice a4 y.length c4] 28)
       have S5 := Lib.hid (S4.out.bl B5)
       have O5 := Lib.hid (own_below O4.out B5)
       have P5 := Lib.hid (P4.out.grown (below_grown B5 none) (fun k e => by cases e))
       have N5 := Lib.hid (show ∀ (j : Nat) (u : Value), ([Value.slice a4 y.length c4] : List Value)[j]? = some u → (w4.alloc (.cells #[Value.slice a4 y.length c4] 28)).cell? ((⟨w4.heap.size, 0, none⟩ : Addr).add j) = some u from World.news_of_block (heap_alloc_new w4 _))
       generalize w4.alloc (.cells #[Value.slice a4 y.length c4] 28) = w5 at *
       generalize w4.heap.size = sb at *
       refine hK.out _ _ trivial ?_
       clear hK K hHeld S4 O4 P4 B5
       intro hHeld
       refine onlD 1 (fun K hK => ?_)
       have tc := S5.out.t.c 10 _ rfl
       go_simp
       refine hK.out _ _ trivial ?_
       clear hK K hHeld tc
       intro hHeld
       refine onlD 5 (fun K hK => ?_)
       refine step_append_lies _ (by rfl) (.tmp 38) (.tmp 41) 29 (by rfl) M4 28 i0 (.slice none 0 0) 1 24 Tryz.underlying29 hi0 hz0 hz1 hz2 rfl (by omega) _ j (rvV r ys) (by rfl) O5.out ⟨sb, 0, none⟩ 1 1 [Value.slice a4 y.length c4] (by rfl) rfl N5.out (by simp [Value.oneCell']) (by omega) (by unfold maxLen; omega) (by omega) (by have := S5.out.zt; omega) _ rfl ?_
       intro g cap w6 hO hG hat hlt2
       have S6 := Lib.hid (S5.out.app O5.out hG)
       have O6 := Lib.hid hO
       have P6 := Lib.hid ((P5.out.grown hG (fun k e => Or.inr e)).own (v' := .slice (some ⟨g, 0, none⟩) (j + 1) cap) (fun b e => by
        have e : g = b := Option.some.inj e
        subst e
        rcases hat with x | x
        ·exact Or.inl x
        ·refine Or.inr (fun k hk h0 gg e2 => ?_)
         obtain ⟨g0, e3, -, l2, -, -⟩ := (P5.out k hk).2 h0
         rw [e3] at e2
         cases e2
         omega))
       refine hK.out _ _ trivial ?_
       clear hK K hHeld hO hG hat hlt2 S5 O5 N5 P5
       intro hHeld
       refine tkQ 6 43 hHeld ?_
       (try simp only [putA, putB, putC, putD])
       refine wpAnyH_onlyD 7 (by kernel_rfl) (fun o ho K hK => ?_) (by kernel_rfl)
       have tc := S6.out.t.c 10 _ rfl
       have tf := S6.out.t.f
       have tl := S6.out.t.lt
       simp only [List.getElem?_toArray, List.getElem?_cons_succ, List.getElem?_cons_zero, Option.some.injEq] at ho
       subst ho
       go_simp
       have S7 := Lib.hid (S6.out.put 10 (.slice (some ⟨g, 0, none⟩) (j + 1) cap) _ rfl)
       have O7 := Lib.hid (O6.out.kept (grown_cell w6 tb 10 (.slice (some ⟨g, 0, none⟩) (j + 1) cap)) (Or.inr (fun e => by have := (O6.out.lt _ e).1; have := S6.out.zt; omega)))
       have P7 := Lib.hid (P6.out.grown (grown_cell w6 tb 10 (.slice (some ⟨g, 0, none⟩) (j + 1) cap)) (fun k e => by injection e with e; have := S6.out.zt; exact Or.inl (by omega)))
       refine hK.out _ _ trivial ?_
       clear hK K hHeld S6 O6 P6 tc tf tl
       intro hHeld
       refine wpAnyH_done (by kernel_rfl) ?_ _
       clear hHeld
       go_wp2
       go_roundw
       case rel => first | exact ⟨j + 1, ys ++ [y], sx, _, _, by omega, by go_num, by simp [hx], RQ.out, by rw [rvV_add]; exact O7.out, P7.out, S7.out⟩ | ((repeat apply Exists.intro); exact ⟨⟨j + 1, ys ++ [y], sx, _, _, by omega, by go_num, by simp [hx], RQ.out, by rw [rvV_add]; exact O7.out, P7.out, S7.out⟩, rfl⟩)
       case measure => simp [intOf]; omega
    ·have kb : (sj.err == 0) = false := beq_false_of_ne he
     obtain ⟨rfl, rfl⟩ := rep_end (Or.inl he) RZ.out
     clear q1
     go_wp2_with fail
     go_meet
     subst hx
     have D := S2.out.rails O2.out P2.out
     obtain ⟨ar, cr, rfl, -⟩ := lies_owned O2.out
     exact ⟨_, ar, cr, r, S2.out.zt.2.2, D⟩
   ·have z1 : ¬ (j : Int) < (NR : Int) := by omega
    obtain ⟨rfl, rfl⟩ := rep_end (Or.inr hlt) RZ.out
    clear q1
    go_wp2_with fail
    go_meet
    subst hx
    have D := S2.out.rails O2.out P2.out
    obtain ⟨ar, cr, rfl, -⟩ := lies_owned O2.out
    exact ⟨_, ar, cr, r, S2.out.zt.2.2, D⟩
 case rest =>
  obtain ⟨M5, ar, cr, r, M45, hS⟩ := hcut
  have S7 := Lib.hid hS
  clear hS S6 FR RP QR hi0 hz0 hz1 hz2 i0
  obtain ⟨i0, hi0, hz0, hz1, hz2⟩ := info_parts gateInfo
  go_wp2_with fail
  refine (CG.out _ _ S7.out.i).mono ?_
  rintro e w8 ⟨rfl, h1, g1⟩
  have S8 := Lib.hid (S7.out.rd h1 g1)
  clear h1 g1 S7 CG
  go_upto_block 2 with fail
  go_cut [9] (fun i W => ∃ (M : Nat) (v : Value), M5 ≤ M ∧ RdD w W a l.length c l s6 w.heap.size (w.heap.size + 1) tb M (gdL 0 0 0 0 0 0 sl0 sl0 sl0) (dcL rate cell cols rows px py (.slice ah H.length ch) (.slice ag G.length cg) (.slice ak K.length ck) (.slice al L.length cl) (.slice ar RR.length cr) v 0 0 0 0) (fun W' => ((GdF (w.heap.size + 1) tb (.slice ah H.length ch) (.slice ag G.length cg) (.slice ak K.length ck) H G K W' ∧ Lies (tb + 1) M4 (.slice al L.length cl) L.length (ptV L) W') ∧ RlF M4 M5 (.slice ar RR.length cr) r RR W') ∧ Lies M5 M v TT.length (gtV TT) W'))
  case first =>
   go_wp2_with fail
   go_loopw [9] (fun i wr => ∃ (j : Nat) (xs : List ((Int × Int) × (Int × Int) × Bool)) (sj : IS) (v : Value), j ≤ NG ∧ i = .int .i64 j ∧ xs.length = j ∧ (xs ++ (repR (gateC.rd l) (NG - j) sj).1, (repR (gateC.rd l) (NG - j) sj).2) = (TT, s6) ∧ wr.ownsRow M5 59 5 v j (gtV xs) ∧ RdD w wr a l.length c l sj w.heap.size (w.heap.size + 1) tb M5 (gdL 0 0 0 0 0 0 sl0 sl0 sl0) (dcL rate cell cols rows px py (.slice ah H.length ch) (.slice ag G.length cg) (.slice ak K.length ck) (.slice al L.length cl) (.slice ar RR.length cr) v 0 0 0 0) (fun W' => (GdF (w.heap.size + 1) tb (.slice ah H.length ch) (.slice ag G.length cg) (.slice ak K.length ck) H G K W' ∧ Lies (tb + 1) M4 (.slice al L.length cl) L.length (ptV L) W') ∧ RlF M4 M5 (.slice ar RR.length cr) r RR W')) (fun i _ => NG - (intOf i).toNat)
   case atStart => exact ⟨0, [], s5, sl0, by omega, rfl, rfl, FG.out, ⟨rfl, Or.inl ⟨rfl, rfl⟩⟩, S8.out⟩
   case round =>
    obtain ⟨j, xs, sj, v, hj, rfl, hx, hRR, hO, hS⟩ := hrel
    have S2 := Lib.hid hS
    have O2 := Lib.hid hO
    have RZ := Lib.hid hRR
    clear hS hO hRR S8 FG
    have c3 := S2.out.i.c3
    have q1 := QG.out
    by_cases hlt : j < NG
    ·have z1 : (j : Int) < (NG : Int) := by omega
     by_cases he : sj.err = 0
     ·have kb : (sj.err == 0) = true := by rw [he]; rfl
      have XA := Lib.hid (PC.out sj)
      obtain ⟨⟨⟨ax, ay⟩, y1⟩, ex1⟩ : ∃ q, placeC.rd l sj = q := ⟨_, rfl⟩
      have XB := Lib.hid (PC.out y1)
      obtain ⟨⟨⟨bx, by'⟩, y2⟩, ex2⟩ : ∃ q, placeC.rd l y1 = q := ⟨_, rfl⟩
      have XN := Lib.hid (FL.out y2)
      obtain ⟨⟨so, sx'⟩, ex3⟩ : ∃ q, flagC.rd l y2 = q := ⟨_, rfl⟩
      have RQ := Lib.hid (rep_next (x := ((ax, ay), (bx, by'), so)) hlt he (show gateC.rd l sj = (((ax, ay), (bx, by'), so), sx') from bind_eq ex1 (bind_eq ex2 ex3)) RZ.out)
      rw [ex1] at XA
      rw [ex2] at XB
      rw [ex3] at XN
      clear RZ ex1 ex2 ex3
      go_wp2_with fail
      clear c3 kb
      refine (XA.out _ _ S2.out.i).mono ?_
      rintro e wa ⟨rfl, h1, g1⟩
      have SA := Lib.hid (S2.out.rd h1 g1)
      have OA := Lib.hid (O2.out.kept g1 (Or.inr (fun e => by have := (O2.out.lt _ e).1; have := S2.out.zt; omega)))
      clear h1 g1 S2 O2 XA
      go_wp2_with fail
      have ba := (Below.refl wa.heap.size wa).alloc (Nat.le_refl _) (.cells #[.int .i64 ax, .int .i64 ay] 24)
      refine calls_gen (S := fun W => (RdD w W a l.length c l y1 w.heap.size (w.heap.size + 1) tb M5 (gdL 0 0 0 0 0 0 sl0 sl0 sl0) (dcL rate cell cols rows px py (.slice ah H.length ch) (.slice ag G.length cg) (.slice ak K.length ck) (.slice al L.length cl) (.slice ar RR.length cr) v 0 0 0 0) (fun W' => (GdF (w.heap.size + 1) tb (.slice ah H.length ch) (.slice ag G.length cg) (.slice ak K.length ck) H G K W' ∧ Lies (tb + 1) M4 (.slice al L.length cl) L.length (ptV L) W') ∧ RlF M4 M5 (.slice ar RR.length cr) r RR W') ∧ W.ownsRow M5 59 5 v j (gtV xs)) ∧ BW W wa.heap.size [.int .i64 ax, .int .i64 ay]) ⟨⟨SA.out.bl ba, own_below OA.out ba⟩, BW.new wa _ [.int .i64 ax, .int .i64 ay] _ rfl⟩ (fun wb hS => ?_)
      have SB := Lib.hid hS.1.1
      have OB := Lib.hid hS.1.2
      have UB := Lib.hid hS.2
      have hv1 := Lib.hid (fun b (q : v.ownBlock = some b) => (OA.out.lt b q).2)
      have hm1 := Lib.hid SA.out.zt.2.2
      clear hS ba SA OA
      generalize wa.heap.size = m1 at *
      refine (XB.out _ _ SB.out.i).mono ?_
      rintro e wd ⟨rfl, h1, g1⟩
      have SD := Lib.hid (SB.out.rd h1 g1)
      have OD := Lib.hid (OB.out.kept g1 (Or.inr (fun e => by have := (OB.out.lt _ e).1; have := SB.out.zt; omega)))
      have UD := Lib.hid (UB.out.grown g1 (fun e => by injection e with e; have := SB.out.zt; have := hm1.out; omega))
      clear h1 g1 SB OB UB XB
      go_wp2_with fail
      have bd := ((Below.refl wd.heap.size wd).alloc (Nat.le_refl _) (.cells #[.int .i64 bx, .int .i64 by'] 24))
      refine wp_gen (S := fun W => (RdD w W a l.length c l y2 w.heap.size (w.heap.size + 1) tb M5 (gdL 0 0 0 0 0 0 sl0 sl0 sl0) (dcL rate cell cols rows px py (.slice ah H.length ch) (.slice ag G.length cg) (.slice ak K.length ck) (.slice al L.length cl) (.slice ar RR.length cr) v 0 0 0 0) (fun W' => (GdF (w.heap.size + 1) tb (.slice ah H.length ch) (.slice ag G.length cg) (.slice ak K.length ck) H G K W' ∧ Lies (tb + 1) M4 (.slice al L.length cl) L.length (ptV L) W') ∧ RlF M4 M5 (.slice ar RR.length cr) r RR W') ∧ W.ownsRow M5 59 5 v j (gtV xs)) ∧ G2 W m1 wd.heap.size ax ay bx by') ⟨⟨SD.out.bl bd, own_below OD.out bd⟩, UD.out.below bd UD.out.lt, BW.new wd _ [.int .i64 bx, .int .i64 by'] _ rfl⟩ (fun wf hS => ?_)
      have S3 := Lib.hid (hS.1.1.bl (Below.refl _ _).drew)
      have O3 := Lib.hid (World.ownsRow.drew hS.1.2)
      have D3 := Lib.hid (hS.2.grown (below_grown (Below.refl _ _).drew none) (fun e => by cases e) (fun e => by cases e))
      have HV := Lib.hid (show (M5 ≤ m1 ∧ m1 < wd.heap.size) ∧ ∀ b, v.ownBlock = some b → b < m1 from ⟨⟨hm1.out, UD.out.lt⟩, hv1.out⟩)
      clear hS bd SD OD UD hv1 hm1
      generalize wd.heap.size = m2 at *
      as_aux_lemma =>
      refine wp_region_held_drew (S := fun W => (W.cell? ⟨m1, 0, none⟩ = some (.int .i64 ax) ∧ W.cell? ⟨m1, 1, none⟩ = some (.int .i64 ay)) ∧ (W.cell? ⟨m2, 0, none⟩ = some (.int .i64 bx) ∧ W.cell? ⟨m2, 1, none⟩ = some (.int .i64 by'))) (by kernel_rfl) D3.out.held (fun hHeld => ?_)
      generalize wf.drew = w3 at *
      refine tkQ 0 62 hHeld ?_
      (try simp only [putA, putB, putC, putD])
      refine tkQ 2 64 hHeld ?_
      (try simp only [putA, putB, putC, putD])
      refine tkQ 3 65 hHeld ?_
      (try simp only [putA, putB, putC, putD])
      refine tkQ 4 66 hHeld ?_
      (try simp only [putA, putB, putC, putD])
      refine wpAnyH_twoD 1 5 (by kernel_rfl) (fun o ho K hK => ?_) (fun o ho K hK => ?_) (by kernel_rfl) (by kernel_rfl)
      ·skip
       simp only [List.getElem?_toArray, List.getElem?_cons_succ, List.getElem?_cons_zero, Option.some.injEq] at ho
       subst ho
       have tc := S3.out.t.c 11 _ rfl
       go_simp
       refine hK.out _ _ (D3.out.held) ?_
       clear hK K hHeld tc
       intro hHeld
       refine onlD 5 (fun K hK => ?_)
       go_simp
       refine (XN.out _ _ S3.out.i).mono ?_
       rintro e w4 ⟨rfl, h1, g1⟩
       have S4 := Lib.hid (S3.out.rd h1 g1)
       have O4 := Lib.hid (O3.out.kept g1 (Or.inr (fun e => by have := (O3.out.lt _ e).1; have := S3.out.zt; omega)))
       have D4 := Lib.hid (D3.out.grown g1 (fun e => by injection e with e; have := S3.out.zt; have := HV.out.1; omega) (fun e => by injection e with e; have := S3.out.zt; have := HV.out.1; omega))
       go_wp2_with fail
       refine hK.out _ _ (D4.out.held) ?_
       clear hK K hHeld h1 g1 S3 O3 D3 XN
       intro hHeld
       refine tkQ 6 68 hHeld ?_
       (try simp only [putA, putB, putC, putD])
       refine onlD 7 (fun K hK => ?_)
       rw [if_pos (show Region.wanted _ _ = true from rfl)]
       refine wp_buildSlice 30 59 1 #[(0, .tmp 68)] rfl #[Value.int .i64 ax, Value.int .i64 ay, Value.int .i64 bx, Value.int .i64 by', Value.bool so] i0 (.agg #[.int .i64 0, .int .i64 0, .int .i64 0, .int .i64 0, .bool false]) Tryz.underlying30 hi0 hz0 (by rw [hz1]; decide) (by rw [hz1]; decide) (by rw [hz1]; kernel_rfl) ?_
       simp only [Act.put, List.setIfInBounds_toArray, List.set_cons_zero, List.set_cons_succ]
       have B5 := (Below.refl w4.heap.size w4).alloc (Nat.le_refl _) (.cells #[Value.int .i64 ax, Value.int .i64 ay, Value.int .i64 bx, Value.int .i64 by', Value.bool so] 59)
       have S5 := Lib.hid (S4.out.bl B5)
       have O5 := Lib.hid (own_below O4.out B5)
       have D5 := Lib.hid (D4.out.grown (below_grown B5 none) (fun e => by cases e) (fun e => by cases e))
       have N5 := Lib.hid (show ∀ (j : Nat) (u : Value), ([Value.int .i64 ax, Value.int .i64 ay, Value.int .i64 bx, Value.int .i64 by', Value.bool so] : List Value)[j]? = some u → (w4.alloc (.cells #[Value.int .i64 ax, Value.int .i64 ay, Value.int .i64 bx, Value.int .i64 by', Value.bool so] 59)).cell? ((⟨w4.heap.size, 0, none⟩ : Addr).add j) = some u from World.news_of_block (heap_alloc_new w4 _))
       generalize w4.alloc (.cells #[Value.int .i64 ax, Value.int .i64 ay, Value.int .i64 bx, Value.int .i64 by', Value.bool so] 59) = w5 at *
       generalize w4.heap.size = sb at *
       refine hK.out _ _ (D5.out.held) ?_
       clear hK K hHeld S4 O4 D4 B5
       intro hHeld
       refine onlD 8 (fun K hK => ?_)
       refine step_append_lies _ (by rfl) (.tmp 63) (.tmp 69) 30 (by rfl) M5 59 i0 (.agg #[.int .i64 0, .int .i64 0, .int .i64 0, .int .i64 0, .bool false]) 5 40 Tryz.underlying30 hi0 hz0 hz1 hz2 rfl (by omega) _ j (gtV xs) (by rfl) O5.out ⟨sb, 0, none⟩ 1 1 [Value.int .i64 ax, Value.int .i64 ay, Value.int .i64 bx, Value.int .i64 by', Value.bool so] (by rfl) rfl N5.out (by simp [Value.oneCell']) (by omega) (by unfold maxLen; omega) (by omega) (by have := S5.out.zt; omega) _ rfl ?_
       intro g cap w6 hO hG hat hlt2
       have S6 := Lib.hid (S5.out.app O5.out hG)
       have O6 := Lib.hid hO
       have D6 := Lib.hid (D5.out.grown hG (fun e => by have := HV.out.2 _ e.symm; omega) (fun e => by have := HV.out.2 _ e.symm; have := HV.out.1; omega))
       refine hK.out _ _ (D6.out.held) ?_
       clear hK K hHeld hO hG hat hlt2 S5 O5 N5 D5
       intro hHeld
       refine tkQ 9 71 hHeld ?_
       (try simp only [putA, putB, putC, putD])
       refine wpAnyH_onlyD 10 (by kernel_rfl) (fun o ho K hK => ?_) (by kernel_rfl)
       have tc := S6.out.t.c 11 _ rfl
       have tf := S6.out.t.f
       have tl := S6.out.t.lt
       simp only [List.getElem?_toArray, List.getElem?_cons_succ, List.getElem?_cons_zero, Option.some.injEq] at ho
       subst ho
       go_simp
       have S7 := Lib.hid (S6.out.put 11 (.slice (some ⟨g, 0, none⟩) (j + 1) cap) _ rfl)
       have O7 := Lib.hid (O6.out.kept (grown_cell w6 tb 11 (.slice (some ⟨g, 0, none⟩) (j + 1) cap)) (Or.inr (fun e => by have := (O6.out.lt _ e).1; have := S6.out.zt; omega)))
       refine hK.out _ _ ((D6.out.grown (grown_cell w6 tb 11 (.slice (some ⟨g, 0, none⟩) (j + 1) cap)) (fun e => by injection e with e; have := S6.out.zt; have := HV.out.1; omega) (fun e => by injection e with e; have := S6.out.zt; have := HV.out.1; omega)).held) ?_
       clear hK K hHeld S6 O6 D6 tc tf tl
       intro hHeld
       refine wpAnyH_done (by kernel_rfl) ?_ _
       clear hHeld
       go_wp2
       go_roundw
       case rel => first | exact ⟨j + 1, xs ++ [((ax, ay), (bx, by'), so)], sx', _, by omega, by go_num, by simp [hx], RQ.out, by rw [gtV_add]; exact O7.out, S7.out⟩ | ((repeat apply Exists.intro); exact ⟨⟨j + 1, xs ++ [((ax, ay), (bx, by'), so)], sx', _, by omega, by go_num, by simp [hx], RQ.out, by rw [gtV_add]; exact O7.out, S7.out⟩, rfl⟩)
       case measure => simp [intOf]; omega
      ·skip
       simp only [List.getElem?_toArray, List.getElem?_cons_succ, List.getElem?_cons_zero, Option.some.injEq] at ho
       subst ho
       go_simp
       refine (XN.out _ _ S3.out.i).mono ?_
       rintro e w4 ⟨rfl, h1, g1⟩
       have S4 := Lib.hid (S3.out.rd h1 g1)
       have O4 := Lib.hid (O3.out.kept g1 (Or.inr (fun e => by have := (O3.out.lt _ e).1; have := S3.out.zt; omega)))
       have D4 := Lib.hid (D3.out.grown g1 (fun e => by injection e with e; have := S3.out.zt; have := HV.out.1; omega) (fun e => by injection e with e; have := S3.out.zt; have := HV.out.1; omega))
       go_wp2_with fail
       refine hK.out _ _ (D4.out.held) ?_
       clear hK K hHeld h1 g1 S3 O3 D3 XN
       intro hHeld
       refine tkQ 6 68 hHeld ?_
       (try simp only [putA, putB, putC, putD])
       refine wpAnyH_twoD 1 7 (by kernel_rfl) (fun o ho K hK => ?_) (fun o ho K hK => ?_) (by kernel_rfl) (by kernel_rfl)
       ·skip
        simp only [List.getElem?_toArray, List.getElem?_cons_succ, List.getElem?_cons_zero, Option.some.injEq] at ho
        subst ho
        have tc := S4.out.t.c 11 _ rfl
        go_simp
        refine hK.out _ _ (D4.out.held) ?_
        clear hK K hHeld tc
        intro hHeld
        refine onlD 7 (fun K hK => ?_)
        rw [if_pos (show Region.wanted _ _ = true from rfl)]
        refine wp_buildSlice 30 59 1 #[(0, .tmp 68)] rfl #[Value.int .i64 ax, Value.int .i64 ay, Value.int .i64 bx, Value.int .i64 by', Value.bool so] i0 (.agg #[.int .i64 0, .int .i64 0, .int .i64 0, .int .i64 0, .bool false]) Tryz.underlying30 hi0 hz0 (by rw [hz1]; decide) (by rw [hz1]; decide) (by rw [hz1]; kernel_rfl) ?_
        simp only [Act.put, List.setIfInBounds_toArray, List.set_cons_zero, List.set_cons_succ]
        have B5 := (Below.refl w4.heap.size w4).alloc (Nat.le_refl _) (.cells #[Value.int .i64 ax, Value.int .i64 ay, Value.int .i64 bx, Value.int .i64 by', Value.bool so] 59)
        have S5 := Lib.hid (S4.out.bl B5)
        have O5 := Lib.hid (own_below O4.out B5)
        have D5 := Lib.hid (D4.out.grown (below_grown B5 none) (fun e => by cases e) (fun e => by cases e))
        have N5 := Lib.hid (show ∀ (j : Nat) (u : Value), ([Value.int .i64 ax, Value.int .i64 ay, Value.int .i64 bx, Value.int .i64 by', Value.bool so] : List Value)[j]? = some u → (w4.alloc (.cells #[Value.int .i64 ax, Value.int .i64 ay, Value.int .i64 bx, Value.int .i64 by', Value.bool so] 59)).cell? ((⟨w4.heap.size, 0, none⟩ : Addr).add j) = some u from World.news_of_block (heap_alloc_new w4 _))
        generalize w4.alloc (.cells #[Value.int .i64 ax, Value.int .i64 ay, Value.int .i64 bx, Value.int .i64 by', Value.bool so] 59) = w5 at *
        generalize w4.heap.size = sb at *
        refine hK.out _ _ (D5.out.held) ?_
        clear hK K hHeld S4 O4 D4 B5
        intro hHeld
        refine onlD 8 (fun K hK => ?_)
        refine step_append_lies _ (by rfl) (.tmp 63) (.tmp 69) 30 (by rfl) M5 59 i0 (.agg #[.int .i64 0, .int .i64 0, .int .i64 0, .int .i64 0, .bool false]) 5 40 Tryz.underlying30 hi0 hz0 hz1 hz2 rfl (by omega) _ j (gtV xs) (by rfl) O5.out ⟨sb, 0, none⟩ 1 1 [Value.int .i64 ax, Value.int .i64 ay, Value.int .i64 bx, Value.int .i64 by', Value.bool so] (by rfl) rfl N5.out (by simp [Value.oneCell']) (by omega) (by unfold maxLen; omega) (by omega) (by have := S5.out.zt; omega) _ rfl ?_
        intro g cap w6 hO hG hat hlt2
        have S6 := Lib.hid (S5.out.app O5.out hG)
        have O6 := Lib.hid hO
        have D6 := Lib.hid (D5.out.grown hG (fun e => by have := HV.out.2 _ e.symm; omega) (fun e => by have := HV.out.2 _ e.symm; have := HV.out.1; omega))
        refine hK.out _ _ (D6.out.held) ?_
        clear hK K hHeld hO hG hat hlt2 S5 O5 N5 D5
        intro hHeld
        refine tkQ 9 71 hHeld ?_
        (try simp only [putA, putB, putC, putD])
        refine wpAnyH_onlyD 10 (by kernel_rfl) (fun o ho K hK => ?_) (by kernel_rfl)
        have tc := S6.out.t.c 11 _ rfl
        have tf := S6.out.t.f
        have tl := S6.out.t.lt
        simp only [List.getElem?_toArray, List.getElem?_cons_succ, List.getElem?_cons_zero, Option.some.injEq] at ho
        subst ho
        go_simp
        have S7 := Lib.hid (S6.out.put 11 (.slice (some ⟨g, 0, none⟩) (j + 1) cap) _ rfl)
        have O7 := Lib.hid (O6.out.kept (grown_cell w6 tb 11 (.slice (some ⟨g, 0, none⟩) (j + 1) cap)) (Or.inr (fun e => by have := (O6.out.lt _ e).1; have := S6.out.zt; omega)))
        refine hK.out _ _ ((D6.out.grown (grown_cell w6 tb 11 (.slice (some ⟨g, 0, none⟩) (j + 1) cap)) (fun e => by injection e with e; have := S6.out.zt; have := HV.out.1; omega) (fun e => by injection e with e; have := S6.out.zt; have := HV.out.1; omega)).held) ?_
        clear hK K hHeld S6 O6 D6 tc tf tl
        intro hHeld
        refine wpAnyH_done (by kernel_rfl) ?_ _
        clear hHeld
        go_wp2
        go_roundw
        case rel => first | exact ⟨j + 1, xs ++ [((ax, ay), (bx, by'), so)], sx', _, by omega, by go_num, by simp [hx], RQ.out, by rw [gtV_add]; exact O7.out, S7.out⟩ | ((repeat apply Exists.intro); exact ⟨⟨j + 1, xs ++ [((ax, ay), (bx, by'), so)], sx', _, by omega, by go_num, by simp [hx], RQ.out, by rw [gtV_add]; exact O7.out, S7.out⟩, rfl⟩)
        case measure => simp [intOf]; omega
       ·skip
        simp only [List.getElem?_toArray, List.getElem?_cons_succ, List.getElem?_cons_zero, Option.some.injEq] at ho
        subst ho
        rw [if_pos (show Region.wanted _ _ = true from rfl)]
        refine wp_buildSlice 30 59 1 #[(0, .tmp 68)] rfl #[Value.int .i64 ax, Value.int .i64 ay, Value.int .i64 bx, Value.int .i64 by', Value.bool so] i0 (.agg #[.int .i64 0, .int .i64 0, .int .i64 0, .int .i64 0, .bool false]) Tryz.underlying30 hi0 hz0 (by rw [hz1]; decide) (by rw [hz1]; decide) (by rw [hz1]; kernel_rfl) ?_
        simp only [Act.put, List.setIfInBounds_toArray, List.set_cons_zero, List.set_cons_succ]
        have B5 := (Below.refl w4.heap.size w4).alloc (Nat.le_refl _) (.cells #[Value.int .i64 ax, Value.int .i64 ay, Value.int .i64 bx, Value.int .i64 by', Value.bool so] 59)
        have S5 := Lib.hid (S4.out.bl B5)
        have O5 := Lib.hid (own_below O4.out B5)
        have D5 := Lib.hid (D4.out.grown (below_grown B5 none) (fun e => by cases e) (fun e => by cases e))
        have N5 := Lib.hid (show ∀ (j : Nat) (u : Value), ([Value.int .i64 ax, Value.int .i64 ay, Value.int .i64 bx, Value.int .i64 by', Value.bool so] : List Value)[j]? = some u → (w4.alloc (.cells #[Value.int .i64 ax, Value.int .i64 ay, Value.int .i64 bx, Value.int .i64 by', Value.bool so] 59)).cell? ((⟨w4.heap.size, 0, none⟩ : Addr).add j) = some u from World.news_of_block (heap_alloc_new w4 _))
        generalize w4.alloc (.cells #[Value.int .i64 ax, Value.int .i64 ay, Value.int .i64 bx, Value.int .i64 by', Value.bool so] 59) = w5 at *
        generalize w4.heap.size = sb at *
        refine hK.out _ _ (D5.out.held) ?_
        clear hK K hHeld S4 O4 D4 B5
        intro hHeld
        refine onlD 1 (fun K hK => ?_)
        have tc := S5.out.t.c 11 _ rfl
        go_simp
        refine hK.out _ _ (D5.out.held) ?_
        clear hK K hHeld tc
        intro hHeld
        refine onlD 8 (fun K hK => ?_)
        refine step_append_lies _ (by rfl) (.tmp 63) (.tmp 69) 30 (by rfl) M5 59 i0 (.agg #[.int .i64 0, .int .i64 0, .int .i64 0, .int .i64 0, .bool false]) 5 40 Tryz.underlying30 hi0 hz0 hz1 hz2 rfl (by omega) _ j (gtV xs) (by rfl) O5.out ⟨sb, 0, none⟩ 1 1 [Value.int .i64 ax, Value.int .i64 ay, Value.int .i64 bx, Value.int .i64 by', Value.bool so] (by rfl) rfl N5.out (by simp [Value.oneCell']) (by omega) (by unfold maxLen; omega) (by omega) (by have := S5.out.zt; omega) _ rfl ?_
        intro g cap w6 hO hG hat hlt2
        have S6 := Lib.hid (S5.out.app O5.out hG)
        have O6 := Lib.hid hO
        have D6 := Lib.hid (D5.out.grown hG (fun e => by have := HV.out.2 _ e.symm; omega) (fun e => by have := HV.out.2 _ e.symm; have := HV.out.1; omega))
        refine hK.out _ _ (D6.out.held) ?_
        clear hK K hHeld hO hG hat hlt2 S5 O5 N5 D5
        intro hHeld
        refine tkQ 9 71 hHeld ?_
        (try simp only [putA, putB, putC, putD])
        refine wpAnyH_onlyD 10 (by kernel_rfl) (fun o ho K hK => ?_) (by kernel_rfl)
        have tc := S6.out.t.c 11 _ rfl
        have tf := S6.out.t.f
        have tl := S6.out.t.lt
        simp only [List.getElem?_toArray, List.getElem?_cons_succ, List.getElem?_cons_zero, Option.some.injEq] at ho
        subst ho
        go_simp
        have S7 := Lib.hid (S6.out.put 11 (.slice (some ⟨g, 0, none⟩) (j + 1) cap) _ rfl)
        have O7 := Lib.hid (O6.out.kept (grown_cell w6 tb 11 (.slice (some ⟨g, 0, none⟩) (j + 1) cap)) (Or.inr (fun e => by have := (O6.out.lt _ e).1; have := S6.out.zt; omega)))
        refine hK.out _ _ ((D6.out.grown (grown_cell w6 tb 11 (.slice (some ⟨g, 0, none⟩) (j + 1) cap)) (fun e => by injection e with e; have := S6.out.zt; have := HV.out.1; omega) (fun e => by injection e with e; have := S6.out.zt; have := HV.out.1; omega)).held) ?_
        clear hK K hHeld S6 O6 D6 tc tf tl
        intro hHeld
        refine wpAnyH_done (by kernel_rfl) ?_ _
        clear hHeld
        go_wp2
        go_roundw
        case rel => first | exact ⟨j + 1, xs ++ [((ax, ay), (bx, by'), so)], sx', _, by omega, by go_num, by simp [hx], RQ.out, by rw [gtV_add]; exact O7.out, S7.out⟩ | ((repeat apply Exists.intro); exact ⟨⟨j + 1, xs ++ [((ax, ay), (bx, by'), so)], sx', _, by omega, by go_num, by simp [hx], RQ.out, by rw [gtV_add]; exact O7.out, S7.out⟩, rfl⟩)
        case measure => simp [intOf]; omega
     ·have kb : (sj.err == 0) = false := beq_false_of_ne he
      obtain ⟨rfl, rfl⟩ := rep_end (Or.inl he) RZ.out
      clear q1
      go_wp2_with fail
      go_meet
      subst hx
      exact ⟨_, v, S2.out.zt.2.2, S2.out.lst (lies_owned O2.out) (Nat.le_refl _)⟩
    ·have z1 : ¬ (j : Int) < (NG : Int) := by omega
     obtain ⟨rfl, rfl⟩ := rep_end (Or.inr hlt) RZ.out
     clear q1
     go_wp2_with fail
     go_meet
     subst hx
     exact ⟨_, v, S2.out.zt.2.2, S2.out.lst (lies_owned O2.out) (Nat.le_refl _)⟩
  case rest =>
   obtain ⟨M6, vt, M56, hS⟩ := hcut
   have S9 := Lib.hid hS
   have zM := Lib.hid (show tb ≤ M6 ∧ M4 ≤ M6 ∧ M5 ≤ M6 by have := hS.zt; omega)
   clear hS S8 FG QG FL hi0 hz0 hz1 hz2 i0
   obtain ⟨-, ⟨ag2, cg2, eg2, -⟩⟩ := S9.out.f
   subst eg2
   have XS := Lib.hid (PC.out s6)
   rw [F6.out] at XS
   clear PC F6
   go_wp2_with fail
   refine (XS.out _ _ S9.out.i).mono ?_
   rintro e wa ⟨rfl, h1, g1⟩
   have SA := Lib.hid (S9.out.rd h1 g1)
   clear h1 g1 S9 XS
   have tc := SA.out.t.c 12 _ rfl
   have td := SA.out.t.c 13 _ rfl
   have tf := SA.out.t.f
   have tl := SA.out.t.lt
   have SB := Lib.hid (show RdD w _ a l.length c l s7 w.heap.size (w.heap.size + 1) tb M6 _ (dcL rate cell cols rows px py (.slice ah H.length ch) (.slice ag G.length cg) (.slice ak K.length ck) (.slice al L.length cl) (.slice ar RR.length cr) (.slice ag2 TT.length cg2) sx sy 0 0) _ from (SA.out.put 12 (.int .i64 sx) _ rfl).put 13 (.int .i64 sy) _ rfl)
   clear SA
   go_wp2_with fail
   refine (NU.out _ _ SB.out.i).mono ?_
   rintro e wb ⟨rfl, h1, g1⟩
   have SC := Lib.hid (SB.out.rd h1 g1)
   clear h1 g1 SB NU tc td tf tl
   obtain ⟨hv, hhv⟩ : ∃ x, numV l s7 = x := ⟨_, rfl⟩
   have F8 := Lib.hid hhv
   rw [hhv]
   clear hhv
   by_cases hbad : hv < 0 ∨ 4294967295 < hv
   ·-- refused
    have e8 := Lib.hid (show failS (refE 40) (wordS l.length 8 s7).last (wordS l.length 8 s7) = s8 by
     rw [← F7.out.2]
     unfold headS
     rw [F8.out, if_pos hbad]
     rfl)
    have k8 : s8.err ≠ 0 := by
     rw [← e8.out]
     exact failS_err (by decide)
    have kd := Lib.hid (show (decS l).err ≠ 0 by
     rw [← ES.out, ST.out k8]
     unfold endS
     rw [if_neg (fun q => k8 q.1)]
     exact k8)
    have RFU := Lib.hid (fun (W : World) (nb : Nat) (I : IN W nb a l.length c l (wordS l.length 8 s7)) => riRefuse_any 40 nb a l.length c l (wordS l.length 8 s7) W I)
    rw [e8.out] at RFU
    clear k8 e8 F7 F8 DE ST HU
    rcases hbad with hb | hb
    ·go_wp2_with fail
     refine (RFU.out _ _ SC.out.i).mono ?_
     rintro e wc ⟨rfl, h1, g1⟩
     have SD := Lib.hid (SC.out.rd h1 g1)
     clear h1 g1 SC RFU hb
     have tc := SD.out.t.c 14 _ rfl
     have tf := SD.out.t.f
     have tl := SD.out.t.lt
     have SE := Lib.hid (show RdD w _ a l.length c l s8 w.heap.size (w.heap.size + 1) tb M6 _ (dcL rate cell cols rows px py (.slice ah H.length ch) (.slice ag G.length cg) (.slice ak K.length ck) (.slice al L.length cl) (.slice ar RR.length cr) (.slice ag2 TT.length cg2) sx sy (IntKind.u32.wrap hv) 0) _ from SD.out.put 14 (.int .u32 (IntKind.u32.wrap hv)) _ rfl)
     clear SD
     go_wp2_with fail
     refine (CL.out _ _ SE.out.i).mono ?_
     rintro e wd ⟨rfl, h1, g1⟩
     have SF := Lib.hid (SE.out.rd h1 g1)
     clear h1 g1 SE CL tc tf tl
     have tc := SF.out.t.c 15 _ rfl
     have tf := SF.out.t.f
     have tl := SF.out.t.lt
     have SG := Lib.hid (show RdD w _ a l.length c l s9 w.heap.size (w.heap.size + 1) tb M6 _ (dcL rate cell cols rows px py (.slice ah H.length ch) (.slice ag G.length cg) (.slice ak K.length ck) (.slice al L.length cl) (.slice ar RR.length cr) (.slice ag2 TT.length cg2) sx sy (IntKind.u32.wrap hv) laps) _ from SF.out.put 15 (.int .i64 laps) _ rfl)
     clear SF
     go_wp2_with fail
     refine (EN.out _ _ SG.out.i).mono ?_
     rw [ES.out]
     rintro e we ⟨rfl, h1, g1⟩
     have SH := Lib.hid (SG.out.rd h1 g1)
     clear h1 g1 SG EN ES tc tf tl
     rename_i K1 a1 K0 a0
     have A1 := Lib.hid a1
     clear a1
     go_wp2_with fail
     exact A1.out _ _ (dec_tail1 SH.out kd.out _ _ _ _ _ _ _ _ _ _ _ _ _ _ _ _ _ _ _ _ _ _ _ _ _ _ _ _ _ _ _ _ _ _ _ _ _ _ _ _ _ _ _ _ _ _ _ _ _ _ _ _ _ _ _ _ _ _ _ _ _ _ _ _ _ _ _ _ _ _ _ _ _ _ _ _ _ _ _ _ _ _ _ _ _ _ _ _ _ _ _ _ _ _ _ _ _ _ _ _ _ _ _ _ _ _ _)
    ·have hb2 : ¬ hv < 0 := by omega
     go_wp2_with fail
     refine (RFU.out _ _ SC.out.i).mono ?_
     rintro e wc ⟨rfl, h1, g1⟩
     have SD := Lib.hid (SC.out.rd h1 g1)
     clear h1 g1 SC RFU hb hb2
     have tc := SD.out.t.c 14 _ rfl
     have tf := SD.out.t.f
     have tl := SD.out.t.lt
     have SE := Lib.hid (show RdD w _ a l.length c l s8 w.heap.size (w.heap.size + 1) tb M6 _ (dcL rate cell cols rows px py (.slice ah H.length ch) (.slice ag G.length cg) (.slice ak K.length ck) (.slice al L.length cl) (.slice ar RR.length cr) (.slice ag2 TT.length cg2) sx sy (IntKind.u32.wrap hv) 0) _ from SD.out.put 14 (.int .u32 (IntKind.u32.wrap hv)) _ rfl)
     clear SD
     go_wp2_with fail
     refine (CL.out _ _ SE.out.i).mono ?_
     rintro e wd ⟨rfl, h1, g1⟩
     have SF := Lib.hid (SE.out.rd h1 g1)
     clear h1 g1 SE CL tc tf tl
     have tc := SF.out.t.c 15 _ rfl
     have tf := SF.out.t.f
     have tl := SF.out.t.lt
     have SG := Lib.hid (show RdD w _ a l.length c l s9 w.heap.size (w.heap.size + 1) tb M6 _ (dcL rate cell cols rows px py (.slice ah H.length ch) (.slice ag G.length cg) (.slice ak K.length ck) (.slice al L.length cl) (.slice ar RR.length cr) (.slice ag2 TT.length cg2) sx sy (IntKind.u32.wrap hv) laps) _ from SF.out.put 15 (.int .i64 laps) _ rfl)
     clear SF
     go_wp2_with fail
     refine (EN.out _ _ SG.out.i).mono ?_
     rw [ES.out]
     rintro e we ⟨rfl, h1, g1⟩
     have SH := Lib.hid (SG.out.rd h1 g1)
     clear h1 g1 SG EN ES tc tf tl
     rename_i K1 a1 K0 a0
     have A1 := Lib.hid a1
     clear a1
     go_wp2_with fail
     exact A1.out _ _ (dec_tail1 SH.out kd.out _ _ _ _ _ _ _ _ _ _ _ _ _ _ _ _ _ _ _ _ _ _ _ _ _ _ _ _ _ _ _ _ _ _ _ _ _ _ _ _ _ _ _ _ _ _ _ _ _ _ _ _ _ _ _ _ _ _ _ _ _ _ _ _ _ _ _ _ _ _ _ _ _ _ _ _ _ _ _ _ _ _ _ _ _ _ _ _ _ _ _ _ _ _ _ _ _ _ _ _ _ _ _ _ _ _ _)
   have h8 : hv = head := by have := F7.out.1; rw [F8.out] at this; omega
   have e8 := Lib.hid (show wordS l.length 8 s7 = s8 by
    rw [← F7.out.2]
    unfold headS
    rw [F8.out, if_neg hbad])
   subst h8
   have hb1 : ¬ hv < 0 := by omega
   have hb2 : ¬ 4294967295 < hv := by omega
   have u8 : IntKind.u32.wrap hv = hv := by
    have : hv % 4294967296 = hv := by omega
    exact this
   have SD := Lib.hid (show RdD w wb a l.length c l s8 w.heap.size (w.heap.size + 1) tb M6 _ _ _ from by rw [← e8.out]; exact SC.out)
   clear hbad F7 F8 SC e8 ST
   have tc := SD.out.t.c 14 _ rfl
   have tf := SD.out.t.f
   have tl := SD.out.t.lt
   have SE := Lib.hid (show RdD w _ a l.length c l s8 w.heap.size (w.heap.size + 1) tb M6 _ (dcL rate cell cols rows px py (.slice ah H.length ch) (.slice ag G.length cg) (.slice ak K.length ck) (.slice al L.length cl) (.slice ar RR.length cr) (.slice ag2 TT.length cg2) sx sy (hv) 0) _ from SD.out.put 14 (.int .u32 (hv)) _ rfl)
   clear SD
   go_wp2_with fail
   refine (CL.out _ _ SE.out.i).mono ?_
   rintro e wd ⟨rfl, h1, g1⟩
   have SF := Lib.hid (SE.out.rd h1 g1)
   clear h1 g1 SE CL tc tf tl
   have tc := SF.out.t.c 15 _ rfl
   have tf := SF.out.t.f
   have tl := SF.out.t.lt
   have SG := Lib.hid (show RdD w _ a l.length c l s9 w.heap.size (w.heap.size + 1) tb M6 _ (dcL rate cell cols rows px py (.slice ah H.length ch) (.slice ag G.length cg) (.slice ak K.length ck) (.slice al L.length cl) (.slice ar RR.length cr) (.slice ag2 TT.length cg2) sx sy (hv) laps) _ from SF.out.put 15 (.int .i64 laps) _ rfl)
   clear SF
   go_wp2_with fail
   refine (EN.out _ _ SG.out.i).mono ?_
   rw [ES.out]
   rintro e we ⟨rfl, h1, g1⟩
   have SH := Lib.hid (SG.out.rd h1 g1)
   clear h1 g1 SG EN ES tc tf tl
   rename_i K1 a1 K0 a0
   have A1 := Lib.hid a1
   clear a1
   go_wp2_with fail
   refine A1.out _ _ ?_
   by_cases he : (decS l).err = 0
   ·by_cases hg : decG l = 0
    ·exact dec_tail3 SH.out HU.out (congrArg Prod.fst DE.out) zM.out he hg _ _ _ _ _ _ _ _ _ _ _ _ _ _ _ _ _ _ _ _ _ _ _ _ _ _ _ _ _ _ _ _ _ _ _ _ _ _ _ _ _ _ _ _ _ _ _ _ _ _ _ _ _ _ _ _ _ _ _ _ _ _ _ _ _ _ _ _ _ _ _ _ _ _ _ _ _ _ _ _ _ _ _ _ _ _ _ _ _ _ _ _ _ _ _ _ _ _ _ _ _ _ _ _ _ _ _
    ·exact dec_tail2 SH.out HU.out (congrArg Prod.fst DE.out) zM.out he hg _ _ _ _ _ _ _ _ _ _ _ _ _ _ _ _ _ _ _ _ _ _ _ _ _ _ _ _ _ _ _ _ _ _ _ _ _ _ _ _ _ _ _ _ _ _ _ _ _ _ _ _ _ _ _ _ _ _ _ _ _ _ _ _ _ _ _ _ _ _ _ _ _ _ _ _ _ _ _ _ _ _ _ _ _ _ _ _ _ _ _ _ _ _ _ _ _ _ _ _ _ _ _ _ _ _ _
   ·exact dec_tail1 SH.out he _ _ _ _ _ _ _ _ _ _ _ _ _ _ _ _ _ _ _ _ _ _ _ _ _ _ _ _ _ _ _ _ _ _ _ _ _ _ _ _ _ _ _ _ _ _ _ _ _ _ _ _ _ _ _ _ _ _ _ _ _ _ _ _ _ _ _ _ _ _ _ _ _ _ _ _ _ _ _ _ _ _ _ _ _ _ _ _ _ _ _ _ _ _ _ _ _ _ _ _ _ _ _ _ _ _ _
end Go.Proofs.YtmdjnamkbekjkaaGreatDoor
