/- -/
import Derived.Test.YtmdjnamkbekjkaaGreatDoorB9
namespace Go.Proofs.YtmdjnamkbekjkaaGreatDoor
open Go.RowKit
set_option linter.unusedVariables false
set_option linter.unusedSimpArgs false
set_option maxRecDepth 100000 in
set_option maxHeartbeats 2000000 in
theorem r15Place_any (x y : Int) (w : World) (hx : In64 x) (hy : In64 y) :
  Calls Tryz.prog 22 #[.agg #[.int .i64 x, .int .i64 y]] w fun e w' => (∃ v, e = .returned v ∧ OB w.heap.size w' v (byC (placeC.wr (x, y)))) ∧ Below w.heap.size w w' := by
 have X := Lib.hid (fun (W : World) => rwNum_any x W hx.1 hx.2)
 have Y := Lib.hid (fun (W : World) => rwNum_any y W hy.1 hy.2)
 clear hx hy
 go_enter Tryz.func22, Tryz.ntmps22
 go_wp2_with fail
 refine wp_gen (S := fun W => PlS w W x y) ⟨⟨World.cell?_alloc_new _ _ _ 0, World.cell?_alloc_new _ _ _ 1⟩, (Below.refl _ _).alloc (Nat.le_refl _) _, by simp⟩ (fun W0 hS => ?_)
 have S0 := Lib.hid (hS.step ((Below.refl _ _).drew))
 clear hS
 refine wp_region_held_drew (S := fun W => W.cell? ⟨w.heap.size, 0, none⟩ = some (.int .i64 x) ∧ W.cell? ⟨w.heap.size, 1, none⟩ = some (.int .i64 y)) (by kernel_rfl) S0.out.c (fun hHeld => ?_)
 generalize World.drew _ = w0 at *
 have Z0 := Lib.hid S0.out.s
 refine tkQ 0 3 hHeld ?_
 (try simp only [putA, putB, putC, putD])
 refine tkQ 1 4 hHeld ?_
 (try simp only [putA, putB, putC, putD])
 refine tkQ 3 6 hHeld ?_
 (try simp only [putA, putB, putC, putD])
 refine tkQ 4 7 hHeld ?_
 (try simp only [putA, putB, putC, putD])
 refine onlD 2 (fun K hK => ?_)
 go_simp
 refine (X.out _).mono ?_
 rintro e w1 ⟨⟨v1, rfl, o1⟩, h⟩
 have S1 := Lib.hid (S0.out.step h)
 have O1 := Lib.hid o1
 have Y1 := Lib.hid h.size
 go_wp2_with fail
 refine hK.out _ _ (S1.out.c) ?_
 clear hK K hHeld
 intro hHeld
 clear h S0 X o1
 refine onlD 5 (fun K hK => ?_)
 go_simp
 refine (Y.out _).mono ?_
 rintro e w2 ⟨⟨v2, rfl, o2⟩, h⟩
 have S2 := Lib.hid (S1.out.step h)
 have O2 := Lib.hid (O1.out.below h)
 have P2 := Lib.hid o2
 have Z1 := Lib.hid (show w0.heap.size ≤ w2.heap.size by have := Y1.out; have := h.size; omega)
 go_wp2_with fail
 refine hK.out _ _ (S2.out.c) ?_
 clear hK K hHeld
 intro hHeld
 clear h S1 Y o2 O1
 refine onlD 6 (fun K hK => ?_)
 refine step_ob (by rfl) (.tmp 5) (.tmp 8) 36 36 (by rfl) 5 _ (.int .u8 0) Tryz.underlying36 rfl rfl rfl rfl (by decide) O2.out (by rfl) _ _ (byC (numB (tw64 y) 8)) (by rfl) (src_own Tryz.underlying36 P2.out (one_ints .u8 _)) (by rw [byC_length, byC_length, numB_length, numB_length]; omega) Z1.out ?_
 intro v3 w3 o3 g3 p3
 have B3 := O2.out.up g3 Z1.out
 have L3 := Lib.hid (S2.out.l.trans (B3.mono (by have := Z0.out; omega)))
 have O3 := Lib.hid (show OB w.heap.size w3 v3 (byC (placeC.wr (x, y))) by rw [wr_place, byC_append]; exact o3.mono (by have := Z0.out; omega))
 refine hK.out _ _ ⟨(B3.cell (p := ⟨w.heap.size, 0, none⟩) (by have := Z0.out; show w.heap.size < _; omega)).trans S2.out.c.1, (B3.cell (p := ⟨w.heap.size, 1, none⟩) (by have := Z0.out; show w.heap.size < _; omega)).trans S2.out.c.2⟩ ?_
 clear hK K hHeld o3 g3 p3 B3 O2 P2 S2
 intro hHeld
 refine tkQ 7 2 hHeld ?_
 (try simp only [putA, putB, putC, putD])
 refine wpAnyH_done (by kernel_rfl) ?_ _
 clear hHeld
 go_wp2
 go_ret
 exact ⟨⟨_, rfl, O3.out⟩, L3.out⟩
set_option maxRecDepth 100000 in
set_option maxHeartbeats 2000000 in
theorem r15Places_any (a : Option Addr × Nat) (l : List (Int × Int)) (B : Nat) (w : World) (hB : B ≤ w.heap.size) (hl : l.length ≤ 100) (K : DsM B w (dsOf a l)) :
  Calls Tryz.prog 20 #[.slice a.1 l.length a.2] w fun e w' => (∃ v, e = .returned v ∧ OB w.heap.size w' v (byC (u16B l.length ++ l.flatMap placeC.wr))) ∧ Below w.heap.size w w' := by
 have HK := Lib.hid K
 have HB := Lib.hid hB
 clear K hB
 go_enter Tryz.func20, Tryz.ntmps20
 go_wp2_with fail
 refine (rwCount_any l.length w (by omega) (by omega)).mono ?_
 rintro e w1 ⟨⟨v1, rfl, o1⟩, h⟩
 have S1 := Lib.hid (show LsS w w1 B (dsOf a l) v1 (u16B l.length ++ (l.take 0).flatMap placeC.wr) from ⟨HK.out.keep h HB.out, by rw [List.take_zero, List.flatMap_nil, List.append_nil]; exact o1, h, HB.out⟩)
 clear o1 h HK
 go_wp2
 go_loopw [3, 4] (fun v i wr => ∃ j : Nat, j ≤ l.length ∧ i = .int .i64 j ∧ LsS w wr B (dsOf a l) v (u16B l.length ++ (l.take j).flatMap placeC.wr)) (fun _ i _ => l.length - (intOf i).toNat)
 case atStart => exact ⟨0, by omega, rfl, S1.out⟩
 case round =>
  obtain ⟨j, hj, rfl, hS⟩ := hrel
  have S2 := Lib.hid hS
  clear hS S1
  by_cases hlt : j < l.length
  ·obtain ⟨b, off, ha, hb, hcell⟩ := S2.out.d.at' (by show 0 < l.length; omega)
   obtain ⟨k0, k1⟩ := hcell j hlt
   obtain ⟨l0, l1⟩ := S2.out.d.wf j hlt
   have z0 : (0 : Int) ≤ (j : Int) := by omega
   have z1 : (j : Int) < (l.length : Int) := by omega
   have ha : a.1 = some ⟨b, off, none⟩ := ha
   have FM := Lib.hid (fm_succ placeC.wr l (0, 0) hlt)
   have c0 : wr.cell? ⟨b, off + j * 2, none⟩ = some (.int .i64 (l.getD j (0, 0)).1) := k0
   have c1 : wr.cell? ⟨b, off + j * 2 + 1, none⟩ = some (.int .i64 (l.getD j (0, 0)).2) := k1
   have i0 : In64 (l.getD j (0, 0)).1 := l0
   have i1 : In64 (l.getD j (0, 0)).2 := l1
   clear k0 k1 l0 l1
   have LN := Lib.hid (show ((l.take j).flatMap placeC.wr).length ≤ 1600 by
    have := fm_len placeC.wr 16 (fun p => by rw [place_len]; exact Nat.le_refl _) (l.take j)
    rw [List.length_take] at this
    omega)
   generalize l.getD j (0, 0) = p at *
   obtain ⟨x, y⟩ := p
   dsimp only at c0 c1 i0 i1
   rw [ha]
   clear hcell hb
   go_wp2_with fail
   refine (r15Place_any x y _ i0 i1).mono ?_
   rintro e w3 ⟨⟨v3, rfl, o3⟩, h⟩
   have O3 := Lib.hid (S2.out.o.below h)
   have H3 := Lib.hid h
   have sz := S2.out.l.size
   have sz2 := h.size
   clear h c0 c1
   go_wp2_with (at_builtin; refine wpList_ob rfl (.tmp 14) (.tmp 19) 36 36 rfl 5 _ (.int .u8 0) Tryz.underlying36 rfl rfl rfl rfl (by decide) O3.out rfl _ _ (byC (placeC.wr (x, y))) rfl (src_own Tryz.underlying36 o3 (one_ints .u8 _)) (by have := LN.out; rw [byC_length, byC_length, List.length_append, place_len]; show 2 + _ + 16 ≤ _; omega) (by omega) ?_)
   intro v4 w4 o4 g4 p4
   have S4 := Lib.hid (show LsS w w4 B (dsOf a l) v4 (u16B l.length ++ (l.take (j + 1)).flatMap placeC.wr) by rw [FM.out, ← List.append_assoc]; exact S2.out.put H3.out o4 g4)
   clear o3 o4 g4 p4 O3 H3 S2 FM
   go_wp2
   go_roundw
   case rel => exact ⟨j + 1, by omega, by go_num, S4.out⟩
   case measure => simp [intOf]; omega
  ·have E := Lib.hid (show l.take j = l by rw [List.take_of_length_le (by omega)])
   have z1 : ¬ (j : Int) < (l.length : Int) := by omega
   go_wp2
   go_ret
   exact ⟨⟨_, rfl, by have := S2.out.o; rw [E.out] at this; exact this⟩, S2.out.l⟩
set_option maxRecDepth 100000 in
set_option maxHeartbeats 8000000 in
theorem r15Ground_any (a : TAd) (d : TD) (B : Nat) (w : World) (hB : B ≤ w.heap.size) (few : fewK (tkA a d)) (K : TkM B w (tkA a d)) :
  Calls Tryz.prog 19 #[trkV (tkA a d).t] w fun e w' => (∃ v, e = .returned v ∧ OB w.heap.size w' v (byC (gnd3 d))) ∧ Below w.heap.size w w' := by
 obtain ⟨⟨i0, i1, i2, i3, i4, i5⟩, -⟩ := tk_nums K
 have X0 := Lib.hid (fun (W : World) => rwCount_any d.rate W i0.1 i0.2)
 have X1 := Lib.hid (fun (W : World) => rwNum_any d.cell W i1.1 i1.2)
 have X2 := Lib.hid (fun (W : World) => rwCount_any d.cols W i2.1 i2.2)
 have X3 := Lib.hid (fun (W : World) => rwCount_any d.rows W i3.1 i3.2)
 have X4 := Lib.hid (fun (W : World) => r15Place_any d.at_.1 d.at_.2 W i4 i5)
 obtain ⟨⟨f1, f2, f3⟩, -, -, -, -⟩ := few
 have f1 : d.H.length ≤ 1200 := f1
 have f2 : d.G.length ≤ 1000 := f2
 have f3 : d.K.length ≤ 20 := f3
 have Q0 := Lib.hid (PK.new 34 K hB)
 clear i0 i1 i2 i3 i4 i5 K hB
 obtain ⟨k, hk⟩ : ∃ k, tkA a d = k := ⟨_, rfl⟩
 have HK := Lib.hid hk
 have e0 : d.rate = k.t.rate := by rw [← hk]; rfl
 have e1 : d.cell = k.t.cell := by rw [← hk]; rfl
 have e2 : d.cols = k.t.cols := by rw [← hk]; rfl
 have e3 : d.rows = k.t.rows := by rw [← hk]; rfl
 have e4 : d.at_.1 = k.t.cx := by rw [← hk]; rfl
 have e5 : d.at_.2 = k.t.cy := by rw [← hk]; rfl
 have e6 : d.H.length = k.t.H.n := by rw [← hk]; rfl
 have e7 : d.G.length = k.t.G.n := by rw [← hk]; rfl
 have e8 : d.K.length = k.t.kn := by rw [← hk]; rfl
 rw [hk] at Q0 ⊢
 have EV := Lib.hid (show gnd0 d = ((((markB chtr 4 ++ u16B k.t.rate) ++ numB (tw64 k.t.cell) 8) ++ u16B k.t.cols) ++ u16B k.t.rows) ++ placeC.wr (k.t.cx, k.t.cy) by rw [← e0, ← e1, ← e2, ← e3, ← e4, ← e5]; rfl)
 rw [e0] at X0
 rw [e1] at X1
 rw [e2] at X2
 rw [e3] at X3
 rw [e4, e5] at X4
 have E6 := Lib.hid e6
 have E7 := Lib.hid e7
 have E8 := Lib.hid e8
 clear hk e0 e1 e2 e3 e4 e5 e6 e7 e8
 unfold trkV
 go_enter Tryz.func19, Tryz.ntmps19
 go_wp2_with fail
 refine wp_gen (S := fun W => PK w W B w.heap.size k) Q0.out (fun W1 hS => ?_)
 have Q1 := Lib.hid (hS.step ((Below.refl _ _).drew))
 clear hS Q0
 refine wp_region_held_drew (S := fun W => W.cell? ⟨w.heap.size, 0, none⟩ = some (.int .i64 k.t.rate)) (by kernel_rfl) (Q1.out.c.c 0 _ rfl) (fun hHeld => ?_)
 generalize World.drew _ = w0 at *
 refine tkQ 1 8 hHeld ?_
 (try simp only [putA, putB, putC, putD])
 refine tkQ 2 9 hHeld ?_
 (try simp only [putA, putB, putC, putD])
 refine onlD 0 (fun K hK => ?_)
 go_simp
 refine (rwMark_any chtr _).mono ?_
 rintro e w1 ⟨⟨v1, rfl, o1⟩, h⟩
 have Q2 := Lib.hid (Q1.out.step h)
 have Z0 := Lib.hid (show w.heap.size + 1 ≤ w0.heap.size by have := Q1.out.c.lt; omega)
 have O1 := Lib.hid (o1.mono (show w.heap.size + 1 ≤ w0.heap.size from Z0.out))
 go_wp2_with fail
 refine hK.out _ _ (Q2.out.c.c 0 _ rfl) ?_
 clear hK K hHeld
 intro hHeld
 clear h Q1 o1
 refine onlD 3 (fun K hK => ?_)
 go_simp
 refine (X0.out _).mono ?_
 rintro e w2 ⟨⟨v2, rfl, o2⟩, h⟩
 have Q3 := Lib.hid (Q2.out.step h)
 have O2 := Lib.hid (O1.out.below h)
 have P2 := Lib.hid o2
 have Z2 := Lib.hid (show w.heap.size + 1 ≤ w2.heap.size by have := Q3.out.c.lt; omega)
 go_wp2_with fail
 refine hK.out _ _ (Q3.out.c.c 0 _ rfl) ?_
 clear hK K hHeld
 intro hHeld
 clear h Q2 X0 o2 O1
 refine onlD 4 (fun K hK => ?_)
 refine step_ob (by rfl) (.tmp 7) (.tmp 10) 36 36 (by rfl) 5 _ (.int .u8 0) Tryz.underlying36 rfl rfl rfl rfl (by decide) O2.out (by rfl) _ _ (byC (u16B k.t.rate)) (by rfl) (src_own Tryz.underlying36 P2.out (one_ints .u8 _)) (by rw [byC_length, byC_length, markB_length, u16_len]; omega) Z2.out ?_
 intro r3 w3 o3 g3 p3
 have B3 := O2.out.up g3 Z2.out
 have S3 := Lib.hid (show EnS w w3 B k r3 (markB chtr 4 ++ u16B k.t.rate) 6 from ⟨Q3.out.stepB B3 (by omega) (by omega), by rw [byC_append]; exact o3, by have := g3.size; have := Z2.out; omega, by rw [List.length_append, markB_length, u16_len]; omega⟩)
 refine hK.out _ _ (S3.out.q.c.c 0 _ rfl) ?_
 clear hK K hHeld o3 g3 p3 B3 O2 P2 Q3
 intro hHeld
 refine tkQ 5 3 hHeld ?_
 (try simp only [putA, putB, putC, putD])
 refine wpAnyH_done (by kernel_rfl) ?_ _
 clear hHeld Z0 Z2
 have cc := S3.out.q.c.c 1 _ rfl
 go_wp2_with fail
 refine (X1.out _).mono ?_
 rintro e wc ⟨⟨vc, rfl, oc⟩, h⟩
 have OC := Lib.hid (S3.out.o.below h)
 have HC := Lib.hid h
 have zs := S3.out.s
 have zt := h.size
 have hX : (numB (tw64 k.t.cell) 8).length ≤ 8 := by (rw [numB_length]; omega)
 clear h
 (try clear cc)
 go_wp2_with (at_builtin; refine wpList_ob rfl (.tmp 12) (.tmp 15) 36 36 rfl 5 _ (.int .u8 0) Tryz.underlying36 rfl rfl rfl rfl (by decide) OC.out rfl _ _ (byC (numB (tw64 k.t.cell) 8)) rfl (src_own Tryz.underlying36 oc (one_ints .u8 _)) (by have := S3.out.m; rw [byC_length, byC_length]; omega) (by omega) ?_)
 intro r4 w4 o1 g1 p1
 have S4 := Lib.hid (S3.out.put HC.out o1 g1 hX)
 clear oc o1 g1 p1 OC HC S3 zs zt hX
 have cc := S4.out.q.c.c 2 _ rfl
 go_wp2_with fail
 refine (X2.out _).mono ?_
 rintro e wc ⟨⟨vc, rfl, oc⟩, h⟩
 have OC := Lib.hid (S4.out.o.below h)
 have HC := Lib.hid h
 have zs := S4.out.s
 have zt := h.size
 have hX : (u16B k.t.cols).length ≤ 2 := by (rw [u16_len]; omega)
 clear h
 (try clear cc)
 go_wp2_with (at_builtin; refine wpList_ob rfl (.tmp 17) (.tmp 20) 36 36 rfl 5 _ (.int .u8 0) Tryz.underlying36 rfl rfl rfl rfl (by decide) OC.out rfl _ _ (byC (u16B k.t.cols)) rfl (src_own Tryz.underlying36 oc (one_ints .u8 _)) (by have := S4.out.m; rw [byC_length, byC_length]; omega) (by omega) ?_)
 intro r5 w5 o1 g1 p1
 have S5 := Lib.hid (S4.out.put HC.out o1 g1 hX)
 clear oc o1 g1 p1 OC HC S4 zs zt hX
 have cc := S5.out.q.c.c 3 _ rfl
 go_wp2_with fail
 refine (X3.out _).mono ?_
 rintro e wc ⟨⟨vc, rfl, oc⟩, h⟩
 have OC := Lib.hid (S5.out.o.below h)
 have HC := Lib.hid h
 have zs := S5.out.s
 have zt := h.size
 have hX : (u16B k.t.rows).length ≤ 2 := by (rw [u16_len]; omega)
 clear h
 (try clear cc)
 go_wp2_with (at_builtin; refine wpList_ob rfl (.tmp 22) (.tmp 25) 36 36 rfl 5 _ (.int .u8 0) Tryz.underlying36 rfl rfl rfl rfl (by decide) OC.out rfl _ _ (byC (u16B k.t.rows)) rfl (src_own Tryz.underlying36 oc (one_ints .u8 _)) (by have := S5.out.m; rw [byC_length, byC_length]; omega) (by omega) ?_)
 intro r6 w6 o1 g1 p1
 have S6 := Lib.hid (S5.out.put HC.out o1 g1 hX)
 clear oc o1 g1 p1 OC HC S5 zs zt hX
 have c5 := S6.out.q.c.c 5 _ rfl
 have cc := S6.out.q.c.c 4 _ rfl
 go_wp2_with fail
 refine (X4.out _).mono ?_
 rintro e wc ⟨⟨vc, rfl, oc⟩, h⟩
 have OC := Lib.hid (S6.out.o.below h)
 have HC := Lib.hid h
 have zs := S6.out.s
 have zt := h.size
 have hX : (placeC.wr (k.t.cx, k.t.cy)).length ≤ 16 := by (rw [place_len]; omega)
 clear h
 (try clear cc)
 go_wp2_with (at_builtin; refine wpList_ob rfl (.tmp 27) (.tmp 30) 36 36 rfl 5 _ (.int .u8 0) Tryz.underlying36 rfl rfl rfl rfl (by decide) OC.out rfl _ _ (byC (placeC.wr (k.t.cx, k.t.cy))) rfl (src_own Tryz.underlying36 oc (one_ints .u8 _)) (by have := S6.out.m; rw [byC_length, byC_length]; omega) (by omega) ?_)
 intro r7 w7 o1 g1 p1
 have S7 := Lib.hid (S6.out.put HC.out o1 g1 hX)
 clear oc o1 g1 p1 OC HC S6 zs zt hX
 clear c5 X1 X2 X3 X4
 have S8 := Lib.hid (S7.out.as (L' := gnd0 d ++ wrH d 0) (b' := 34 + 0 * 8) (by rw [EV.out]; unfold wrH; rw [List.take_zero, List.flatMap_nil, List.append_nil]) (by omega))
 clear S7 EV
 go_wp2
 go_loopw [3, 4] (fun v i wr => ∃ j : Nat, j ≤ k.t.H.n ∧ i = .int .i64 j ∧ EnS w wr B k v (gnd0 d ++ wrH d j) (34 + j * 8)) (fun _ i _ => k.t.H.n - (intOf i).toNat)
 case atStart => exact ⟨0, by omega, rfl, S8.out⟩
 case round =>
  obtain ⟨j, hj, rfl, hS⟩ := hrel
  have S9 := Lib.hid hS
  clear hS S8
  have c6 := S9.out.q.c.c 6 _ rfl
  by_cases hlt : j < k.t.H.n
  ·obtain ⟨b, off, ha, hb, hcell⟩ := S9.out.q.t.T.H.at' (by omega)
   rw [ha] at c6
   have d0 := hcell j hlt
   have z0 : (0 : Int) ≤ (j : Int) := by omega
   have z1 : (j : Int) < (k.t.H.n : Int) := by omega
   have hw := bounds_i64 (S9.out.q.t.T.H.wf j hlt)
   have FM := Lib.hid (show wrH d (j + 1) = wrH d j ++ numB (tw64 (k.t.H.v j)) 8 by
    have e : k.t.H.v j = d.H.getD j 0 := by rw [← HK.out]; rfl
    unfold wrH
    rw [e, fm_succ numC.wr d.H 0 (by have := E6.out; omega)]
    rfl)
   have hj3 : j ≤ 1200 := by have := E6.out; omega
   clear ha hb hcell
   go_wp2_with fail
   refine (rwNum_any (k.t.H.v j) _ hw.1 hw.2).mono ?_
   rintro e wc ⟨⟨vc, rfl, oc⟩, h⟩
   clear hw d0 c6
   have OC := Lib.hid (S9.out.o.below h)
   have HC := Lib.hid h
   have zs := S9.out.s
   have zt := h.size
   have hX : (numB (tw64 (k.t.H.v j)) 8).length ≤ 8 := by (rw [numB_length]; omega)
   clear h
   (try clear cc)
   go_wp2_with (at_builtin; refine wpList_ob rfl (.tmp 39) (.tmp 45) 36 36 rfl 5 _ (.int .u8 0) Tryz.underlying36 rfl rfl rfl rfl (by decide) OC.out rfl _ _ (byC (numB (tw64 (k.t.H.v j)) 8)) rfl (src_own Tryz.underlying36 oc (one_ints .u8 _)) (by have := S9.out.m; rw [byC_length, byC_length]; omega) (by omega) ?_)
   intro r10 w10 o1 g1 p1
   have S10 := Lib.hid (S9.out.put HC.out o1 g1 hX)
   clear oc o1 g1 p1 OC HC S9 zs zt hX
   have S11 := Lib.hid (S10.out.as (L' := gnd0 d ++ wrH d (j + 1)) (b' := 34 + (j + 1) * 8) (by rw [FM.out, List.append_assoc]) (by omega))
   clear S10 FM
   go_wp2
   go_roundw
   case rel => exact ⟨j + 1, by omega, by go_num, S11.out⟩
   case measure => simp [intOf]; omega
  ·have z1 : ¬ (j : Int) < (k.t.H.n : Int) := by omega
   have S10 := Lib.hid (S9.out.as (L' := gnd1 d ++ wrG d 0) (b' := 10000 + 0 * 2) (by
    have e : j = d.H.length := by have := E6.out; omega
    unfold gnd1 wrH wrG
    rw [e, List.take_of_length_le (Nat.le_refl _), List.take_zero, List.flatMap_nil, List.append_nil]) (by have := E6.out; omega))
   clear S9
   go_wp2
   clear c6 z1 hlt hj
   go_loopw [3, 5] (fun v i wr => ∃ j : Nat, j ≤ k.t.G.n ∧ i = .int .i64 j ∧ EnS w wr B k v (gnd1 d ++ wrG d j) (10000 + j * 2)) (fun _ i _ => k.t.G.n - (intOf i).toNat)
   case atStart => exact ⟨0, by omega, rfl, S10.out⟩
   case round =>
    obtain ⟨j, hj, rfl, hS⟩ := hrel
    have S9 := Lib.hid hS
    clear hS S10
    have c7 := S9.out.q.c.c 7 _ rfl
    by_cases hlt : j < k.t.G.n
    ·obtain ⟨b, off, ha, hb, hcell⟩ := S9.out.q.t.T.G.at' (by omega)
     rw [ha] at c7
     have d0 := hcell j hlt
     have z0 : (0 : Int) ≤ (j : Int) := by omega
     have z1 : (j : Int) < (k.t.G.n : Int) := by omega
     have hw := bounds_i64 (S9.out.q.t.T.G.wf j hlt)
     have FM := Lib.hid (show wrG d (j + 1) = wrG d j ++ u16B (k.t.G.v j) by
      have e : k.t.G.v j = d.G.getD j 0 := by rw [← HK.out]; rfl
      unfold wrG
      rw [e, fm_succ u16B d.G 0 (by have := E7.out; omega)])
     have hj3 : j ≤ 1000 := by have := E7.out; omega
     clear ha hb hcell
     go_wp2_with fail
     refine (rwCount_any (k.t.G.v j) _ hw.1 hw.2).mono ?_
     rintro e wc ⟨⟨vc, rfl, oc⟩, h⟩
     clear hw d0 c7
     have OC := Lib.hid (S9.out.o.below h)
     have HC := Lib.hid h
     have zs := S9.out.s
     have zt := h.size
     have hX : (u16B (k.t.G.v j)).length ≤ 2 := by (rw [u16_len]; omega)
     clear h
     (try clear cc)
     go_wp2_with (at_builtin; refine wpList_ob rfl (.tmp 54) (.tmp 60) 36 36 rfl 5 _ (.int .u8 0) Tryz.underlying36 rfl rfl rfl rfl (by decide) OC.out rfl _ _ (byC (u16B (k.t.G.v j))) rfl (src_own Tryz.underlying36 oc (one_ints .u8 _)) (by have := S9.out.m; rw [byC_length, byC_length]; omega) (by omega) ?_)
     intro r10 w10 o1 g1 p1
     have S10 := Lib.hid (S9.out.put HC.out o1 g1 hX)
     clear oc o1 g1 p1 OC HC S9 zs zt hX
     have S11 := Lib.hid (S10.out.as (L' := gnd1 d ++ wrG d (j + 1)) (b' := 10000 + (j + 1) * 2) (by rw [FM.out, List.append_assoc]) (by omega))
     clear S10 FM
     go_wp2
     go_roundw
     case rel => exact ⟨j + 1, by omega, by go_num, S11.out⟩
     case measure => simp [intOf]; omega
    ·have z1 : ¬ (j : Int) < (k.t.G.n : Int) := by omega
     have S11 := Lib.hid (S9.out.as (L' := gnd1 d ++ d.G.flatMap u16B) (b' := 12000) (by
      have e : j = d.G.length := by have := E7.out; omega
      unfold wrG
      rw [e, List.take_of_length_le (Nat.le_refl _)]) (by have := E7.out; omega))
     clear S9
     have f3' : k.t.kn ≤ 20 := by have := E8.out; omega
     have cc := S11.out.q.c.c 8 _ rfl
     go_wp2_with fail
     refine (rwCount_any (k.t.kn : Int) _ (by omega) (by omega)).mono ?_
     rintro e wc ⟨⟨vc, rfl, oc⟩, h⟩
     have OC := Lib.hid (S11.out.o.below h)
     have HC := Lib.hid h
     have zs := S11.out.s
     have zt := h.size
     have hX : (u16B (k.t.kn : Int)).length ≤ 2 := by (rw [u16_len]; omega)
     clear h
     (try clear cc)
     go_wp2_with (at_builtin; refine wpList_ob rfl (.tmp 62) (.tmp 66) 36 36 rfl 5 _ (.int .u8 0) Tryz.underlying36 rfl rfl rfl rfl (by decide) OC.out rfl _ _ (byC (u16B (k.t.kn : Int))) rfl (src_own Tryz.underlying36 oc (one_ints .u8 _)) (by have := S11.out.m; rw [byC_length, byC_length]; omega) (by omega) ?_)
     intro r12 w12 o1 g1 p1
     have S12 := Lib.hid (S11.out.put HC.out o1 g1 hX)
     clear oc o1 g1 p1 OC HC S11 zs zt hX
     have S13 := Lib.hid (S12.out.as (L' := gnd2 d ++ wrK d 0) (b' := 12002 + 0 * 17) (by rw [← E8.out]; unfold wrK gnd2; rw [List.take_zero, List.flatMap_nil, List.append_nil]) (by omega))
     clear S12
     go_wp2
     clear c7 z1 hlt hj
     go_loopw [3, 6] (fun v i wr => ∃ j : Nat, j ≤ k.t.kn ∧ i = .int .i64 j ∧ EnS w wr B k v (gnd2 d ++ wrK d j) (12002 + j * 17)) (fun _ i _ => k.t.kn - (intOf i).toNat)
     case atStart => exact ⟨0, by omega, rfl, S13.out⟩
     case round =>
      obtain ⟨j, hj, rfl, hS⟩ := hrel
      have S9 := Lib.hid hS
      clear hS S13
      have c8 := S9.out.q.c.c 8 _ rfl
      by_cases hlt : j < k.t.kn
      ·have KC := Lib.hid (fun (W : World) (Q : PK w W B w.heap.size k) => Q.t.T.k (show 0 < k.t.kn by omega))
       obtain ⟨b, off, ha, hb, hcell⟩ := KC.out _ S9.out.q
       have HA := Lib.hid ha
       have CL := Lib.hid (fun (W : World) (Q : PK w W B w.heap.size k) => show W.cell? ⟨b, off + j * 3, none⟩ = some (.int .i64 (k.t.kg j)) ∧ W.cell? ⟨b, off + j * 3 + 1, none⟩ = some (.int .i64 (k.t.kd j)) ∧ W.cell? ⟨b, off + j * 3 + 2, none⟩ = some (.bool (k.t.ko j)) by
        obtain ⟨b', off', ha', -, hc⟩ := KC.out W Q
        rw [HA.out] at ha'
        cases ha'
        exact hc j hlt)
       rw [ha] at c8
       obtain ⟨d0, d1, d2⟩ := CL.out _ S9.out.q
       have z0 : (0 : Int) ≤ (j : Int) := by omega
       have z1 : (j : Int) < (k.t.kn : Int) := by omega
       obtain ⟨hw, hv⟩ := S9.out.q.t.T.kw j hlt
       have FM := Lib.hid (show wrK d (j + 1) = wrK d j ++ (numB (tw64 (k.t.kg j)) 8 ++ (numB (tw64 (k.t.kd j)) 8 ++ flagB (k.t.ko j))) by
        have e : (k.t.kg j, k.t.kd j, k.t.ko j) = d.K.getD j (0, 0, false) := by rw [← HK.out]; rfl
        unfold wrK
        rw [fm_succ kindC.wr d.K (0, 0, false) (by have := E8.out; omega), ← e]
        rfl)
       have hj3 : j ≤ 20 := by omega
       clear ha hb hcell
       go_wp2_with fail
       refine (rwNum_any (k.t.kg j) _ hw.1 hw.2).mono ?_
       rintro e wc ⟨⟨vc, rfl, oc⟩, h⟩
       clear d0 d1 d2 c8
       have OC := Lib.hid (S9.out.o.below h)
       have HC := Lib.hid h
       have zs := S9.out.s
       have zt := h.size
       have hX : (numB (tw64 (k.t.kg j)) 8).length ≤ 8 := by (rw [numB_length]; omega)
       clear h
       (try clear cc)
       go_wp2_with (at_builtin; refine wpList_ob rfl (.tmp 75) (.tmp 82) 36 36 rfl 5 _ (.int .u8 0) Tryz.underlying36 rfl rfl rfl rfl (by decide) OC.out rfl _ _ (byC (numB (tw64 (k.t.kg j)) 8)) rfl (src_own Tryz.underlying36 oc (one_ints .u8 _)) (by have := S9.out.m; rw [byC_length, byC_length]; omega) (by omega) ?_)
       intro r10 w10 o1 g1 p1
       have S10 := Lib.hid (S9.out.put HC.out o1 g1 hX)
       clear oc o1 g1 p1 OC HC S9 zs zt hX
       replace S10 := Lib.hid (S10.out.as (L' := gnd2 d ++ (wrK d j ++ numB (tw64 (k.t.kg j)) 8)) (by rw [List.append_assoc]) (Nat.le_refl _))
       obtain ⟨d0, d1, d2⟩ := CL.out _ S10.out.q
       have c8 := S10.out.q.c.c 8 _ rfl
       rw [HA.out] at c8
       go_wp2_with fail
       refine (rwNum_any (k.t.kd j) _ hv.1 hv.2).mono ?_
       rintro e wc ⟨⟨vc, rfl, oc⟩, h⟩
       clear d0 d1 d2 c8
       have OC := Lib.hid (S10.out.o.below h)
       have HC := Lib.hid h
       have zs := S10.out.s
       have zt := h.size
       have hX : (numB (tw64 (k.t.kd j)) 8).length ≤ 8 := by (rw [numB_length]; omega)
       clear h
       (try clear cc)
       go_wp2_with (at_builtin; refine wpList_ob rfl (.tmp 84) (.tmp 91) 36 36 rfl 5 _ (.int .u8 0) Tryz.underlying36 rfl rfl rfl rfl (by decide) OC.out rfl _ _ (byC (numB (tw64 (k.t.kd j)) 8)) rfl (src_own Tryz.underlying36 oc (one_ints .u8 _)) (by have := S10.out.m; rw [byC_length, byC_length]; omega) (by omega) ?_)
       intro r11 w11 o1 g1 p1
       have S11 := Lib.hid (S10.out.put HC.out o1 g1 hX)
       clear oc o1 g1 p1 OC HC S10 zs zt hX
       replace S11 := Lib.hid (S11.out.as (L' := gnd2 d ++ (wrK d j ++ (numB (tw64 (k.t.kg j)) 8 ++ numB (tw64 (k.t.kd j)) 8))) (by simp only [List.append_assoc]) (Nat.le_refl _))
       obtain ⟨d0, d1, d2⟩ := CL.out _ S11.out.q
       have c8 := S11.out.q.c.c 8 _ rfl
       rw [HA.out] at c8
       go_wp2_with fail
       refine (rwFlag_any (k.t.ko j) _).mono ?_
       rintro e wc ⟨⟨vc, rfl, oc⟩, h⟩
       clear d0 d1 d2 c8
       have OC := Lib.hid (S11.out.o.below h)
       have HC := Lib.hid h
       have zs := S11.out.s
       have zt := h.size
       have hX : (flagB (k.t.ko j)).length ≤ 1 := by exact Nat.le_refl 1
       clear h
       (try clear cc)
       go_wp2_with (at_builtin; refine wpList_ob rfl (.tmp 93) (.tmp 100) 36 36 rfl 5 _ (.int .u8 0) Tryz.underlying36 rfl rfl rfl rfl (by decide) OC.out rfl _ _ (byC (flagB (k.t.ko j))) rfl (src_own Tryz.underlying36 oc (one_ints .u8 _)) (by have := S11.out.m; rw [byC_length, byC_length]; omega) (by omega) ?_)
       intro r12 w12 o1 g1 p1
       have S12 := Lib.hid (S11.out.put HC.out o1 g1 hX)
       clear oc o1 g1 p1 OC HC S11 zs zt hX
       have S14 := Lib.hid (S12.out.as (L' := gnd2 d ++ wrK d (j + 1)) (b' := 12002 + (j + 1) * 17) (by rw [FM.out]; simp only [List.append_assoc]) (by omega))
       clear S12 FM CL KC
       go_wp2
       go_roundw
       case rel => exact ⟨j + 1, by omega, by go_num, S14.out⟩
       case measure => simp [intOf]; omega
      ·have z1 : ¬ (j : Int) < (k.t.kn : Int) := by omega
       have S14 := Lib.hid (S9.out.as (L' := gnd3 d) (b' := 20000) (by
        have e : j = d.K.length := by have := E8.out; omega
        unfold gnd3 wrK
        rw [e, List.take_of_length_le (Nat.le_refl _)]) (by omega))
       go_wp2
       go_ret
       exact ⟨⟨_, rfl, S14.out.o.mono (by omega)⟩, S14.out.q.l⟩
end Go.Proofs.YtmdjnamkbekjkaaGreatDoor
