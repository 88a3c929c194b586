/- -/
import Derived.Test.YtmdjnamkbekjkaaGreatDoorD4
namespace Go.Proofs.YtmdjnamkbekjkaaGreatDoor
open Go.RowKit
set_option linter.unusedVariables false
set_option linter.unusedSimpArgs false
abbrev dcL (rate cell cols rows x y : Int) (vh vg vk vl vr vt : Value) (sx sy head laps : Int) : List Value := [.int .i64 rate, .int .i64 cell, .int .i64 cols, .int .i64 rows, .int .i64 x, .int .i64 y, vh, vg, vk, vl, vr, vt, .int .i64 sx, .int .i64 sy, .int .u32 head, .int .i64 laps]
theorem RdD.rails {w W : World} {a : Option Addr} {n c : Nat} {l : List Int} {s : IS} {rb nb tb N : Nat} {R L : List Value} {F : World → Prop} {v : Value} {e : TypeId} {r : Nat → Option Addr × Nat} {ys : List (List (Int × Int))} (S : RdD w W a n c l s rb nb tb N R L F) (O : W.ownsRow N e 1 v ys.length (rvV r ys)) (P : RailP N v r ys W) : RdD w W a n c l s rb nb tb W.heap.size R L (fun W' => F W' ∧ RlF N W.heap.size v r ys W') := by
 have ht := S.zt
 exact ⟨S.i, S.r, S.t, S.g, ⟨ht.1, ⟨ht.2.1.1, by omega⟩, Nat.le_refl _⟩, S.b, ⟨S.f, lies_owned O, fun k hk => by
  obtain ⟨b1, b2⟩ := P k hk
  refine ⟨b1, fun h0 => ?_⟩
  obtain ⟨g, e, l1, l2, -, hc⟩ := b2 h0
  exact ⟨g, e, l1, l2, hc⟩⟩, (S.st.mono ht.2.2).and ((RlF.stab _ _ _ _ _).ah (by omega) (Nat.le_refl _) (Or.inr (by omega)))⟩
structure G2 (W : World) (m1 m2 : Nat) (ax ay bx by' : Int) : Prop where
 u : BW W m1 [.int .i64 ax, .int .i64 ay]
 v : BW W m2 [.int .i64 bx, .int .i64 by']
theorem G2.grown {W W' : World} {m1 m2 : Nat} {ax ay bx by' : Int} {row : Option Nat} (G : G2 W m1 m2 ax ay bx by') (g : W.grownBy W' row) (h1 : some m1 ≠ row) (h2 : some m2 ≠ row) : G2 W' m1 m2 ax ay bx by' := ⟨G.u.grown g h1, G.v.grown g h2⟩
theorem G2.held {W : World} {m1 m2 : Nat} {ax ay bx by' : Int} (G : G2 W m1 m2 ax ay bx by') : (W.cell? ⟨m1, 0, none⟩ = some (.int .i64 ax) ∧ W.cell? ⟨m1, 1, none⟩ = some (.int .i64 ay)) ∧ (W.cell? ⟨m2, 0, none⟩ = some (.int .i64 bx) ∧ W.cell? ⟨m2, 1, none⟩ = some (.int .i64 by')) := ⟨⟨G.u.c 0 _ rfl, G.u.c 1 _ rfl⟩, G.v.c 0 _ rfl, G.v.c 1 _ rfl⟩
theorem gateInfo : (Tryz.prog.info? 59).map (fun i => (i.zero, i.size, i.bytes)) = some (some (.agg #[.int .i64 0, .int .i64 0, .int .i64 0, .int .i64 0, .bool false]), 5, 40) := by kernel_rfl
theorem RdD.fin {w W : World} {a : Option Addr} {n c : Nat} {l : List Int} {s : IS} {rb nb tb N : Nat} {R L : List Value} {F : World → Prop} (S : RdD w W a n c l s rb nb tb N R L F) (v0 v1 v2 v3 v4 v5 v6 v7 v8 v9 v10 v11 v12 v13 v14 v15 : Value) :
  Below w.heap.size w ((((((((((((((((W.setCell ⟨rb, 0, none⟩ v0).setCell ⟨rb, 1, none⟩ v1).setCell ⟨rb, 2, none⟩ v2).setCell ⟨rb, 3, none⟩ v3).setCell ⟨rb, 4, none⟩ v4).setCell ⟨rb, 5, none⟩ v5).setCell ⟨rb, 6, none⟩ v6).setCell ⟨rb, 7, none⟩ v7).setCell ⟨rb, 8, none⟩ v8).setCell ⟨rb, 9, none⟩ v9).setCell ⟨rb, 10, none⟩ v10).setCell ⟨rb, 11, none⟩ v11).setCell ⟨rb, 12, none⟩ v12).setCell ⟨rb, 13, none⟩ v13).setCell ⟨rb, 14, none⟩ v14).setCell ⟨rb, 15, none⟩ v15) ∧ F ((((((((((((((((W.setCell ⟨rb, 0, none⟩ v0).setCell ⟨rb, 1, none⟩ v1).setCell ⟨rb, 2, none⟩ v2).setCell ⟨rb, 3, none⟩ v3).setCell ⟨rb, 4, none⟩ v4).setCell ⟨rb, 5, none⟩ v5).setCell ⟨rb, 6, none⟩ v6).setCell ⟨rb, 7, none⟩ v7).setCell ⟨rb, 8, none⟩ v8).setCell ⟨rb, 9, none⟩ v9).setCell ⟨rb, 10, none⟩ v10).setCell ⟨rb, 11, none⟩ v11).setCell ⟨rb, 12, none⟩ v12).setCell ⟨rb, 13, none⟩ v13).setCell ⟨rb, 14, none⟩ v14).setCell ⟨rb, 15, none⟩ v15) ∧ W.heap.size ≤ (((((((((((((((((W.setCell ⟨rb, 0, none⟩ v0).setCell ⟨rb, 1, none⟩ v1).setCell ⟨rb, 2, none⟩ v2).setCell ⟨rb, 3, none⟩ v3).setCell ⟨rb, 4, none⟩ v4).setCell ⟨rb, 5, none⟩ v5).setCell ⟨rb, 6, none⟩ v6).setCell ⟨rb, 7, none⟩ v7).setCell ⟨rb, 8, none⟩ v8).setCell ⟨rb, 9, none⟩ v9).setCell ⟨rb, 10, none⟩ v10).setCell ⟨rb, 11, none⟩ v11).setCell ⟨rb, 12, none⟩ v12).setCell ⟨rb, 13, none⟩ v13).setCell ⟨rb, 14, none⟩ v14).setCell ⟨rb, 15, none⟩ v15)).heap.size := by
 have G : W.grownBy ((((((((((((((((W.setCell ⟨rb, 0, none⟩ v0).setCell ⟨rb, 1, none⟩ v1).setCell ⟨rb, 2, none⟩ v2).setCell ⟨rb, 3, none⟩ v3).setCell ⟨rb, 4, none⟩ v4).setCell ⟨rb, 5, none⟩ v5).setCell ⟨rb, 6, none⟩ v6).setCell ⟨rb, 7, none⟩ v7).setCell ⟨rb, 8, none⟩ v8).setCell ⟨rb, 9, none⟩ v9).setCell ⟨rb, 10, none⟩ v10).setCell ⟨rb, 11, none⟩ v11).setCell ⟨rb, 12, none⟩ v12).setCell ⟨rb, 13, none⟩ v13).setCell ⟨rb, 14, none⟩ v14).setCell ⟨rb, 15, none⟩ v15) (some rb) := ((((((((((((((((grown_cell W rb 0 v0).trans (grown_cell _ rb 1 v1)).trans (grown_cell _ rb 2 v2)).trans (grown_cell _ rb 3 v3)).trans (grown_cell _ rb 4 v4)).trans (grown_cell _ rb 5 v5)).trans (grown_cell _ rb 6 v6)).trans (grown_cell _ rb 7 v7)).trans (grown_cell _ rb 8 v8)).trans (grown_cell _ rb 9 v9)).trans (grown_cell _ rb 10 v10)).trans (grown_cell _ rb 11 v11)).trans (grown_cell _ rb 12 v12)).trans (grown_cell _ rb 13 v13)).trans (grown_cell _ rb 14 v14)).trans (grown_cell _ rb 15 v15))
 have ht := S.zt
 exact ⟨S.g.grown G S.g.size (fun k e => by injection e with e; omega), S.st _ _ S.f G.size (fun j h1 h2 h3 => G.block j (by omega) (fun q => by injection q with q; omega)), G.size⟩
theorem decp_err {l : List Int} {W : World} (h : (decS l).err ≠ 0) : DecP l (.returned (.tuple #[.agg (tdL noAd zTD).toArray, .int .i64 (decS l).err, .int .i64 (decS l).place])) W := by
 unfold DecP
 rw [show decD l = zTD from if_pos (Or.inl h), show decE l = (decS l).err from if_pos h, show decA l = (decS l).place from if_pos h]
 exact ⟨noAd, rfl, ztd_m _ _⟩
theorem decp_bad {l : List Int} {W : World} (h : (decS l).err = 0) (g : decG l ≠ 0) : DecP l (.returned (.tuple #[.agg (tdL noAd zTD).toArray, .int .i64 (decG l), .int .i64 l.length])) W := by
 unfold DecP
 rw [show decD l = zTD from if_pos (Or.inr g), show decE l = decG l from if_neg (fun k => k h), show decA l = l.length from (if_neg (fun k => k h)).trans (if_pos g)]
 exact ⟨noAd, rfl, ztd_m _ _⟩
theorem decp_good {l : List Int} {W : World} {ad : TAd} (h : (decS l).err = 0) (g : decG l = 0) (K : TkM W.heap.size W (tkA ad (decR l).1)) : DecP l (.returned (.tuple #[.agg (tdL ad (decR l).1).toArray, .int .i64 0, .int .i64 0])) W := by
 unfold DecP
 rw [show decD l = (decR l).1 from if_neg (fun k => k.elim (fun a => a h) (fun b => b g)), show decE l = 0 from (if_neg (fun k => k h)).trans g, show decA l = 0 from (if_neg (fun k => k h)).trans (if_neg (fun k => k g))]
 exact ⟨ad, rfl, K⟩
def fstR : Code → Option Nat
 | .region k _ _ => some k
 | .seq a _ => fstR a
 | _ => none
def atR (n : Nat) : Code → Option Code
 | .seq a b => if fstR a = some n then some (.seq a b) else match atR n a with
  | some c => some c
  | none => atR n b
 | .loop c => atR n c
 | .block _ c => atR n c
 | .scope c => atR n c
 | _ => none
noncomputable def dcT : Code := ((Tryz.f12.body.bind (atR 23)).getD .skip)
abbrev dcA (a : Option Addr) (c : Nat) (l : List Int) (w : World) (tb : Nat) (c1 c3 c4 c7 c8 c9 c10 c11 c12 c15 c16 c17 c18 c19 c20 c21 c22 c23 c24 c25 c26 c27 c28 c29 c30 c31 c32 c33 c34 c35 c36 c37 c38 c39 c40 c41 c42 c43 c44 c45 c46 c47 c48 c49 c50 c51 c52 c53 c54 c55 c56 c57 c58 c59 c60 c61 c62 c63 c64 c65 c66 c67 c68 c69 c70 c71 c72 c73 c74 c75 c76 c77 c78 c79 c80 c81 c82 c83 c84 c85 c86 c87 c88 c89 c90 c91 c92 c93 c94 c95 c96 c97 c98 c99 c100 c101 c102 c103 c104 c105 c106 c107 c108 c109 c110 c111 c112 : Value) : Act := ⟨#[.slice a l.length c, c1, .pointer (some ⟨w.heap.size, 0, none⟩), c3, c4, .pointer (some ⟨w.heap.size + 1, 0, none⟩), .pointer (some ⟨tb, 0, none⟩), c7, c8, c9, c10, c11, c12, .int .i64 (decS l).err, .int .i64 (decS l).place, c15, c16, c17, c18, c19, c20, c21, c22, c23, c24, c25, c26, c27, c28, c29, c30, c31, c32, c33, c34, c35, c36, c37, c38, c39, c40, c41, c42, c43, c44, c45, c46, c47, c48, c49, c50, c51, c52, c53, c54, c55, c56, c57, c58, c59, c60, c61, c62, c63, c64, c65, c66, c67, c68, c69, c70, c71, c72, c73, c74, c75, c76, c77, c78, c79, c80, c81, c82, c83, c84, c85, c86, c87, c88, c89, c90, c91, c92, c93, c94, c95, c96, c97, c98, c99, c100, c101, c102, c103, c104, c105, c106, c107, c108, c109, c110, c111, c112], []⟩
set_option maxRecDepth 100000 in
set_option maxHeartbeats 8000000 in
theorem dec_tail1 {a : Option Addr} {c tb N : Nat} {l : List Int} {s : IS} {w W : World} {L : List Value} {F : World → Prop} (S : RdD w W a l.length c l s w.heap.size (w.heap.size + 1) tb N (gdL 0 0 0 0 0 0 sl0 sl0 sl0) L F) (k : (decS l).err ≠ 0) (c1 c3 c4 c7 c8 c9 c10 c11 c12 c15 c16 c17 c18 c19 c20 c21 c22 c23 c24 c25 c26 c27 c28 c29 c30 c31 c32 c33 c34 c35 c36 c37 c38 c39 c40 c41 c42 c43 c44 c45 c46 c47 c48 c49 c50 c51 c52 c53 c54 c55 c56 c57 c58 c59 c60 c61 c62 c63 c64 c65 c66 c67 c68 c69 c70 c71 c72 c73 c74 c75 c76 c77 c78 c79 c80 c81 c82 c83 c84 c85 c86 c87 c88 c89 c90 c91 c92 c93 c94 c95 c96 c97 c98 c99 c100 c101 c102 c103 c104 c105 c106 c107 c108 c109 c110 c111 c112 : Value) :
  Code.wp Tryz.prog dcT (bodyPost Tryz.prog Tryz.f12 fun e w' => DecP l e w' ∧ Below w.heap.size w w') (dcA a c l w tb c1 c3 c4 c7 c8 c9 c10 c11 c12 c15 c16 c17 c18 c19 c20 c21 c22 c23 c24 c25 c26 c27 c28 c29 c30 c31 c32 c33 c34 c35 c36 c37 c38 c39 c40 c41 c42 c43 c44 c45 c46 c47 c48 c49 c50 c51 c52 c53 c54 c55 c56 c57 c58 c59 c60 c61 c62 c63 c64 c65 c66 c67 c68 c69 c70 c71 c72 c73 c74 c75 c76 c77 c78 c79 c80 c81 c82 c83 c84 c85 c86 c87 c88 c89 c90 c91 c92 c93 c94 c95 c96 c97 c98 c99 c100 c101 c102 c103 c104 c105 c106 c107 c108 c109 c110 c111 c112) W := by
 have SH := Lib.hid S
 have E1 := Lib.hid (fun (W : World) => decp_err (W := W) k)
 have kb : ((decS l).err == 0) = false := beq_false_of_ne k
 unfold dcA
 generalize (decS l).err = er at *
 generalize (decS l).place = pl at *
 clear S k
 conv => arg 2; whnf
 have r0 := SH.out.r.c 0 _ rfl
 have r1 := SH.out.r.c 1 _ rfl
 have r2 := SH.out.r.c 2 _ rfl
 have r3 := SH.out.r.c 3 _ rfl
 have r4 := SH.out.r.c 4 _ rfl
 have r5 := SH.out.r.c 5 _ rfl
 have r6 := SH.out.r.c 6 _ rfl
 have r7 := SH.out.r.c 7 _ rfl
 have r8 := SH.out.r.c 8 _ rfl
 have r9 := SH.out.r.c 9 _ rfl
 have r10 := SH.out.r.c 10 _ rfl
 have r11 := SH.out.r.c 11 _ rfl
 have r12 := SH.out.r.c 12 _ rfl
 have r13 := SH.out.r.c 13 _ rfl
 have r14 := SH.out.r.c 14 _ rfl
 have r15 := SH.out.r.c 15 _ rfl
 have rf := SH.out.r.f
 have rl := SH.out.r.lt
 go_wp2
 have FN := SH.out.fin (.int .i64 0) (.int .i64 0) (.int .i64 0) (.int .i64 0) (.int .i64 0) (.int .i64 0) (.slice none 0 0) (.slice none 0 0) (.slice none 0 0) (.slice none 0 0) (.slice none 0 0) (.slice none 0 0) (.int .i64 0) (.int .i64 0) (.int .u32 0) (.int .i64 0)
 exact bodyPost_ret (v := .tuple #[.agg #[.int .i64 0, .int .i64 0, .int .i64 0, .int .i64 0, .int .i64 0, .int .i64 0, .slice none 0 0, .slice none 0 0, .slice none 0 0, .slice none 0 0, .slice none 0 0, .slice none 0 0, .int .i64 0, .int .i64 0, .int .u32 0, .int .i64 0], .int .i64 er, .int .i64 pl]) (by simp [results, Tryz.results12, go_sem, r0, r1, r2, r3, r4, r5, r6, r7, r8, r9, r10, r11, r12, r13, r14, r15]) rfl ⟨E1.out _, FN.1⟩
set_option maxRecDepth 100000 in
set_option maxHeartbeats 8000000 in
theorem dec_tail2 {a ah ag ak al ar ag2 : Option Addr} {c ch cg ck cl cr cg2 tb M4 M5 M6 : Nat} {l : List Int} {s : IS} {w W : World} {rate cell cols rows px py sx sy hv laps : Int} {H G : List Int} {K : List (Int × Int × Bool)} {L : List (Int × Int)} {RR : List (List (Int × Int))} {TT : List ((Int × Int) × (Int × Int) × Bool)} {r : Nat → Option Addr × Nat}
  (S : RdD w W a l.length c l s w.heap.size (w.heap.size + 1) tb M6 (gdL 0 0 0 0 0 0 sl0 sl0 sl0) (dcL rate cell cols rows px py (.slice ah H.length ch) (.slice ag G.length cg) (.slice ak K.length ck) (.slice al L.length cl) (.slice ar RR.length cr) (.slice ag2 TT.length cg2) sx sy hv laps) (fun W' => ((GdF (w.heap.size + 1) tb (.slice ah H.length ch) (.slice ag G.length cg) (.slice ak K.length ck) H G K W' ∧ Lies (tb + 1) M4 (.slice al L.length cl) L.length (ptV L) W') ∧ RlF M4 M5 (.slice ar RR.length cr) r RR W') ∧ Lies M5 M6 (.slice ag2 TT.length cg2) TT.length (gtV TT) W'))
  (hu : ∀ x ∈ l, 0 ≤ x ∧ x ≤ 255) (hd : (decR l).1 = (⟨rate, cell, cols, rows, (px, py), H, G, K, L, RR, TT, (sx, sy), hv, laps⟩ : TD)) (zM : tb ≤ M6 ∧ M4 ≤ M6 ∧ M5 ≤ M6) (he : (decS l).err = 0) (hg : decG l ≠ 0) (c1 c3 c4 c7 c8 c9 c10 c11 c12 c15 c16 c17 c18 c19 c20 c21 c22 c23 c24 c25 c26 c27 c28 c29 c30 c31 c32 c33 c34 c35 c36 c37 c38 c39 c40 c41 c42 c43 c44 c45 c46 c47 c48 c49 c50 c51 c52 c53 c54 c55 c56 c57 c58 c59 c60 c61 c62 c63 c64 c65 c66 c67 c68 c69 c70 c71 c72 c73 c74 c75 c76 c77 c78 c79 c80 c81 c82 c83 c84 c85 c86 c87 c88 c89 c90 c91 c92 c93 c94 c95 c96 c97 c98 c99 c100 c101 c102 c103 c104 c105 c106 c107 c108 c109 c110 c111 c112 : Value) :
  Code.wp Tryz.prog dcT (bodyPost Tryz.prog Tryz.f12 fun e w' => DecP l e w' ∧ Below w.heap.size w w') (dcA a c l w tb c1 c3 c4 c7 c8 c9 c10 c11 c12 c15 c16 c17 c18 c19 c20 c21 c22 c23 c24 c25 c26 c27 c28 c29 c30 c31 c32 c33 c34 c35 c36 c37 c38 c39 c40 c41 c42 c43 c44 c45 c46 c47 c48 c49 c50 c51 c52 c53 c54 c55 c56 c57 c58 c59 c60 c61 c62 c63 c64 c65 c66 c67 c68 c69 c70 c71 c72 c73 c74 c75 c76 c77 c78 c79 c80 c81 c82 c83 c84 c85 c86 c87 c88 c89 c90 c91 c92 c93 c94 c95 c96 c97 c98 c99 c100 c101 c102 c103 c104 c105 c106 c107 c108 c109 c110 c111 c112) W := by
 have SH := Lib.hid S
 have OK := ok_all (dec_ok hu he).1
 rw [hd] at OK
 have AF := Lib.hid (fun (V : World) (f : (fun W' => ((GdF (w.heap.size + 1) tb (.slice ah H.length ch) (.slice ag G.length cg) (.slice ak K.length ck) H G K W' ∧ Lies (tb + 1) M4 (.slice al L.length cl) L.length (ptV L) W') ∧ RlF M4 M5 (.slice ar RR.length cr) r RR W') ∧ Lies M5 M6 (.slice ag2 TT.length cg2) TT.length (gtV TT) W') V) (z : M6 ≤ V.heap.size) => tk_read (ad := (⟨(ah, ch), (ag, cg), (ak, ck), (al, cl), (ar, cr), (ag2, cg2), r⟩ : TAd)) (B := V.heap.size) OK (show AlF (w.heap.size + 1) tb M4 M5 M6 _ _ V from f) (by omega) (by omega) (by omega) z)
 obtain ⟨x2, hx2⟩ : ∃ x, (rgtK (tkA (⟨(ah, ch), (ag, cg), (ak, ck), (al, cl), (ar, cr), (ag2, cg2), r⟩ : TAd) (⟨rate, cell, cols, rows, (px, py), H, G, K, L, RR, TT, (sx, sy), hv, laps⟩ : TD))).2 = x := ⟨_, rfl⟩
 have RG := show (rgtK (tkA (⟨(ah, ch), (ag, cg), (ak, ck), (al, cl), (ar, cr), (ag2, cg2), r⟩ : TAd) (⟨rate, cell, cols, rows, (px, py), H, G, K, L, RR, TT, (sx, sy), hv, laps⟩ : TD))).1 = decG l by unfold decG; rw [hd, rgt_ad]
 have RK := Lib.hid (show Calls Tryz.prog 18 #[.agg #[.int .i64 rate, .int .i64 cell, .int .i64 cols, .int .i64 rows, .int .i64 px, .int .i64 py, .slice ah H.length ch, .slice ag G.length cg, .slice ak K.length ck, .slice al L.length cl, .slice ar RR.length cr, .slice ag2 TT.length cg2, .int .i64 sx, .int .i64 sy, .int .u32 hv, .int .i64 laps]] W fun e w' => e = .returned (.tuple #[.int .i64 (decG l), .int .i64 x2]) ∧ Below W.heap.size W w' from by
  obtain ⟨k1, k2⟩ := AF.out W S.f S.zt.2.2
  have := rKRight_any _ W.heap.size W (Nat.le_refl _) k2 k1
  rw [RG, hx2] at this
  exact this)
 have E2 := Lib.hid (fun (g : decG l ≠ 0) (W : World) => decp_bad (W := W) he g)
 have E3 := Lib.hid (fun (g : decG l = 0) (W : World) (K' : TkM W.heap.size W (tkA (⟨(ah, ch), (ag, cg), (ak, ck), (al, cl), (ar, cr), (ag2, cg2), r⟩ : TAd) (⟨rate, cell, cols, rows, (px, py), H, G, K, L, RR, TT, (sx, sy), hv, laps⟩ : TD))) => by
  have := decp_good (W := W) (ad := (⟨(ah, ch), (ag, cg), (ak, ck), (al, cl), (ar, cr), (ag2, cg2), r⟩ : TAd)) he g (by rw [hd]; exact K')
  rw [hd] at this
  exact this)
 unfold dcA
 rw [he]
 generalize (decS l).place = pl at *
 clear hd OK hx2 RG hu he zM S
 conv => arg 2; whnf
 have t0 := SH.out.t.c 0 _ rfl
 have t1 := SH.out.t.c 1 _ rfl
 have t2 := SH.out.t.c 2 _ rfl
 have t3 := SH.out.t.c 3 _ rfl
 have t4 := SH.out.t.c 4 _ rfl
 have t5 := SH.out.t.c 5 _ rfl
 have t6 := SH.out.t.c 6 _ rfl
 have t7 := SH.out.t.c 7 _ rfl
 have t8 := SH.out.t.c 8 _ rfl
 have t9 := SH.out.t.c 9 _ rfl
 have t10 := SH.out.t.c 10 _ rfl
 have t11 := SH.out.t.c 11 _ rfl
 have t12 := SH.out.t.c 12 _ rfl
 have t13 := SH.out.t.c 13 _ rfl
 have t14 := SH.out.t.c 14 _ rfl
 have t15 := SH.out.t.c 15 _ rfl
 have tl := SH.out.t.lt
 go_wp2_with fail
 refine RK.out.mono ?_
 rintro e wf ⟨rfl, h⟩
 have SI := Lib.hid (SH.out.bl h)
 clear h SH RK t0 t1 t2 t3 t4 t5 t6 t7 t8 t9 t10 t11 t12 t13 t14 t15 tl
 have E1 := Lib.hid (E2.out hg)
 have kb : (decG l == 0) = false := beq_false_of_ne hg
 clear hg E2 E3 AF
 generalize decG l = er at *
 have r0 := SI.out.r.c 0 _ rfl
 have r1 := SI.out.r.c 1 _ rfl
 have r2 := SI.out.r.c 2 _ rfl
 have r3 := SI.out.r.c 3 _ rfl
 have r4 := SI.out.r.c 4 _ rfl
 have r5 := SI.out.r.c 5 _ rfl
 have r6 := SI.out.r.c 6 _ rfl
 have r7 := SI.out.r.c 7 _ rfl
 have r8 := SI.out.r.c 8 _ rfl
 have r9 := SI.out.r.c 9 _ rfl
 have r10 := SI.out.r.c 10 _ rfl
 have r11 := SI.out.r.c 11 _ rfl
 have r12 := SI.out.r.c 12 _ rfl
 have r13 := SI.out.r.c 13 _ rfl
 have r14 := SI.out.r.c 14 _ rfl
 have r15 := SI.out.r.c 15 _ rfl
 have rf := SI.out.r.f
 have rl := SI.out.r.lt
 go_wp2
 have FN := SI.out.fin (.int .i64 0) (.int .i64 0) (.int .i64 0) (.int .i64 0) (.int .i64 0) (.int .i64 0) (.slice none 0 0) (.slice none 0 0) (.slice none 0 0) (.slice none 0 0) (.slice none 0 0) (.slice none 0 0) (.int .i64 0) (.int .i64 0) (.int .u32 0) (.int .i64 0)
 exact bodyPost_ret (v := .tuple #[.agg #[.int .i64 0, .int .i64 0, .int .i64 0, .int .i64 0, .int .i64 0, .int .i64 0, .slice none 0 0, .slice none 0 0, .slice none 0 0, .slice none 0 0, .slice none 0 0, .slice none 0 0, .int .i64 0, .int .i64 0, .int .u32 0, .int .i64 0], .int .i64 er, .int .i64 l.length]) (by simp [results, Tryz.results12, go_sem, r0, r1, r2, r3, r4, r5, r6, r7, r8, r9, r10, r11, r12, r13, r14, r15]) rfl ⟨E1.out _, FN.1⟩
set_option maxRecDepth 100000 in
set_option maxHeartbeats 8000000 in
theorem dec_tail3 {a ah ag ak al ar ag2 : Option Addr} {c ch cg ck cl cr cg2 tb M4 M5 M6 : Nat} {l : List Int} {s : IS} {w W : World} {rate cell cols rows px py sx sy hv laps : Int} {H G : List Int} {K : List (Int × Int × Bool)} {L : List (Int × Int)} {RR : List (List (Int × Int))} {TT : List ((Int × Int) × (Int × Int) × Bool)} {r : Nat → Option Addr × Nat}
  (S : RdD w W a l.length c l s w.heap.size (w.heap.size + 1) tb M6 (gdL 0 0 0 0 0 0 sl0 sl0 sl0) (dcL rate cell cols rows px py (.slice ah H.length ch) (.slice ag G.length cg) (.slice ak K.length ck) (.slice al L.length cl) (.slice ar RR.length cr) (.slice ag2 TT.length cg2) sx sy hv laps) (fun W' => ((GdF (w.heap.size + 1) tb (.slice ah H.length ch) (.slice ag G.length cg) (.slice ak K.length ck) H G K W' ∧ Lies (tb + 1) M4 (.slice al L.length cl) L.length (ptV L) W') ∧ RlF M4 M5 (.slice ar RR.length cr) r RR W') ∧ Lies M5 M6 (.slice ag2 TT.length cg2) TT.length (gtV TT) W'))
  (hu : ∀ x ∈ l, 0 ≤ x ∧ x ≤ 255) (hd : (decR l).1 = (⟨rate, cell, cols, rows, (px, py), H, G, K, L, RR, TT, (sx, sy), hv, laps⟩ : TD)) (zM : tb ≤ M6 ∧ M4 ≤ M6 ∧ M5 ≤ M6) (he : (decS l).err = 0) (hg : decG l = 0) (c1 c3 c4 c7 c8 c9 c10 c11 c12 c15 c16 c17 c18 c19 c20 c21 c22 c23 c24 c25 c26 c27 c28 c29 c30 c31 c32 c33 c34 c35 c36 c37 c38 c39 c40 c41 c42 c43 c44 c45 c46 c47 c48 c49 c50 c51 c52 c53 c54 c55 c56 c57 c58 c59 c60 c61 c62 c63 c64 c65 c66 c67 c68 c69 c70 c71 c72 c73 c74 c75 c76 c77 c78 c79 c80 c81 c82 c83 c84 c85 c86 c87 c88 c89 c90 c91 c92 c93 c94 c95 c96 c97 c98 c99 c100 c101 c102 c103 c104 c105 c106 c107 c108 c109 c110 c111 c112 : Value) :
  Code.wp Tryz.prog dcT (bodyPost Tryz.prog Tryz.f12 fun e w' => DecP l e w' ∧ Below w.heap.size w w') (dcA a c l w tb c1 c3 c4 c7 c8 c9 c10 c11 c12 c15 c16 c17 c18 c19 c20 c21 c22 c23 c24 c25 c26 c27 c28 c29 c30 c31 c32 c33 c34 c35 c36 c37 c38 c39 c40 c41 c42 c43 c44 c45 c46 c47 c48 c49 c50 c51 c52 c53 c54 c55 c56 c57 c58 c59 c60 c61 c62 c63 c64 c65 c66 c67 c68 c69 c70 c71 c72 c73 c74 c75 c76 c77 c78 c79 c80 c81 c82 c83 c84 c85 c86 c87 c88 c89 c90 c91 c92 c93 c94 c95 c96 c97 c98 c99 c100 c101 c102 c103 c104 c105 c106 c107 c108 c109 c110 c111 c112) W := by
 have SH := Lib.hid S
 have OK := ok_all (dec_ok hu he).1
 rw [hd] at OK
 have AF := Lib.hid (fun (V : World) (f : (fun W' => ((GdF (w.heap.size + 1) tb (.slice ah H.length ch) (.slice ag G.length cg) (.slice ak K.length ck) H G K W' ∧ Lies (tb + 1) M4 (.slice al L.length cl) L.length (ptV L) W') ∧ RlF M4 M5 (.slice ar RR.length cr) r RR W') ∧ Lies M5 M6 (.slice ag2 TT.length cg2) TT.length (gtV TT) W') V) (z : M6 ≤ V.heap.size) => tk_read (ad := (⟨(ah, ch), (ag, cg), (ak, ck), (al, cl), (ar, cr), (ag2, cg2), r⟩ : TAd)) (B := V.heap.size) OK (show AlF (w.heap.size + 1) tb M4 M5 M6 _ _ V from f) (by omega) (by omega) (by omega) z)
 obtain ⟨x2, hx2⟩ : ∃ x, (rgtK (tkA (⟨(ah, ch), (ag, cg), (ak, ck), (al, cl), (ar, cr), (ag2, cg2), r⟩ : TAd) (⟨rate, cell, cols, rows, (px, py), H, G, K, L, RR, TT, (sx, sy), hv, laps⟩ : TD))).2 = x := ⟨_, rfl⟩
 have RG := show (rgtK (tkA (⟨(ah, ch), (ag, cg), (ak, ck), (al, cl), (ar, cr), (ag2, cg2), r⟩ : TAd) (⟨rate, cell, cols, rows, (px, py), H, G, K, L, RR, TT, (sx, sy), hv, laps⟩ : TD))).1 = decG l by unfold decG; rw [hd, rgt_ad]
 have RK := Lib.hid (show Calls Tryz.prog 18 #[.agg #[.int .i64 rate, .int .i64 cell, .int .i64 cols, .int .i64 rows, .int .i64 px, .int .i64 py, .slice ah H.length ch, .slice ag G.length cg, .slice ak K.length ck, .slice al L.length cl, .slice ar RR.length cr, .slice ag2 TT.length cg2, .int .i64 sx, .int .i64 sy, .int .u32 hv, .int .i64 laps]] W fun e w' => e = .returned (.tuple #[.int .i64 (decG l), .int .i64 x2]) ∧ Below W.heap.size W w' from by
  obtain ⟨k1, k2⟩ := AF.out W S.f S.zt.2.2
  have := rKRight_any _ W.heap.size W (Nat.le_refl _) k2 k1
  rw [RG, hx2] at this
  exact this)
 have E2 := Lib.hid (fun (g : decG l ≠ 0) (W : World) => decp_bad (W := W) he g)
 have E3 := Lib.hid (fun (g : decG l = 0) (W : World) (K' : TkM W.heap.size W (tkA (⟨(ah, ch), (ag, cg), (ak, ck), (al, cl), (ar, cr), (ag2, cg2), r⟩ : TAd) (⟨rate, cell, cols, rows, (px, py), H, G, K, L, RR, TT, (sx, sy), hv, laps⟩ : TD))) => by
  have := decp_good (W := W) (ad := (⟨(ah, ch), (ag, cg), (ak, ck), (al, cl), (ar, cr), (ag2, cg2), r⟩ : TAd)) he g (by rw [hd]; exact K')
  rw [hd] at this
  exact this)
 unfold dcA
 rw [he]
 generalize (decS l).place = pl at *
 clear hd OK hx2 RG hu he zM S
 conv => arg 2; whnf
 have t0 := SH.out.t.c 0 _ rfl
 have t1 := SH.out.t.c 1 _ rfl
 have t2 := SH.out.t.c 2 _ rfl
 have t3 := SH.out.t.c 3 _ rfl
 have t4 := SH.out.t.c 4 _ rfl
 have t5 := SH.out.t.c 5 _ rfl
 have t6 := SH.out.t.c 6 _ rfl
 have t7 := SH.out.t.c 7 _ rfl
 have t8 := SH.out.t.c 8 _ rfl
 have t9 := SH.out.t.c 9 _ rfl
 have t10 := SH.out.t.c 10 _ rfl
 have t11 := SH.out.t.c 11 _ rfl
 have t12 := SH.out.t.c 12 _ rfl
 have t13 := SH.out.t.c 13 _ rfl
 have t14 := SH.out.t.c 14 _ rfl
 have t15 := SH.out.t.c 15 _ rfl
 have tl := SH.out.t.lt
 go_wp2_with fail
 refine RK.out.mono ?_
 rintro e wf ⟨rfl, h⟩
 have SI := Lib.hid (SH.out.bl h)
 clear h SH RK t0 t1 t2 t3 t4 t5 t6 t7 t8 t9 t10 t11 t12 t13 t14 t15 tl
 have E1 := Lib.hid (E3.out hg)
 rw [hg]
 clear hg E2 E3
 have t0 := SI.out.t.c 0 _ rfl
 have t1 := SI.out.t.c 1 _ rfl
 have t2 := SI.out.t.c 2 _ rfl
 have t3 := SI.out.t.c 3 _ rfl
 have t4 := SI.out.t.c 4 _ rfl
 have t5 := SI.out.t.c 5 _ rfl
 have t6 := SI.out.t.c 6 _ rfl
 have t7 := SI.out.t.c 7 _ rfl
 have t8 := SI.out.t.c 8 _ rfl
 have t9 := SI.out.t.c 9 _ rfl
 have t10 := SI.out.t.c 10 _ rfl
 have t11 := SI.out.t.c 11 _ rfl
 have t12 := SI.out.t.c 12 _ rfl
 have t13 := SI.out.t.c 13 _ rfl
 have t14 := SI.out.t.c 14 _ rfl
 have t15 := SI.out.t.c 15 _ rfl
 have tl := SI.out.t.lt
 have r0 := SI.out.r.c 0 _ rfl
 have r1 := SI.out.r.c 1 _ rfl
 have r2 := SI.out.r.c 2 _ rfl
 have r3 := SI.out.r.c 3 _ rfl
 have r4 := SI.out.r.c 4 _ rfl
 have r5 := SI.out.r.c 5 _ rfl
 have r6 := SI.out.r.c 6 _ rfl
 have r7 := SI.out.r.c 7 _ rfl
 have r8 := SI.out.r.c 8 _ rfl
 have r9 := SI.out.r.c 9 _ rfl
 have r10 := SI.out.r.c 10 _ rfl
 have r11 := SI.out.r.c 11 _ rfl
 have r12 := SI.out.r.c 12 _ rfl
 have r13 := SI.out.r.c 13 _ rfl
 have r14 := SI.out.r.c 14 _ rfl
 have r15 := SI.out.r.c 15 _ rfl
 have rf := SI.out.r.f
 have rl := SI.out.r.lt
 go_wp2
 have FN := SI.out.fin (.int .i64 rate) (.int .i64 cell) (.int .i64 cols) (.int .i64 rows) (.int .i64 px) (.int .i64 py) (.slice ah H.length ch) (.slice ag G.length cg) (.slice ak K.length ck) (.slice al L.length cl) (.slice ar RR.length cr) (.slice ag2 TT.length cg2) (.int .i64 sx) (.int .i64 sy) (.int .u32 hv) (.int .i64 laps)
 exact bodyPost_ret (v := .tuple #[.agg #[.int .i64 rate, .int .i64 cell, .int .i64 cols, .int .i64 rows, .int .i64 px, .int .i64 py, .slice ah H.length ch, .slice ag G.length cg, .slice ak K.length ck, .slice al L.length cl, .slice ar RR.length cr, .slice ag2 TT.length cg2, .int .i64 sx, .int .i64 sy, .int .u32 hv, .int .i64 laps], .int .i64 0, .int .i64 0]) (by simp [results, Tryz.results12, go_sem, r0, r1, r2, r3, r4, r5, r6, r7, r8, r9, r10, r11, r12, r13, r14, r15]) rfl ⟨E1.out _ (AF.out _ FN.2.1 (Nat.le_trans SI.out.zt.2.2 FN.2.2)).1, FN.1⟩
end Go.Proofs.YtmdjnamkbekjkaaGreatDoor
