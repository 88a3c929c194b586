/- -/
import Derived.Test.YtmdjnamkbekjkaaGreatDoorD7
import Derived.Test.YtmdjnamkbekjkaaGreatDoorXm
import Derived.Test.YtmdjnamkbekjkaaGreatDoorB3
import Derived.Test.YtmdjnamkbekjkaaGreatDoorD6
namespace Go.Proofs.YtmdjnamkbekjkaaGreatDoor
open Go.RowKit
set_option linter.unusedVariables false
set_option linter.unusedSimpArgs false
structure TrE (w W : World) (base top nb : Nat) (l : List Int) (s : IS) (bx tb lo hi : Nat) (R L : List Value) (F : World → Prop) : Prop where
 p : inTw.P base top W nb l s
 g : Below w.heap.size w W
 b : BW W bx [.pointer (some ⟨nb, 0, none⟩)]
 r : BW W w.heap.size R
 t : BW W tb L
 z : (w.heap.size < base ∧ base ≤ top) ∧ top ≤ bx ∧ top ≤ tb ∧ top ≤ lo ∧ hi ≤ W.heap.size
 f : F W
 st : Stab lo hi F
theorem TrE.rd {w W W' : World} {base top nb : Nat} {l : List Int} {s s' : IS} {bx tb lo hi : Nat} {R L : List Value} {F : World → Prop} (S : TrE w W base top nb l s bx tb lo hi R L F) (p : inTw.P base top W' nb l s') (m : Mid base top W W') : TrE w W' base top nb l s' bx tb lo hi R L F := by
 have z := S.z
 have h := m.size
 have lt := S.r.lt
 exact ⟨p, Mid.below S.g m (by omega), S.b.mid m (by omega), ⟨fun i v e => (World.cell?_of_block (w := W) (a := ⟨w.heap.size, i, none⟩) (m.block _ lt (Or.inl z.1.1))).trans (S.r.c i v e), fun j => (World.frozen?_of_block (w := W) (a := ⟨w.heap.size, j, none⟩) (m.block _ lt (Or.inl z.1.1))).trans (S.r.f j), Nat.lt_of_lt_of_le lt h⟩, S.t.mid m (by omega), ⟨z.1, z.2.1, z.2.2.1, z.2.2.2.1, by omega⟩, S.st _ _ S.f h (fun j h1 h2 => m.block j (by omega) (Or.inr (by omega))), S.st⟩
theorem TrE.bl {w W W' : World} {base top nb : Nat} {l : List Int} {s : IS} {bx tb lo hi : Nat} {R L : List Value} {F : World → Prop} (S : TrE w W base top nb l s bx tb lo hi R L F) (h : Below W.heap.size W W') : TrE w W' base top nb l s bx tb lo hi R L F := S.rd (inTw_bl S.p h) (Mid.bl h)
theorem TrE.fin {w W : World} {base top nb : Nat} {l : List Int} {s : IS} {bx tb lo hi : Nat} {R L : List Value} {F : World → Prop} (S : TrE w W base top nb l s bx tb lo hi R L F) (v0 v1 v2 v3 v4 v5 v6 v7 v8 v9 v10 v11 v12 v13 v14 v15 : Value) :
  Below w.heap.size w ((((((((((((((((W.setCell ⟨w.heap.size, 0, none⟩ v0).setCell ⟨w.heap.size, 1, none⟩ v1).setCell ⟨w.heap.size, 2, none⟩ v2).setCell ⟨w.heap.size, 3, none⟩ v3).setCell ⟨w.heap.size, 4, none⟩ v4).setCell ⟨w.heap.size, 5, none⟩ v5).setCell ⟨w.heap.size, 6, none⟩ v6).setCell ⟨w.heap.size, 7, none⟩ v7).setCell ⟨w.heap.size, 8, none⟩ v8).setCell ⟨w.heap.size, 9, none⟩ v9).setCell ⟨w.heap.size, 10, none⟩ v10).setCell ⟨w.heap.size, 11, none⟩ v11).setCell ⟨w.heap.size, 12, none⟩ v12).setCell ⟨w.heap.size, 13, none⟩ v13).setCell ⟨w.heap.size, 14, none⟩ v14).setCell ⟨w.heap.size, 15, none⟩ v15) ∧ F ((((((((((((((((W.setCell ⟨w.heap.size, 0, none⟩ v0).setCell ⟨w.heap.size, 1, none⟩ v1).setCell ⟨w.heap.size, 2, none⟩ v2).setCell ⟨w.heap.size, 3, none⟩ v3).setCell ⟨w.heap.size, 4, none⟩ v4).setCell ⟨w.heap.size, 5, none⟩ v5).setCell ⟨w.heap.size, 6, none⟩ v6).setCell ⟨w.heap.size, 7, none⟩ v7).setCell ⟨w.heap.size, 8, none⟩ v8).setCell ⟨w.heap.size, 9, none⟩ v9).setCell ⟨w.heap.size, 10, none⟩ v10).setCell ⟨w.heap.size, 11, none⟩ v11).setCell ⟨w.heap.size, 12, none⟩ v12).setCell ⟨w.heap.size, 13, none⟩ v13).setCell ⟨w.heap.size, 14, none⟩ v14).setCell ⟨w.heap.size, 15, none⟩ v15) ∧ W.heap.size ≤ ((((((((((((((((W.setCell ⟨w.heap.size, 0, none⟩ v0).setCell ⟨w.heap.size, 1, none⟩ v1).setCell ⟨w.heap.size, 2, none⟩ v2).setCell ⟨w.heap.size, 3, none⟩ v3).setCell ⟨w.heap.size, 4, none⟩ v4).setCell ⟨w.heap.size, 5, none⟩ v5).setCell ⟨w.heap.size, 6, none⟩ v6).setCell ⟨w.heap.size, 7, none⟩ v7).setCell ⟨w.heap.size, 8, none⟩ v8).setCell ⟨w.heap.size, 9, none⟩ v9).setCell ⟨w.heap.size, 10, none⟩ v10).setCell ⟨w.heap.size, 11, none⟩ v11).setCell ⟨w.heap.size, 12, none⟩ v12).setCell ⟨w.heap.size, 13, none⟩ v13).setCell ⟨w.heap.size, 14, none⟩ v14).setCell ⟨w.heap.size, 15, none⟩ v15).heap.size := by
 have G : W.grownBy ((((((((((((((((W.setCell ⟨w.heap.size, 0, none⟩ v0).setCell ⟨w.heap.size, 1, none⟩ v1).setCell ⟨w.heap.size, 2, none⟩ v2).setCell ⟨w.heap.size, 3, none⟩ v3).setCell ⟨w.heap.size, 4, none⟩ v4).setCell ⟨w.heap.size, 5, none⟩ v5).setCell ⟨w.heap.size, 6, none⟩ v6).setCell ⟨w.heap.size, 7, none⟩ v7).setCell ⟨w.heap.size, 8, none⟩ v8).setCell ⟨w.heap.size, 9, none⟩ v9).setCell ⟨w.heap.size, 10, none⟩ v10).setCell ⟨w.heap.size, 11, none⟩ v11).setCell ⟨w.heap.size, 12, none⟩ v12).setCell ⟨w.heap.size, 13, none⟩ v13).setCell ⟨w.heap.size, 14, none⟩ v14).setCell ⟨w.heap.size, 15, none⟩ v15) (some w.heap.size) := (((((((((((((((grown_cell W w.heap.size 0 v0).trans (grown_cell _ w.heap.size 1 v1)).trans (grown_cell _ w.heap.size 2 v2)).trans (grown_cell _ w.heap.size 3 v3)).trans (grown_cell _ w.heap.size 4 v4)).trans (grown_cell _ w.heap.size 5 v5)).trans (grown_cell _ w.heap.size 6 v6)).trans (grown_cell _ w.heap.size 7 v7)).trans (grown_cell _ w.heap.size 8 v8)).trans (grown_cell _ w.heap.size 9 v9)).trans (grown_cell _ w.heap.size 10 v10)).trans (grown_cell _ w.heap.size 11 v11)).trans (grown_cell _ w.heap.size 12 v12)).trans (grown_cell _ w.heap.size 13 v13)).trans (grown_cell _ w.heap.size 14 v14)).trans (grown_cell _ w.heap.size 15 v15)
 have z := S.z
 exact ⟨S.g.grown G S.g.size (fun k e => by injection e with e; omega), S.st _ _ S.f G.size (fun j h1 h2 => G.block j (by omega) (fun q => by injection q with q; omega)), G.size⟩
theorem ald_read {lo hi B : Nat} {ad : TAd} {d : TD} {W : World} (O : TOk d) (F : AlD lo hi ad d W) (h : hi ≤ B) : TkM B W (tkA ad d) ∧ fewR (tkA ad d) := by
 obtain ⟨nb, tb, M4, M5, M6, -, h2, F⟩ := F
 exact tk_read O F (by omega) (by omega) (by omega) (by omega)
noncomputable def tdcT (n : Nat) : Code := ((Tryz.f11.body.bind (atR n)).getD .skip)
abbrev tdcA1 (l : List Int) (w : World) (c0 c1 c3 c4 c5 c6 c9 c10 c11 c12 c13 c14 c15 c16 c17 c18 c19 c20 c21 c22 c23 c24 c25 c26 c27 c28 c29 c30 c31 c32 c33 c34 c35 c36 c37 c38 : Value) : Act := ⟨#[c0, c1, .pointer (some ⟨w.heap.size, 0, none⟩), c3, c4, c5, c6, .int .i64 (decS l).err, .int .i64 (decS l).place, c9, c10, c11, c12, c13, c14, c15, c16, c17, c18, c19, c20, c21, c22, c23, c24, c25, c26, c27, c28, c29, c30, c31, c32, c33, c34, c35, c36, c37, c38], []⟩
abbrev tdcA2 (a : Option Addr) (c : Nat) (l : List Int) (w : World) (er : Int) (c1 c3 c4 c5 c6 c7 c8 c10 c11 c12 c13 c14 c15 c16 c17 c18 c19 c20 c21 c22 c23 c24 c25 c26 c27 c28 c29 c30 c31 c32 c33 c34 c35 c36 c37 c38 : Value) : Act := ⟨#[.slice a l.length c, c1, .pointer (some ⟨w.heap.size, 0, none⟩), c3, c4, c5, c6, c7, c8, .int .i64 er, c10, c11, c12, c13, c14, c15, c16, c17, c18, c19, c20, c21, c22, c23, c24, c25, c26, c27, c28, c29, c30, c31, c32, c33, c34, c35, c36, c37, c38], []⟩
set_option maxRecDepth 100000 in
set_option maxHeartbeats 8000000 in
theorem tdec_tail1 {l : List Int} {s : IS} {w W : World} {base top nb bx tb lo hi : Nat} {Lc : List Value} {F : World → Prop} (S : TrE w W base top nb l s bx tb lo hi (gdL 0 0 0 0 0 0 sl0 sl0 sl0) Lc F) (k : (decS l).err ≠ 0) (K : Act → World → Prop) (c0 c1 c3 c4 c5 c6 c9 c10 c11 c12 c13 c14 c15 c16 c17 c18 c19 c20 c21 c22 c23 c24 c25 c26 c27 c28 c29 c30 c31 c32 c33 c34 c35 c36 c37 c38 : Value) :
  Code.wp Tryz.prog (tdcT 4) (Exit.then K (bodyPost Tryz.prog Tryz.f11 fun e w' => DecP l e w' ∧ Below w.heap.size w w')) (tdcA1 l w c0 c1 c3 c4 c5 c6 c9 c10 c11 c12 c13 c14 c15 c16 c17 c18 c19 c20 c21 c22 c23 c24 c25 c26 c27 c28 c29 c30 c31 c32 c33 c34 c35 c36 c37 c38) W := by
 have SH := Lib.hid S
 have E1 := Lib.hid (fun (W : World) => decp_err (W := W) k)
 have kb : ((decS l).err == 0) = false := beq_false_of_ne k
 unfold tdcA1
 generalize (decS l).err = er at *
 generalize (decS l).place = pl at *
 clear S k
 conv => arg 2; whnf
 have r0 := SH.out.r.c 0 _ rfl
 have r1 := SH.out.r.c 1 _ rfl
 have r2 := SH.out.r.c 2 _ rfl
 have r3 := SH.out.r.c 3 _ rfl
 have r4 := SH.out.r.c 4 _ rfl
 have r5 := SH.out.r.c 5 _ rfl
 have r6 := SH.out.r.c 6 _ rfl
 have r7 := SH.out.r.c 7 _ rfl
 have r8 := SH.out.r.c 8 _ rfl
 have r9 := SH.out.r.c 9 _ rfl
 have r10 := SH.out.r.c 10 _ rfl
 have r11 := SH.out.r.c 11 _ rfl
 have r12 := SH.out.r.c 12 _ rfl
 have r13 := SH.out.r.c 13 _ rfl
 have r14 := SH.out.r.c 14 _ rfl
 have r15 := SH.out.r.c 15 _ rfl
 have rf := SH.out.r.f
 have rl := SH.out.r.lt
 go_wp2
 have FN := SH.out.fin (.int .i64 0) (.int .i64 0) (.int .i64 0) (.int .i64 0) (.int .i64 0) (.int .i64 0) (.slice none 0 0) (.slice none 0 0) (.slice none 0 0) (.slice none 0 0) (.slice none 0 0) (.slice none 0 0) (.int .i64 0) (.int .i64 0) (.int .u32 0) (.int .i64 0)
 exact bodyPost_ret (v := .tuple #[.agg #[.int .i64 0, .int .i64 0, .int .i64 0, .int .i64 0, .int .i64 0, .int .i64 0, .slice none 0 0, .slice none 0 0, .slice none 0 0, .slice none 0 0, .slice none 0 0, .slice none 0 0, .int .i64 0, .int .i64 0, .int .u32 0, .int .i64 0], .int .i64 er, .int .i64 pl]) (by simp [results, Tryz.results11, go_sem, r0, r1, r2, r3, r4, r5, r6, r7, r8, r9, r10, r11, r12, r13, r14, r15]) rfl ⟨E1.out _, FN.1⟩
set_option maxRecDepth 100000 in
set_option maxHeartbeats 8000000 in
theorem tdec_tail2 {a : Option Addr} {c : Nat} {l : List Int} {s : IS} {w W : World} {base top nb bx tb lo hi : Nat} {Lc : List Value} {F : World → Prop} (S : TrE w W base top nb l s bx tb lo hi (gdL 0 0 0 0 0 0 sl0 sl0 sl0) Lc F) (he : (decS l).err = 0) (hg : decG l ≠ 0) (K : Act → World → Prop) (c1 c3 c4 c5 c6 c7 c8 c10 c11 c12 c13 c14 c15 c16 c17 c18 c19 c20 c21 c22 c23 c24 c25 c26 c27 c28 c29 c30 c31 c32 c33 c34 c35 c36 c37 c38 : Value) :
  Code.wp Tryz.prog (tdcT 7) (Exit.then K (bodyPost Tryz.prog Tryz.f11 fun e w' => DecP l e w' ∧ Below w.heap.size w w')) (tdcA2 a c l w (decG l) c1 c3 c4 c5 c6 c7 c8 c10 c11 c12 c13 c14 c15 c16 c17 c18 c19 c20 c21 c22 c23 c24 c25 c26 c27 c28 c29 c30 c31 c32 c33 c34 c35 c36 c37 c38) W := by
 have SH := Lib.hid S
 have E1 := Lib.hid (fun (W : World) => decp_bad (W := W) he hg)
 have kg : (decG l == 0) = false := beq_false_of_ne hg
 unfold tdcA2
 generalize decG l = er at *
 clear S he hg
 conv => arg 2; whnf
 have r0 := SH.out.r.c 0 _ rfl
 have r1 := SH.out.r.c 1 _ rfl
 have r2 := SH.out.r.c 2 _ rfl
 have r3 := SH.out.r.c 3 _ rfl
 have r4 := SH.out.r.c 4 _ rfl
 have r5 := SH.out.r.c 5 _ rfl
 have r6 := SH.out.r.c 6 _ rfl
 have r7 := SH.out.r.c 7 _ rfl
 have r8 := SH.out.r.c 8 _ rfl
 have r9 := SH.out.r.c 9 _ rfl
 have r10 := SH.out.r.c 10 _ rfl
 have r11 := SH.out.r.c 11 _ rfl
 have r12 := SH.out.r.c 12 _ rfl
 have r13 := SH.out.r.c 13 _ rfl
 have r14 := SH.out.r.c 14 _ rfl
 have r15 := SH.out.r.c 15 _ rfl
 have rf := SH.out.r.f
 have rl := SH.out.r.lt
 go_wp2
 have FN := SH.out.fin (.int .i64 0) (.int .i64 0) (.int .i64 0) (.int .i64 0) (.int .i64 0) (.int .i64 0) (.slice none 0 0) (.slice none 0 0) (.slice none 0 0) (.slice none 0 0) (.slice none 0 0) (.slice none 0 0) (.int .i64 0) (.int .i64 0) (.int .u32 0) (.int .i64 0)
 exact bodyPost_ret (v := .tuple #[.agg #[.int .i64 0, .int .i64 0, .int .i64 0, .int .i64 0, .int .i64 0, .int .i64 0, .slice none 0 0, .slice none 0 0, .slice none 0 0, .slice none 0 0, .slice none 0 0, .slice none 0 0, .int .i64 0, .int .i64 0, .int .u32 0, .int .i64 0], .int .i64 er, .int .i64 l.length]) (by simp [results, Tryz.results11, go_sem, r0, r1, r2, r3, r4, r5, r6, r7, r8, r9, r10, r11, r12, r13, r14, r15]) rfl ⟨E1.out _, FN.1⟩
abbrev tdcA6 (a : Option Addr) (c : Nat) (l : List Int) (w : World) (tb : Nat) (c1 c3 c4 c5 c7 c8 c9 c10 c11 c12 c13 c14 c15 c16 c17 c18 c19 c20 c21 c22 c23 c24 c25 c26 c27 c28 c29 c30 c31 c32 c33 c34 c35 c36 c37 c38 : Value) : Act := ⟨#[.slice a l.length c, c1, .pointer (some ⟨w.heap.size, 0, none⟩), c3, c4, c5, .pointer (some ⟨tb, 0, none⟩), c7, c8, c9, c10, c11, c12, c13, c14, c15, c16, c17, c18, c19, c20, c21, c22, c23, c24, c25, c26, c27, c28, c29, c30, c31, c32, c33, c34, c35, c36, c37, c38], []⟩
abbrev tdcA9 (w : World) (tb : Nat) (c0 c1 c3 c4 c5 c7 c8 c9 c10 c11 c12 c13 c14 c15 c16 c17 c18 c19 c20 c21 c22 c23 c24 c25 c26 c27 c28 c29 c30 c31 c32 c33 c34 c35 c36 c37 c38 : Value) : Act := ⟨#[c0, c1, .pointer (some ⟨w.heap.size, 0, none⟩), c3, c4, c5, .pointer (some ⟨tb, 0, none⟩), c7, c8, c9, c10, c11, c12, c13, c14, c15, c16, c17, c18, c19, c20, c21, c22, c23, c24, c25, c26, c27, c28, c29, c30, c31, c32, c33, c34, c35, c36, c37, c38], []⟩
set_option maxRecDepth 100000 in
set_option maxHeartbeats 8000000 in
theorem tdec_tail3 {l : List Int} {s : IS} {w W : World} {base top nb bx tb lo hi : Nat} {aH aG aK aL aR aT : Option Addr} {cH cG cK cL cR cT : Nat} {rr : Nat → Option Addr × Nat} {rate cell cols rows px py sx sy head laps : Int} {H G : List Int} {K : List (Int × Int × Bool)} {L : List (Int × Int)} {R : List (List (Int × Int))} {T : List ((Int × Int) × (Int × Int) × Bool)} (S : TrE w W base top nb l s bx tb lo hi (gdL 0 0 0 0 0 0 sl0 sl0 sl0) (tqL rate cell cols rows px py (.slice aH H.length cH) (.slice aG G.length cG) (.slice aK K.length cK) (.slice aL L.length cL) (.slice aR R.length cR) (.slice aT T.length cT) sx sy head laps) (AlD lo hi ⟨(aH, cH), (aG, cG), (aK, cK), (aL, cL), (aR, cR), (aT, cT), rr⟩ ⟨rate, cell, cols, rows, (px, py), H, G, K, L, R, T, (sx, sy), head, laps⟩)) (O : TOk (⟨rate, cell, cols, rows, (px, py), H, G, K, L, R, T, (sx, sy), head, laps⟩ : TD)) (HD : (decR l).1 = (⟨rate, cell, cols, rows, (px, py), H, G, K, L, R, T, (sx, sy), head, laps⟩ : TD)) (he : (decS l).err = 0) (hg : decG l = 0) (c0 c1 c3 c4 c5 c7 c8 c9 c10 c11 c12 c13 c14 c15 c16 c17 c18 c19 c20 c21 c22 c23 c24 c25 c26 c27 c28 c29 c30 c31 c32 c33 c34 c35 c36 c37 c38 : Value) :
  Code.wp Tryz.prog (tdcT 9) (bodyPost Tryz.prog Tryz.f11 fun e w' => DecP l e w' ∧ Below w.heap.size w w') (tdcA9 w tb c0 c1 c3 c4 c5 c7 c8 c9 c10 c11 c12 c13 c14 c15 c16 c17 c18 c19 c20 c21 c22 c23 c24 c25 c26 c27 c28 c29 c30 c31 c32 c33 c34 c35 c36 c37 c38) W := by
 have S8 := Lib.hid S
 have OH := Lib.hid O
 have E1 := Lib.hid (fun (W : World) (K' : TkM W.heap.size W (tkA (⟨(aH, cH), (aG, cG), (aK, cK), (aL, cL), (aR, cR), (aT, cT), rr⟩ : TAd) (⟨rate, cell, cols, rows, (px, py), H, G, K, L, R, T, (sx, sy), head, laps⟩ : TD))) => by
  have := decp_good (W := W) (ad := (⟨(aH, cH), (aG, cG), (aK, cK), (aL, cL), (aR, cR), (aT, cT), rr⟩ : TAd)) he hg (by rw [HD]; exact K')
  rw [HD] at this
  exact this)
 unfold tdcA9
 clear S O HD he hg
 conv => arg 2; whnf
 have r0 := S8.out.r.c 0 _ rfl
 have r1 := S8.out.r.c 1 _ rfl
 have r2 := S8.out.r.c 2 _ rfl
 have r3 := S8.out.r.c 3 _ rfl
 have r4 := S8.out.r.c 4 _ rfl
 have r5 := S8.out.r.c 5 _ rfl
 have r6 := S8.out.r.c 6 _ rfl
 have r7 := S8.out.r.c 7 _ rfl
 have r8 := S8.out.r.c 8 _ rfl
 have r9 := S8.out.r.c 9 _ rfl
 have r10 := S8.out.r.c 10 _ rfl
 have r11 := S8.out.r.c 11 _ rfl
 have r12 := S8.out.r.c 12 _ rfl
 have r13 := S8.out.r.c 13 _ rfl
 have r14 := S8.out.r.c 14 _ rfl
 have r15 := S8.out.r.c 15 _ rfl
 have rf := S8.out.r.f
 have rl := S8.out.r.lt
 have t0 := S8.out.t.c 0 _ rfl
 have t1 := S8.out.t.c 1 _ rfl
 have t2 := S8.out.t.c 2 _ rfl
 have t3 := S8.out.t.c 3 _ rfl
 have t4 := S8.out.t.c 4 _ rfl
 have t5 := S8.out.t.c 5 _ rfl
 have t6 := S8.out.t.c 6 _ rfl
 have t7 := S8.out.t.c 7 _ rfl
 have t8 := S8.out.t.c 8 _ rfl
 have t9 := S8.out.t.c 9 _ rfl
 have t10 := S8.out.t.c 10 _ rfl
 have t11 := S8.out.t.c 11 _ rfl
 have t12 := S8.out.t.c 12 _ rfl
 have t13 := S8.out.t.c 13 _ rfl
 have t14 := S8.out.t.c 14 _ rfl
 have t15 := S8.out.t.c 15 _ rfl
 have tl := S8.out.t.lt
 go_wp2
 have FN := S8.out.fin (.int .i64 rate) (.int .i64 cell) (.int .i64 cols) (.int .i64 rows) (.int .i64 px) (.int .i64 py) (.slice aH H.length cH) (.slice aG G.length cG) (.slice aK K.length cK) (.slice aL L.length cL) (.slice aR R.length cR) (.slice aT T.length cT) (.int .i64 sx) (.int .i64 sy) (.int .u32 head) (.int .i64 laps)
 exact bodyPost_ret (v := .tuple #[.agg #[.int .i64 rate, .int .i64 cell, .int .i64 cols, .int .i64 rows, .int .i64 px, .int .i64 py, .slice aH H.length cH, .slice aG G.length cG, .slice aK K.length cK, .slice aL L.length cL, .slice aR R.length cR, .slice aT T.length cT, .int .i64 sx, .int .i64 sy, .int .u32 head, .int .i64 laps], .int .i64 0, .int .i64 0]) (by simp [results, Tryz.results11, go_sem, r0, r1, r2, r3, r4, r5, r6, r7, r8, r9, r10, r11, r12, r13, r14, r15]) rfl ⟨E1.out _ (tkm_up (ald_read OH.out FN.2.1 (Nat.le_trans S8.out.z.2.2.2.2 FN.2.2)).1 (Nat.le_refl _)), FN.1⟩
set_option maxRecDepth 100000 in
set_option maxHeartbeats 8000000 in
theorem tdec_tail6 {a : Option Addr} {c : Nat} {l : List Int} {s : IS} {w W : World} {base top nb bx tb lo hi : Nat} {aH aG aK aL aR aT : Option Addr} {cH cG cK cL cR cT : Nat} {rr : Nat → Option Addr × Nat} {rate cell cols rows px py sx sy head laps : Int} {H G : List Int} {K : List (Int × Int × Bool)} {L : List (Int × Int)} {R : List (List (Int × Int))} {T : List ((Int × Int) × (Int × Int) × Bool)} (S : TrE w W base top nb l s bx tb lo hi (gdL 0 0 0 0 0 0 sl0 sl0 sl0) (tqL rate cell cols rows px py (.slice aH H.length cH) (.slice aG G.length cG) (.slice aK K.length cK) (.slice aL L.length cL) (.slice aR R.length cR) (.slice aT T.length cT) sx sy head laps) (AlD lo hi ⟨(aH, cH), (aG, cG), (aK, cK), (aL, cL), (aR, cR), (aT, cT), rr⟩ ⟨rate, cell, cols, rows, (px, py), H, G, K, L, R, T, (sx, sy), head, laps⟩)) (hE : ErT w) (O : TOk (⟨rate, cell, cols, rows, (px, py), H, G, K, L, R, T, (sx, sy), head, laps⟩ : TD)) (HD : (decR l).1 = (⟨rate, cell, cols, rows, (px, py), H, G, K, L, R, T, (sx, sy), head, laps⟩ : TD)) (he : (decS l).err = 0) (c1 c3 c4 c5 c7 c8 c9 c10 c11 c12 c13 c14 c15 c16 c17 c18 c19 c20 c21 c22 c23 c24 c25 c26 c27 c28 c29 c30 c31 c32 c33 c34 c35 c36 c37 c38 : Value) :
  Code.wp Tryz.prog (tdcT 6) (bodyPost Tryz.prog Tryz.f11 fun e w' => DecP l e w' ∧ Below w.heap.size w w') (tdcA6 a c l w tb c1 c3 c4 c5 c7 c8 c9 c10 c11 c12 c13 c14 c15 c16 c17 c18 c19 c20 c21 c22 c23 c24 c25 c26 c27 c28 c29 c30 c31 c32 c33 c34 c35 c36 c37 c38) W := by
 have S7 := Lib.hid S
 have OH := Lib.hid O
 have RK := Lib.hid (tkRight_any (tkA (⟨(aH, cH), (aG, cG), (aK, cK), (aL, cL), (aR, cR), (aT, cT), rr⟩ : TAd) (⟨rate, cell, cols, rows, (px, py), H, G, K, L, R, T, (sx, sy), head, laps⟩ : TD)) W.heap.size W (Nat.le_refl _) (hE.step S7.out.g) (ald_read OH.out S7.out.f S7.out.z.2.2.2.2).2 (ald_read OH.out S7.out.f S7.out.z.2.2.2.2).1)
 rw [show (rgtK (tkA (⟨(aH, cH), (aG, cG), (aK, cK), (aL, cL), (aR, cR), (aT, cT), rr⟩ : TAd) (⟨rate, cell, cols, rows, (px, py), H, G, K, L, R, T, (sx, sy), head, laps⟩ : TD))).1 = decG l by unfold decG; rw [HD, rgt_ad]] at RK
 generalize (rgtK (tkA (⟨(aH, cH), (aG, cG), (aK, cK), (aL, cL), (aR, cR), (aT, cT), rr⟩ : TAd) (⟨rate, cell, cols, rows, (px, py), H, G, K, L, R, T, (sx, sy), head, laps⟩ : TD))).2 = e2 at *
 have HH := Lib.hid HD
 have HZ := Lib.hid he
 unfold trkV at RK
 dsimp only [tkA] at RK
 unfold tdcA6
 clear S O hE HD he
 conv => arg 2; whnf
 have t0 := S7.out.t.c 0 _ rfl
 have t1 := S7.out.t.c 1 _ rfl
 have t2 := S7.out.t.c 2 _ rfl
 have t3 := S7.out.t.c 3 _ rfl
 have t4 := S7.out.t.c 4 _ rfl
 have t5 := S7.out.t.c 5 _ rfl
 have t6 := S7.out.t.c 6 _ rfl
 have t7 := S7.out.t.c 7 _ rfl
 have t8 := S7.out.t.c 8 _ rfl
 have t9 := S7.out.t.c 9 _ rfl
 have t10 := S7.out.t.c 10 _ rfl
 have t11 := S7.out.t.c 11 _ rfl
 have t12 := S7.out.t.c 12 _ rfl
 have t13 := S7.out.t.c 13 _ rfl
 have t14 := S7.out.t.c 14 _ rfl
 have t15 := S7.out.t.c 15 _ rfl
 have tl := S7.out.t.lt
 go_wp2_with fail
 refine RK.out.mono ?_
 rintro e x8 ⟨rfl, h8⟩
 have S8 := Lib.hid (S7.out.bl h8)
 clear h8 S7 RK t0 t1 t2 t3 t4 t5 t6 t7 t8 t9 t10 t11 t12 t13 t14 t15 tl
 by_cases hg : decG l = 0
 rotate_left
 ·rename_i K1 a1 K0 a0
  have A1 := Lib.hid a1
  clear a1
  go_wp2_with fail
  refine A1.out _ _ ?_
  exact tdec_tail2 S8.out HZ.out hg _ _ _ _ _ _ _ _ _ _ _ _ _ _ _ _ _ _ _ _ _ _ _ _ _ _ _ _ _ _ _ _ _ _ _ _ _
 have kg : (decG l == 0) = true := by rw [hg]; rfl
 have G0 := Lib.hid hg
 clear hg
 rename_i K2 a2 K1 a1 K0 a0
 have A2 := Lib.hid a2
 clear a2
 go_wp2_with fail
 refine A2.out _ _ ?_
 exact tdec_tail3 S8.out OH.out HH.out HZ.out G0.out _ _ _ _ _ _ _ _ _ _ _ _ _ _ _ _ _ _ _ _ _ _ _ _ _ _ _ _ _ _ _ _ _ _ _ _ _
set_option maxRecDepth 100000 in
set_option maxHeartbeats 8000000 in
theorem tioDec_any (a : Option Addr) (n c : Nat) (l : List Int) (w : World) (h : BL w a n l) (hc : n ≤ c) (hm : c ≤ maxLen) (hn : n ≤ 1000000000) (hE : ErT w) :
  Calls Tryz.prog 11 #[.slice a n c] w fun e w' => DecP l e w' ∧ Below w.heap.size w w' := by
 have hl := h.hn
 subst hl
 have HU := Lib.hid h.u
 have XN := Lib.hid (fun (Y : World) (b : BL Y a l.length l) => iNew_any a l.length c l Y b hn)
 have HB := Lib.hid h
 have HE := Lib.hid hE
 have XT := Lib.hid (fun (base top : Nat) (Y : World) (nb : Nat) (P : inTw.P base top Y nb l s0I) => rTrack base top Y nb l s0I P)
 have XE := Lib.hid (fun (base top : Nat) (Y : World) (nb : Nat) (P : inTw.P base top Y nb l (decR l).2) => show Calls Tryz.prog 28 #[.pointer (some ⟨nb, 0, none⟩)] Y fun en w' => en = .returned (.tuple #[.int .i64 (decS l).err, .int .i64 (decS l).place]) ∧ inTw.P base top w' nb l (decS l) ∧ Mid base top Y w' from by
  obtain ⟨a', c', k', q⟩ := P
  exact iEnd_any Y q)
 obtain ⟨d, hd⟩ : ∃ d, (decR l).1 = d := ⟨_, rfl⟩
 obtain ⟨rate, cell, cols, rows, ⟨px, py⟩, H, G, K, L, R, T, ⟨sx, sy⟩, head, laps⟩ := d
 have HD := Lib.hid hd
 replace XT := Lib.hid (fun (base top : Nat) (Y : World) (nb : Nat) (P : inTw.P base top Y nb l s0I) => show Calls Tryz.prog 27 #[.agg #[.pointer (some ⟨nb, 0, none⟩)]] Y fun e W' => (∃ ad : TAd, e = .returned (.agg #[.int .i64 rate, .int .i64 cell, .int .i64 cols, .int .i64 rows, .int .i64 px, .int .i64 py, .slice ad.H.1 H.length ad.H.2, .slice ad.G.1 G.length ad.G.2, .slice ad.K.1 K.length ad.K.2, .slice ad.L.1 L.length ad.L.2, .slice ad.R.1 R.length ad.R.2, .slice ad.T.1 T.length ad.T.2, .int .i64 sx, .int .i64 sy, .int .u32 head, .int .i64 laps]) ∧ AlD Y.heap.size W'.heap.size ad ⟨rate, cell, cols, rows, (px, py), H, G, K, L, R, T, (sx, sy), head, laps⟩ W') ∧ inTw.P base top W' nb l (decR l).2 ∧ Mid base top Y W' from by
  have := XT.out base top Y nb P
  rw [show trackCod.rd l s0I = decR l from rfl, hd] at this
  exact this)
 obtain ⟨sd, hsd⟩ : ∃ sd, (decR l).2 = sd := ⟨_, rfl⟩
 rw [hsd] at XT XE
 clear hsd
 clear h hn hE hd
 go_enter Tryz.func11, Tryz.ntmps11
 go_wp2_with fail
 refine calls_gen (S := fun Y => (BL Y a l.length l ∧ BW Y w.heap.size (gdL 0 0 0 0 0 0 sl0 sl0 sl0)) ∧ Below w.heap.size w Y ∧ Y.heap.size = w.heap.size + 1) ⟨⟨HB.out.below ((Below.refl _ _).alloc (Nat.le_refl _) _), BW.new w _ (gdL 0 0 0 0 0 0 sl0 sl0 sl0) _ rfl⟩, by repeat (first | exact Below.refl _ _ | assumption | refine Below.setCell ?_ (by first | omega | (simp; done) | (simp; omega)) _ | refine Below.alloc ?_ (by first | omega | (simp; done) | (simp; omega)) _ | refine below_drewN ?_ _ | refine Below.drew ?_ | refine Below.trans ?_ (Below.mono (by assumption) (by first | omega | (simp; done) | (simp; omega)))), by simp⟩ (fun W1 hS => ?_)
 have R1 := Lib.hid hS.1.2
 have B1 := Lib.hid hS.2.1
 have Z1 := Lib.hid hS.2.2
 refine (XN.out W1 hS.1.1).mono ?_
 rintro e x2 ⟨nb, rfl, p2, h2⟩
 have P2 := Lib.hid (show inTw.P W1.heap.size x2.heap.size x2 nb l s0I from p2)
 have R2 := Lib.hid (R1.out.below h2 R1.out.lt)
 have B2 := Lib.hid (B1.out.trans (h2.mono B1.out.size))
 have Z2 := Lib.hid (show w.heap.size < W1.heap.size ∧ W1.heap.size ≤ x2.heap.size from ⟨R1.out.lt, h2.size⟩)
 clear hS p2 h2 R1 B1 XN HB Z1
 generalize W1.heap.size = base at *
 obtain ⟨top, htop⟩ : ∃ top, x2.heap.size = top := ⟨_, rfl⟩
 go_wp2_with fail
 refine calls_gen (S := fun Y => TrE w Y base top nb l s0I top top top top (gdL 0 0 0 0 0 0 sl0 sl0 sl0) [.pointer (some ⟨nb, 0, none⟩)] (fun _ => True)) (by
  have hb := (Below.refl x2.heap.size x2).alloc (Nat.le_refl _) (.cells #[.pointer (some ⟨nb, 0, none⟩)] 66)
  have P2' := P2.out
  rw [htop] at P2'
  exact ⟨inTw_bl P2' hb, B2.out.trans (hb.mono B2.out.size), BW.new x2 _ [.pointer (some ⟨nb, 0, none⟩)] _ htop.symm, R2.out.below hb R2.out.lt, BW.new x2 _ [.pointer (some ⟨nb, 0, none⟩)] _ htop.symm, ⟨⟨Z2.out.1, by rw [← htop]; exact Z2.out.2⟩, Nat.le_refl _, Nat.le_refl _, Nat.le_refl _, by rw [← htop]; exact hb.size⟩, trivial, fun _ _ _ _ _ => trivial⟩) (fun W3 hS => ?_)
 have S3 := Lib.hid hS
 clear hS P2 R2 B2
 refine (XT.out base top W3 nb S3.out.p).mono ?_
 rintro e x4 ⟨⟨⟨⟨aH, cH⟩, ⟨aG, cG⟩, ⟨aK, cK⟩, ⟨aL, cL⟩, ⟨aR, cR⟩, ⟨aT, cT⟩, rr⟩, rfl, F4⟩, p4, m4⟩
 dsimp only
 have S4 := Lib.hid (S3.out.rd p4 m4)
 have F4' := Lib.hid F4
 have lt3 := S3.out.b.lt
 have z3 := S3.out.z
 have z4 := m4.size
 have S5 := Lib.hid (show TrE w (x4.alloc (.cells (tqL rate cell cols rows px py (.slice aH H.length cH) (.slice aG G.length cG) (.slice aK K.length cK) (.slice aL L.length cL) (.slice aR R.length cR) (.slice aT T.length cT) sx sy head laps).toArray 34)) base top nb l sd top x4.heap.size W3.heap.size x4.heap.size (gdL 0 0 0 0 0 0 sl0 sl0 sl0) (tqL rate cell cols rows px py (.slice aH H.length cH) (.slice aG G.length cG) (.slice aK K.length cK) (.slice aL L.length cL) (.slice aR R.length cR) (.slice aT T.length cT) sx sy head laps) (AlD W3.heap.size x4.heap.size ⟨(aH, cH), (aG, cG), (aK, cK), (aL, cL), (aR, cR), (aT, cT), rr⟩ ⟨rate, cell, cols, rows, (px, py), H, G, K, L, R, T, (sx, sy), head, laps⟩) from by
  have S := S4.out.bl ((Below.refl _ _).alloc (Nat.le_refl _) (.cells (tqL rate cell cols rows px py (.slice aH H.length cH) (.slice aG G.length cG) (.slice aK K.length cK) (.slice aL L.length cL) (.slice aR R.length cR) (.slice aT T.length cT) sx sy head laps).toArray 34))
  have z := S.z
  exact ⟨S.p, S.g, S.b, S.r, BW.new x4 _ (tqL rate cell cols rows px py (.slice aH H.length cH) (.slice aG G.length cG) (.slice aK K.length cK) (.slice aL L.length cL) (.slice aR R.length cR) (.slice aT T.length cT) sx sy head laps) _ rfl, ⟨z.1, z.2.1, by omega, by omega, by simp⟩, (AlD.stab _ _ _ _) _ _ F4 (by simp) (fun j _ h2 => ((Below.refl x4.heap.size x4).alloc (Nat.le_refl _) _).block j h2), AlD.stab _ _ _ _⟩)
 have b0 := S5.out.b.c 0 _ rfl
 clear F4 p4 m4 S3 S4 F4' XT
 go_wp2_with fail
 refine calls_gen (S := fun Y => TrE w Y base top nb l sd top x4.heap.size W3.heap.size x4.heap.size (gdL 0 0 0 0 0 0 sl0 sl0 sl0) (tqL rate cell cols rows px py (.slice aH H.length cH) (.slice aG G.length cG) (.slice aK K.length cK) (.slice aL L.length cL) (.slice aR R.length cR) (.slice aT T.length cT) sx sy head laps) (AlD W3.heap.size x4.heap.size ⟨(aH, cH), (aG, cG), (aK, cK), (aL, cL), (aR, cR), (aT, cT), rr⟩ ⟨rate, cell, cols, rows, (px, py), H, G, K, L, R, T, (sx, sy), head, laps⟩)) S5.out (fun W5 hS => ?_)
 have S6 := Lib.hid hS
 clear hS S5 b0
 refine (XE.out base top W5 nb S6.out.p).mono ?_
 rintro e x6 ⟨rfl, p6, m6⟩
 have S7 := Lib.hid (S6.out.rd p6 m6)
 clear p6 m6 S6 XE
 by_cases he : (decS l).err = 0
 rotate_left
 ·rename_i K1 a1 K0 a0
  have A1 := Lib.hid a1
  clear a1
  go_wp2_with fail
  refine A1.out _ _ ?_
  exact tdec_tail1 S7.out he _ _ _ _ _ _ _ _ _ _ _ _ _ _ _ _ _ _ _ _ _ _ _ _ _ _ _ _ _ _ _ _ _ _ _ _ _
 have kb : ((decS l).err == 0) = true := by rw [he]; rfl
 have O := Lib.hid (show TOk (⟨rate, cell, cols, rows, (px, py), H, G, K, L, R, T, (sx, sy), head, laps⟩ : TD) from by rw [← HD.out]; exact ok_all (dec_ok HU.out he).1)
 have HZ := Lib.hid he
 clear he
 rename_i K2 a2 K1 a1 K0 a0
 have A2 := Lib.hid a2
 clear a2
 go_wp2_with fail
 refine A2.out _ _ ?_
 exact tdec_tail6 S7.out HE.out O.out HD.out HZ.out _ _ _ _ _ _ _ _ _ _ _ _ _ _ _ _ _ _ _ _ _ _ _ _ _ _ _ _ _ _ _ _ _ _ _ _
theorem tioC : TioC where
 enc := fun a d B w hB few hh hE K => tioEnc_any a d B w hB few hh hE K
 dec := fun a n c l w h hc hm hn hE => tioDec_any a n c l w h hc hm hn hE
 right := fun k B w hB few hE K => tkRight_any k B w hB hE few K
end Go.Proofs.YtmdjnamkbekjkaaGreatDoor
