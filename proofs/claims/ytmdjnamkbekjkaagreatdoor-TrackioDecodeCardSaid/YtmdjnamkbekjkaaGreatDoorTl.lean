/- -/
import Derived.Test.YtmdjnamkbekjkaaGreatDoorXi
import Derived.Test.YtmdjnamkbekjkaaGreatDoorTk
import Derived.Deep.CutBlock
import Derived.Deep.DeepCutAuto
namespace Go.Proofs.YtmdjnamkbekjkaaGreatDoor
open Go.RowKit
set_option linter.unusedVariables false
set_option linter.unusedSimpArgs false
structure RgS (w W : World) (nb : Nat) (a : Option Addr) (n c : Nat) (l : List Int) (s : IS) (rb tb N : Nat) (R L : List Value) (F : World → Prop) : Prop where
 i : IN W nb a n c l s
 r : BW W rb R
 t : BW W tb L
 g : w.grownBy W (some nb)
 z : nb < w.heap.size
 zt : w.heap.size ≤ rb ∧ rb < tb ∧ tb < N ∧ N ≤ W.heap.size
 b : 0 < n → ∀ p, a = some p → p.block < w.heap.size
 f : F W
 st : Stab (tb + 1) N F
theorem RgS.rd {w W W' : World} {nb : Nat} {a : Option Addr} {n c : Nat} {l : List Int} {s s' : IS} {rb tb N : Nat} {R L : List Value} {F : World → Prop} (S : RgS w W nb a n c l s rb tb N R L F) (h : IN W' nb a n c l s') (g : W.grownBy W' (some nb)) : RgS w W' nb a n c l s' rb tb N R L F :=
 ⟨h, S.r.grown g (fun e => by have := S.z; have := S.zt; injection e with e; omega), S.t.grown g (fun e => by have := S.z; have := S.zt; injection e with e; omega), S.g.trans g, S.z, ⟨S.zt.1, S.zt.2.1, S.zt.2.2.1, Nat.le_trans S.zt.2.2.2 g.size⟩, S.b, S.st _ _ S.f g.size (fun j h1 h2 => g.block j (by have := S.zt; omega) (fun e => by have := S.z; have := S.zt; injection e with e; omega)), S.st⟩
theorem RgS.bl {w W W' : World} {nb : Nat} {a : Option Addr} {n c : Nat} {l : List Int} {s : IS} {rb tb N : Nat} {R L : List Value} {F : World → Prop} (S : RgS w W nb a n c l s rb tb N R L F) (h : Below W.heap.size W W') : RgS w W' nb a n c l s rb tb N R L F :=
 S.rd (S.i.grown (row := none) (below_grown h none) (fun j e => by cases e)) (below_grown h _)
theorem RgS.put {w W : World} {nb : Nat} {a : Option Addr} {n c : Nat} {l : List Int} {s : IS} {rb tb N : Nat} {R L : List Value} {F : World → Prop} (S : RgS w W nb a n c l s rb tb N R L F) (k : Nat) (v u : Value) (hu : L[k]? = some u) : RgS w (W.setCell ⟨tb, k, none⟩ v) nb a n c l s rb tb N R (L.set k v) F := by
 have hz := S.z
 have ht := S.zt
 have gc := grown_cell W tb k v
 refine ⟨S.i.grown gc (fun j e => ⟨by injection e with e; omega, fun h0 p hp => by have := S.b h0 p hp; injection e with e; omega⟩), S.r.grown gc (fun e => by injection e with e; omega), S.t.put v u hu, ⟨S.g.os, S.g.tape, S.g.output, by rw [set_size]; exact S.g.size, fun j hj e => (Below.heap_setCell _ _ _ _ (by show j ≠ tb; omega)).trans (S.g.block j hj e)⟩, hz, ⟨ht.1, ht.2.1, ht.2.2.1, by rw [set_size]; exact ht.2.2.2⟩, S.b, S.st _ _ S.f (by rw [set_size]; exact Nat.le_refl _) (fun j h1 h2 => Below.heap_setCell _ _ _ _ (by show j ≠ tb; omega)), S.st⟩
theorem RgS.app {w W W' : World} {nb : Nat} {a : Option Addr} {n c : Nat} {l : List Int} {s : IS} {rb tb N : Nat} {R L : List Value} {F : World → Prop} {v : Value} {e : TypeId} {sz k : Nat} {xs : List Value} (S : RgS w W nb a n c l s rb tb N R L F) (O : W.ownsRow N e sz v k xs) (g : W.grownBy W' v.ownBlock) : RgS w W' nb a n c l s rb tb N R L F := by
 have hz := S.z
 have ht := S.zt
 have lo : ∀ j, v.ownBlock = some j → N ≤ j := fun j e => (O.lt j e).1
 refine ⟨S.i.grown g (fun j e => ⟨by have := lo j e; omega, fun h0 p hp => by have := S.b h0 p hp; have := lo j e; omega⟩), S.r.grown g (fun e => by have := lo rb e.symm; omega), S.t.grown g (fun e => by have := lo tb e.symm; omega), ⟨g.os.trans S.g.os, g.tape.trans S.g.tape, g.output.trans S.g.output, Nat.le_trans S.g.size g.size, fun j hj e => (g.block j (by omega) (fun q => by have := lo j q.symm; omega)).trans (S.g.block j hj e)⟩, hz, ⟨ht.1, ht.2.1, ht.2.2.1, Nat.le_trans ht.2.2.2 g.size⟩, S.b, S.st _ _ S.f g.size (fun j h1 h2 => g.block j (by omega) (fun q => by have := lo j q.symm; omega)), S.st⟩
theorem RgS.done {w W : World} {nb : Nat} {a : Option Addr} {n c : Nat} {l : List Int} {s : IS} {rb tb N : Nat} {R L : List Value} {F : World → Prop} {v : Value} {e : TypeId} {sz k : Nat} {xs : List Value} (S : RgS w W nb a n c l s rb tb N R L F) (O : W.ownsRow N e sz v k xs) : RgS w W nb a n c l s rb tb W.heap.size R L (fun W' => F W' ∧ Lies (tb + 1) W.heap.size v k xs W') := by
 have ht := S.zt
 exact ⟨S.i, S.r, S.t, S.g, S.z, ⟨ht.1, ht.2.1, by omega, Nat.le_refl _⟩, S.b, ⟨S.f, (lies_owned O).mono (by omega) (Nat.le_refl _)⟩, (S.st.mono (Nat.le_refl _) ht.2.2.2).and (Lies.stab _ _ _ _ _)⟩
theorem RgS.fin {w W : World} {nb : Nat} {a : Option Addr} {n c : Nat} {l : List Int} {s : IS} {rb tb N : Nat} {R L : List Value} {F : World → Prop} (S : RgS w W nb a n c l s rb tb N R L F) (v0 v1 v2 v3 v4 v5 v6 v7 v8 v9 v10 v11 v12 v13 v14 v15 : Value) :
  (IN ((((((((((((((((W.setCell ⟨rb, 0, none⟩ v0).setCell ⟨rb, 1, none⟩ v1).setCell ⟨rb, 2, none⟩ v2).setCell ⟨rb, 3, none⟩ v3).setCell ⟨rb, 4, none⟩ v4).setCell ⟨rb, 5, none⟩ v5).setCell ⟨rb, 6, none⟩ v6).setCell ⟨rb, 7, none⟩ v7).setCell ⟨rb, 8, none⟩ v8).setCell ⟨rb, 9, none⟩ v9).setCell ⟨rb, 10, none⟩ v10).setCell ⟨rb, 11, none⟩ v11).setCell ⟨rb, 12, none⟩ v12).setCell ⟨rb, 13, none⟩ v13).setCell ⟨rb, 14, none⟩ v14).setCell ⟨rb, 15, none⟩ v15) nb a n c l s ∧ w.grownBy ((((((((((((((((W.setCell ⟨rb, 0, none⟩ v0).setCell ⟨rb, 1, none⟩ v1).setCell ⟨rb, 2, none⟩ v2).setCell ⟨rb, 3, none⟩ v3).setCell ⟨rb, 4, none⟩ v4).setCell ⟨rb, 5, none⟩ v5).setCell ⟨rb, 6, none⟩ v6).setCell ⟨rb, 7, none⟩ v7).setCell ⟨rb, 8, none⟩ v8).setCell ⟨rb, 9, none⟩ v9).setCell ⟨rb, 10, none⟩ v10).setCell ⟨rb, 11, none⟩ v11).setCell ⟨rb, 12, none⟩ v12).setCell ⟨rb, 13, none⟩ v13).setCell ⟨rb, 14, none⟩ v14).setCell ⟨rb, 15, none⟩ v15) (some nb)) ∧ F ((((((((((((((((W.setCell ⟨rb, 0, none⟩ v0).setCell ⟨rb, 1, none⟩ v1).setCell ⟨rb, 2, none⟩ v2).setCell ⟨rb, 3, none⟩ v3).setCell ⟨rb, 4, none⟩ v4).setCell ⟨rb, 5, none⟩ v5).setCell ⟨rb, 6, none⟩ v6).setCell ⟨rb, 7, none⟩ v7).setCell ⟨rb, 8, none⟩ v8).setCell ⟨rb, 9, none⟩ v9).setCell ⟨rb, 10, none⟩ v10).setCell ⟨rb, 11, none⟩ v11).setCell ⟨rb, 12, none⟩ v12).setCell ⟨rb, 13, none⟩ v13).setCell ⟨rb, 14, none⟩ v14).setCell ⟨rb, 15, none⟩ v15) ∧ N ≤ (((((((((((((((((W.setCell ⟨rb, 0, none⟩ v0).setCell ⟨rb, 1, none⟩ v1).setCell ⟨rb, 2, none⟩ v2).setCell ⟨rb, 3, none⟩ v3).setCell ⟨rb, 4, none⟩ v4).setCell ⟨rb, 5, none⟩ v5).setCell ⟨rb, 6, none⟩ v6).setCell ⟨rb, 7, none⟩ v7).setCell ⟨rb, 8, none⟩ v8).setCell ⟨rb, 9, none⟩ v9).setCell ⟨rb, 10, none⟩ v10).setCell ⟨rb, 11, none⟩ v11).setCell ⟨rb, 12, none⟩ v12).setCell ⟨rb, 13, none⟩ v13).setCell ⟨rb, 14, none⟩ v14).setCell ⟨rb, 15, none⟩ v15)).heap.size := by
 have G : W.grownBy ((((((((((((((((W.setCell ⟨rb, 0, none⟩ v0).setCell ⟨rb, 1, none⟩ v1).setCell ⟨rb, 2, none⟩ v2).setCell ⟨rb, 3, none⟩ v3).setCell ⟨rb, 4, none⟩ v4).setCell ⟨rb, 5, none⟩ v5).setCell ⟨rb, 6, none⟩ v6).setCell ⟨rb, 7, none⟩ v7).setCell ⟨rb, 8, none⟩ v8).setCell ⟨rb, 9, none⟩ v9).setCell ⟨rb, 10, none⟩ v10).setCell ⟨rb, 11, none⟩ v11).setCell ⟨rb, 12, none⟩ v12).setCell ⟨rb, 13, none⟩ v13).setCell ⟨rb, 14, none⟩ v14).setCell ⟨rb, 15, none⟩ v15) (some rb) := (((((((((((((((grown_cell W rb 0 v0).trans (grown_cell _ rb 1 v1)).trans (grown_cell _ rb 2 v2)).trans (grown_cell _ rb 3 v3)).trans (grown_cell _ rb 4 v4)).trans (grown_cell _ rb 5 v5)).trans (grown_cell _ rb 6 v6)).trans (grown_cell _ rb 7 v7)).trans (grown_cell _ rb 8 v8)).trans (grown_cell _ rb 9 v9)).trans (grown_cell _ rb 10 v10)).trans (grown_cell _ rb 11 v11)).trans (grown_cell _ rb 12 v12)).trans (grown_cell _ rb 13 v13)).trans (grown_cell _ rb 14 v14)).trans (grown_cell _ rb 15 v15)
 have hz := S.z
 have ht := S.zt
 exact ⟨⟨S.i.grown G (fun j e => by injection e with e; subst e; exact ⟨by omega, fun h0 p hp => by have := S.b h0 p hp; omega⟩), ⟨G.os.trans S.g.os, G.tape.trans S.g.tape, G.output.trans S.g.output, Nat.le_trans S.g.size G.size, fun j hj e => (G.block j (by have := S.g.size; omega) (fun q => by injection q with q; omega)).trans (S.g.block j hj e)⟩⟩, S.st _ _ S.f G.size (fun j h1 h2 => G.block j (by omega) (fun q => by injection q with q; omega)), Nat.le_trans ht.2.2.2 G.size⟩
set_option maxRecDepth 100000 in
set_option maxHeartbeats 8000000 in
theorem r15RdGround_any (nb : Nat) (a : Option Addr) (n c : Nat) (l : List Int) (s : IS) (w : World) (h : IN w nb a n c l s) :
  Calls Tryz.prog 29 #[.pointer (some ⟨nb, 0, none⟩)] w fun e w' => (∃ vh vg vk, e = .returned (.agg #[.int .i64 (groundC.rd l s).1.2.1, .int .i64 (groundC.rd l s).1.2.2.1, .int .i64 (groundC.rd l s).1.2.2.2.1, .int .i64 (groundC.rd l s).1.2.2.2.2.1, .int .i64 (groundC.rd l s).1.2.2.2.2.2.1.1, .int .i64 (groundC.rd l s).1.2.2.2.2.2.1.2, vh, vg, vk, .slice none 0 0, .slice none 0 0, .slice none 0 0, .int .i64 0, .int .i64 0, .int .u32 0, .int .i64 0])
   ∧ Lies w.heap.size w'.heap.size vh (groundC.rd l s).1.2.2.2.2.2.2.1.length (inV (groundC.rd l s).1.2.2.2.2.2.2.1) w' ∧ Lies w.heap.size w'.heap.size vg (groundC.rd l s).1.2.2.2.2.2.2.2.1.length (inV (groundC.rd l s).1.2.2.2.2.2.2.2.1) w' ∧ Lies w.heap.size w'.heap.size vk (groundC.rd l s).1.2.2.2.2.2.2.2.2.length (kdV (groundC.rd l s).1.2.2.2.2.2.2.2.2) w')
   ∧ IN w' nb a n c l (groundC.rd l s).2 ∧ w.grownBy w' (some nb) := by
 obtain rfl : l.length = n := h.bl.hn
 have HB := fun (h0 : 0 < l.length) (p : Addr) (hp : a = some p) => show p.block < w.heap.size by
  obtain ⟨b, off, e2, hb, -⟩ := h.bl.c h0
  rw [e2] at hp
  cases hp
  exact hb
 have hz := h.lt
 have S0 := Lib.hid (show RgS w ((w.alloc (.cells (gdL 0 0 0 0 0 0 sl0 sl0 sl0).toArray 34)).alloc (.cells (gdL 0 0 0 0 0 0 sl0 sl0 sl0).toArray 34)) nb a l.length c l s w.heap.size (w.heap.size + 1) (w.heap.size + 1 + 1) (gdL 0 0 0 0 0 0 sl0 sl0 sl0) (gdL 0 0 0 0 0 0 sl0 sl0 sl0) (fun _ => True) from by
  have b2 : Below w.heap.size w ((w.alloc (.cells (gdL 0 0 0 0 0 0 sl0 sl0 sl0).toArray 34)).alloc (.cells (gdL 0 0 0 0 0 0 sl0 sl0 sl0).toArray 34)) := ((Below.refl _ _).alloc (Nat.le_refl _) _).alloc (by simp) _
  exact ⟨h.grown (row := none) (below_grown b2 none) (fun j e => by cases e), (BW.new w _ (gdL 0 0 0 0 0 0 sl0 sl0 sl0) _ rfl).alloc _, BW.new _ _ (gdL 0 0 0 0 0 0 sl0 sl0 sl0) _ (by simp), below_grown b2 _, hz, ⟨Nat.le_refl _, by omega, by omega, by simp⟩, HB, trivial, Stab.true⟩)
 have X1 := Lib.hid (fun (W : World) (I : IN W nb a l.length c l s) => (show Calls Tryz.prog 80 #[.pointer (some ⟨nb, 0, none⟩), .string chtr] W fun en w' => en = .returned (.tuple #[]) ∧ IN w' nb a l.length c l ((markC chtr).rd l s).2 ∧ W.grownBy w' (some nb) from riMark_any chtr nb a l.length c l s W I))
 obtain ⟨⟨u0, s1⟩, e1⟩ : ∃ q, (markC chtr).rd l s = q := ⟨_, rfl⟩
 obtain ⟨⟨rate, s2⟩, e2⟩ : ∃ q, (cntC 60 1024).rd l s1 = q := ⟨_, rfl⟩
 obtain ⟨⟨cell, s3⟩, e3⟩ : ∃ q, numC.rd l s2 = q := ⟨_, rfl⟩
 obtain ⟨⟨cols, s4⟩, e4⟩ : ∃ q, (cntC 1 64).rd l s3 = q := ⟨_, rfl⟩
 obtain ⟨⟨rows, s5⟩, e5⟩ : ∃ q, (cntC 1 64).rd l s4 = q := ⟨_, rfl⟩
 obtain ⟨⟨⟨px, py⟩, s6⟩, e6⟩ : ∃ q, placeC.rd l s5 = q := ⟨_, rfl⟩
 obtain ⟨⟨H, s7⟩, e7⟩ : ∃ q, repR (numC.rd l) ((cols + 1) * (rows + 1)).toNat s6 = q := ⟨_, rfl⟩
 obtain ⟨⟨G, s8⟩, e8⟩ : ∃ q, repR ((cntC 0 7).rd l) (cols * rows).toNat s7 = q := ⟨_, rfl⟩
 obtain ⟨⟨nk, s9⟩, e9⟩ : ∃ q, (cntC 1 8).rd l s8 = q := ⟨_, rfl⟩
 obtain ⟨⟨K, s10⟩, e10⟩ : ∃ q, repR (kindC.rd l) nk.toNat s9 = q := ⟨_, rfl⟩
 have E : groundC.rd l s = ((u0, rate, cell, cols, rows, (px, py), H, G, K), s10) := bind_eq e1 (bind_eq e2 (bind_eq e3 (bind_eq e4 (bind_eq e5 (bind_eq e6 (bind_eq (c := repC _ numC) e7 (bind_eq (c := repC _ (cntC 0 7)) e8 (lst_eq e9 e10))))))))
 rw [E]
 have X2 := Lib.hid (fun (W : World) (I : IN W nb a l.length c l s1) => (show Calls Tryz.prog 31 #[.pointer (some ⟨nb, 0, none⟩), .int .i64 60, .int .i64 1024] W fun en w' => en = .returned (.int .i64 ((cntC 60 1024).rd l s1).1) ∧ IN w' nb a l.length c l ((cntC 60 1024).rd l s1).2 ∧ W.grownBy w' (some nb) from riCount_any 60 1024 nb a l.length c l s1 W I))
 have X3 := Lib.hid (fun (W : World) (I : IN W nb a l.length c l s2) => (show Calls Tryz.prog 34 #[.pointer (some ⟨nb, 0, none⟩)] W fun en w' => en = .returned (.int .i64 (numC.rd l s2).1) ∧ IN w' nb a l.length c l (numC.rd l s2).2 ∧ W.grownBy w' (some nb) from riNum_any nb a l.length c l s2 W I))
 have X4 := Lib.hid (fun (W : World) (I : IN W nb a l.length c l s3) => (show Calls Tryz.prog 31 #[.pointer (some ⟨nb, 0, none⟩), .int .i64 1, .int .i64 64] W fun en w' => en = .returned (.int .i64 ((cntC 1 64).rd l s3).1) ∧ IN w' nb a l.length c l ((cntC 1 64).rd l s3).2 ∧ W.grownBy w' (some nb) from riCount_any 1 64 nb a l.length c l s3 W I))
 have X5 := Lib.hid (fun (W : World) (I : IN W nb a l.length c l s4) => (show Calls Tryz.prog 31 #[.pointer (some ⟨nb, 0, none⟩), .int .i64 1, .int .i64 64] W fun en w' => en = .returned (.int .i64 ((cntC 1 64).rd l s4).1) ∧ IN w' nb a l.length c l ((cntC 1 64).rd l s4).2 ∧ W.grownBy w' (some nb) from riCount_any 1 64 nb a l.length c l s4 W I))
 have X6 := Lib.hid (fun (W : World) (I : IN W nb a l.length c l s5) => r15RdPlace_any nb a l.length c l s5 W I)
 have X9 := Lib.hid (fun (W : World) (I : IN W nb a l.length c l s8) => (show Calls Tryz.prog 31 #[.pointer (some ⟨nb, 0, none⟩), .int .i64 1, .int .i64 8] W fun en w' => en = .returned (.int .i64 ((cntC 1 8).rd l s8).1) ∧ IN w' nb a l.length c l ((cntC 1 8).rd l s8).2 ∧ W.grownBy w' (some nb) from riCount_any 1 8 nb a l.length c l s8 W I))
 have NUM := Lib.hid (fun (q : IS) (W : World) (I : IN W nb a l.length c l q) => (show Calls Tryz.prog 34 #[.pointer (some ⟨nb, 0, none⟩)] W fun en w' => en = .returned (.int .i64 (numC.rd l q).1) ∧ IN w' nb a l.length c l (numC.rd l q).2 ∧ W.grownBy w' (some nb) from riNum_any nb a l.length c l q W I))
 have CNT := Lib.hid (fun (q : IS) (W : World) (I : IN W nb a l.length c l q) => (show Calls Tryz.prog 31 #[.pointer (some ⟨nb, 0, none⟩), .int .i64 0, .int .i64 7] W fun en w' => en = .returned (.int .i64 ((cntC 0 7).rd l q).1) ∧ IN w' nb a l.length c l ((cntC 0 7).rd l q).2 ∧ W.grownBy w' (some nb) from riCount_any 0 7 nb a l.length c l q W I))
 have FLG := Lib.hid (fun (q : IS) (W : World) (I : IN W nb a l.length c l q) => (show Calls Tryz.prog 33 #[.pointer (some ⟨nb, 0, none⟩)] W fun en w' => en = .returned (.bool (flagC.rd l q).1) ∧ IN w' nb a l.length c l (flagC.rd l q).2 ∧ W.grownBy w' (some nb) from riFlag_any nb a l.length c l q W I))
 have c1 : 0 ≤ cols ∧ cols ≤ 64 := by have := cnt_bd (lo := 1) (hi := 64) (by omega) l s3; have e : cntV 1 64 l s3 = cols := congrArg Prod.fst e4; omega
 have c2 : 0 ≤ rows ∧ rows ≤ 64 := by have := cnt_bd (lo := 1) (hi := 64) (by omega) l s4; have e : cntV 1 64 l s4 = rows := congrArg Prod.fst e5; omega
 have c3 : 0 ≤ nk ∧ nk ≤ 8 := by have := cnt_bd (lo := 1) (hi := 8) (by omega) l s8; have e : cntV 1 8 l s8 = nk := congrArg Prod.fst e9; omega
 rw [e1] at X1
 unfold chtr at X1
 rw [e2] at X2
 rw [e3] at X3
 rw [e4] at X4
 rw [e5] at X5
 rw [e6] at X6
 rw [e9] at X9
 have HH := Lib.hid e7
 have HG := Lib.hid e8
 have HK' := Lib.hid e10
 have p1 := mul_64 (a := cols + 1) (b := rows + 1) (by omega) (by omega) (by omega) (by omega)
 have p2 : 0 ≤ cols * rows ∧ cols * rows ≤ 4096 := ⟨Int.mul_nonneg c1.1 c2.1, by have := Int.mul_le_mul c1.2 c2.2 c2.1 (show (0 : Int) ≤ 64 by omega); omega⟩
 obtain ⟨NH, hNH⟩ : ∃ N : Nat, (cols + 1) * (rows + 1) = (N : Int) := ⟨((cols + 1) * (rows + 1)).toNat, by omega⟩
 obtain ⟨NG, hNG⟩ : ∃ N : Nat, cols * rows = (N : Int) := ⟨(cols * rows).toNat, by omega⟩
 obtain ⟨NK, hNK⟩ : ∃ N : Nat, nk = (N : Int) := ⟨nk.toNat, by omega⟩
 rw [hNH] at HH
 rw [hNG] at HG
 rw [hNK] at HK' X9
 have QH := Lib.hid (show (cols + 1) * (rows + 1) = (NH : Int) ∧ NH ≤ 4225 by omega)
 have QG := Lib.hid (show cols * rows = (NG : Int) ∧ NG ≤ 4096 by omega)
 have QK := Lib.hid (show NK ≤ 8 by omega)
 have QC := Lib.hid (And.intro c1 c2)
 clear h HB hz e1 e2 e3 e4 e5 e6 e7 e8 e9 e10 E c1 c2 c3 p1 p2 hNH hNG hNK
 obtain ⟨i0, hi0, hz0, hz1, hz2⟩ := info_parts fxInfoX
 go_enter Tryz.func29, Tryz.ntmps29
 go_wp2_with fail
 refine calls_gen (S := fun W => RgS w W nb a l.length c l s w.heap.size (w.heap.size + 1) (w.heap.size + 1 + 1) (gdL 0 0 0 0 0 0 sl0 sl0 sl0) (gdL 0 0 0 0 0 0 sl0 sl0 sl0) (fun _ => True)) S0.out (fun W1 hS => ?_)
 have S1 := Lib.hid hS
 clear hS S0
 refine (X1.out _ S1.out.i).mono ?_
 rintro e w2 ⟨rfl, h1, g1⟩
 have S2 := Lib.hid (S1.out.rd h1 g1)
 clear h1 g1 S1 X1
 go_wp2_with fail
 refine (X2.out _ S2.out.i).mono ?_
 rintro e w3 ⟨rfl, h1, g1⟩
 have Z3 := Lib.hid (S2.out.rd h1 g1)
 (try clear tc tf tl)
 clear h1 g1 S2 X2
 have tc := Z3.out.t.c 0 _ rfl
 have tf := Z3.out.t.f
 have tl := Z3.out.t.lt
 have S3 := Lib.hid (show RgS w _ nb a l.length c l s2 w.heap.size (w.heap.size + 1) (w.heap.size + 1 + 1) _ (gdL rate 0 0 0 0 0 sl0 sl0 sl0) _ from Z3.out.put 0 (.int .i64 rate) _ rfl)
 clear Z3
 go_wp2_with fail
 refine (X3.out _ S3.out.i).mono ?_
 rintro e w4 ⟨rfl, h1, g1⟩
 have Z4 := Lib.hid (S3.out.rd h1 g1)
 (try clear tc tf tl)
 clear h1 g1 S3 X3
 have tc := Z4.out.t.c 1 _ rfl
 have tf := Z4.out.t.f
 have tl := Z4.out.t.lt
 have S4 := Lib.hid (show RgS w _ nb a l.length c l s3 w.heap.size (w.heap.size + 1) (w.heap.size + 1 + 1) _ (gdL rate cell 0 0 0 0 sl0 sl0 sl0) _ from Z4.out.put 1 (.int .i64 cell) _ rfl)
 clear Z4
 go_wp2_with fail
 refine (X4.out _ S4.out.i).mono ?_
 rintro e w5 ⟨rfl, h1, g1⟩
 have Z5 := Lib.hid (S4.out.rd h1 g1)
 (try clear tc tf tl)
 clear h1 g1 S4 X4
 have tc := Z5.out.t.c 2 _ rfl
 have tf := Z5.out.t.f
 have tl := Z5.out.t.lt
 have S5 := Lib.hid (show RgS w _ nb a l.length c l s4 w.heap.size (w.heap.size + 1) (w.heap.size + 1 + 1) _ (gdL rate cell cols 0 0 0 sl0 sl0 sl0) _ from Z5.out.put 2 (.int .i64 cols) _ rfl)
 clear Z5
 go_wp2_with fail
 refine (X5.out _ S5.out.i).mono ?_
 rintro e w6 ⟨rfl, h1, g1⟩
 have Z6 := Lib.hid (S5.out.rd h1 g1)
 (try clear tc tf tl)
 clear h1 g1 S5 X5
 have tc := Z6.out.t.c 3 _ rfl
 have tf := Z6.out.t.f
 have tl := Z6.out.t.lt
 have S6 := Lib.hid (show RgS w _ nb a l.length c l s5 w.heap.size (w.heap.size + 1) (w.heap.size + 1 + 1) _ (gdL rate cell cols rows 0 0 sl0 sl0 sl0) _ from Z6.out.put 3 (.int .i64 rows) _ rfl)
 clear Z6
 go_wp2_with fail
 refine (X6.out _ S6.out.i).mono ?_
 rintro e w7 ⟨rfl, h1, g1⟩
 have Z7 := Lib.hid (S6.out.rd h1 g1)
 clear h1 g1 S6 X6 tc tf tl
 have tc := Z7.out.t.c 4 _ rfl
 have tc2 := Z7.out.t.c 5 _ rfl
 have tf := Z7.out.t.f
 have tl := Z7.out.t.lt
 have S7 := Lib.hid (show RgS w _ nb a l.length c l s6 w.heap.size (w.heap.size + 1) (w.heap.size + 1 + 1) _ (gdL rate cell cols rows px py sl0 sl0 sl0) _ from (Z7.out.put 4 (.int .i64 px) _ rfl).put 5 (.int .i64 py) _ rfl)
 clear Z7
 go_upto_block 0 with fail
 generalize (w7.setCell _ _).setCell _ _ = w8 at *
 go_cut [4] (fun i W => ∃ (M : Nat) (v : Value), RgS w W nb a l.length c l s7 w.heap.size (w.heap.size + 1) M (gdL 0 0 0 0 0 0 sl0 sl0 sl0) (gdL rate cell cols rows px py v sl0 sl0) (fun W' => True ∧ Lies (w.heap.size + 1 + 1) M v H.length (inV H) W'))
 case first =>
  go_wp2_with fail
  go_loopw [4] (fun i wr => ∃ (j : Nat) (xs : List Int) (sj : IS) (v : Value), j ≤ NH ∧ i = .int .i64 j ∧ xs.length = j ∧ (xs ++ (repR (numC.rd l) (NH - j) sj).1, (repR (numC.rd l) (NH - j) sj).2) = (H, s7) ∧ wr.ownsRow (w.heap.size + 1 + 1) 22 1 v j (inV xs) ∧ RgS w wr nb a l.length c l sj w.heap.size (w.heap.size + 1) (w.heap.size + 1 + 1) (gdL 0 0 0 0 0 0 sl0 sl0 sl0) (gdL rate cell cols rows px py v sl0 sl0) (fun _ => True)) (fun i _ => NH - (intOf i).toNat)
  case atStart => exact ⟨0, [], s6, sl0, by omega, rfl, rfl, HH.out, ⟨rfl, Or.inl ⟨rfl, rfl⟩⟩, S7.out⟩
  case round =>
   obtain ⟨j, xs, sj, v, hj, rfl, hx, hRR, hO, hS⟩ := hrel
   have S2 := Lib.hid hS
   have O2 := Lib.hid hO
   have RR := Lib.hid hRR
   clear hS hO hRR S7 HH
   have c3 := S2.out.i.c3
   have tc2 := S2.out.t.c 2 _ rfl
   have tc3 := S2.out.t.c 3 _ rfl
   obtain ⟨q1, q2⟩ := QH.out
   obtain ⟨u1, v1⟩ := wrap_in' (n := cols + 1) (by have := QC.out; unfold In64; omega)
   obtain ⟨u2, v2⟩ := wrap_in' (n := rows + 1) (by have := QC.out; unfold In64; omega)
   have u3 : IntKind.i64.wrap ((cols + 1) * (rows + 1)) = (NH : Int) := by rw [q1]; exact (wrap_in' (by unfold In64; omega)).1
   have v3 : wrap64 ((cols + 1) * (rows + 1)) = (NH : Int) := by rw [q1]; exact (wrap_in' (by unfold In64; omega)).2
   by_cases hlt : j < NH
   ·have z1 : (j : Int) < (NH : Int) := by omega
    by_cases he : sj.err = 0
    ·have kb : (sj.err == 0) = true := by rw [he]; rfl
     have XN := Lib.hid (NUM.out sj)
     obtain ⟨⟨x, sx⟩, ex⟩ : ∃ q, numC.rd l sj = q := ⟨_, rfl⟩
     have RQ := Lib.hid (rep_next hlt he ex RR.out)
     rw [ex] at XN
     clear RR ex q1
     go_wp2_with fail
     clear u1 v1 u2 v2 u3 v3 c3 tc2 tc3 kb
     have S3 := Lib.hid (S2.out.bl (Below.refl _ _).drew)
     have O3 := Lib.hid (World.ownsRow.drew O2.out)
     clear S2 O2
     as_aux_lemma =>
     refine wp_region_held_drew (S := fun _ => True) (by kernel_rfl) trivial (fun hHeld => ?_)
     generalize wr.drew = w3 at *
     refine tkQ 0 46 hHeld ?_
     (try simp only [putA, putB, putC, putD])
     refine tkQ 2 48 hHeld ?_
     (try simp only [putA, putB, putC, putD])
     refine wpAnyH_twoD 1 3 (by kernel_rfl) (fun o ho K hK => ?_) (fun o ho K hK => ?_) (by kernel_rfl) (by kernel_rfl)
     ·skip
      simp only [List.getElem?_toArray, List.getElem?_cons_succ, List.getElem?_cons_zero, Option.some.injEq] at ho
      subst ho
      have tc := S3.out.t.c 6 _ rfl
      go_simp
      refine hK.out _ _ trivial ?_
      clear hK K hHeld tc
      intro hHeld
      refine onlD 3 (fun K hK => ?_)
      go_simp
      refine (XN.out _ S3.out.i).mono ?_
      rintro e w4 ⟨rfl, h1, g1⟩
      have S4 := Lib.hid (S3.out.rd h1 g1)
      have O4 := Lib.hid (O3.out.kept g1 (Or.inr (fun e => by have := (O3.out.lt nb e).1; have := S3.out.z; have := S3.out.zt; omega)))
      go_wp2_with fail
      refine hK.out _ _ trivial ?_
      clear hK K hHeld h1 g1 S3 O3 XN
      intro hHeld
      skip
      refine onlD 4 (fun K hK => ?_)
      go_simp
      have B5 := (Below.refl w4.heap.size w4).alloc (Nat.le_refl _) (.cells #[Value.int .i64 x] 22)
      have S5 := Lib.hid (S4.out.bl B5)
      have O5 := Lib.hid (own_below O4.out B5)
      have N5 := Lib.hid (show ∀ (j : Nat) (u : Value), ([Value.int .i64 x] : List Value)[j]? = some u → (w4.alloc (.cells #[Value.int .i64 x] 22)).cell? ((⟨w4.heap.size, 0, none⟩ : Addr).add j) = some u from World.news_of_block (heap_alloc_new w4 _))
      generalize w4.alloc (.cells #[Value.int .i64 x] 22) = w5 at *
      generalize w4.heap.size = sb at *
      refine hK.out _ _ trivial ?_
      clear hK K hHeld S4 O4 B5
      intro hHeld
      refine onlD 5 (fun K hK => ?_)
      refine step_append_lies _ (by rfl) (.tmp 47) (.tmp 50) 25 (by rfl) (w.heap.size + 1 + 1) 22 i0 (.int .i64 0) 1 8 Tryz.underlying25 hi0 hz0 hz1 hz2 rfl (by omega) _ j (inV xs) (by rfl) O5.out ⟨sb, 0, none⟩ 1 1 [Value.int .i64 x] (by rfl) rfl N5.out (by simp [Value.oneCell']) (by omega) (by unfold maxLen; omega) (by omega) (by have := S5.out.zt; omega) _ rfl ?_
      intro g cap w6 hO hG hat hlt2
      have S6 := Lib.hid (S5.out.app O5.out hG)
      have O6 := Lib.hid hO
      refine hK.out _ _ trivial ?_
      clear hK K hHeld hO hG hat hlt2 S5 O5 N5
      intro hHeld
      refine tkQ 6 52 hHeld ?_
      (try simp only [putA, putB, putC, putD])
      refine wpAnyH_onlyD 7 (by kernel_rfl) (fun o ho K hK => ?_) (by kernel_rfl)
      have tc := S6.out.t.c 6 _ rfl
      have tf := S6.out.t.f
      have tl := S6.out.t.lt
      simp only [List.getElem?_toArray, List.getElem?_cons_succ, List.getElem?_cons_zero, Option.some.injEq] at ho
      subst ho
      go_simp
      have S7 := Lib.hid (S6.out.put 6 (.slice (some ⟨g, 0, none⟩) (j + 1) cap) _ rfl)
      have O7 := Lib.hid (O6.out.kept (grown_cell w6 (w.heap.size + 1) 6 (.slice (some ⟨g, 0, none⟩) (j + 1) cap)) (Or.inr (fun e => by have := (O6.out.lt _ e).1; have := S6.out.zt; omega)))
      refine hK.out _ _ trivial ?_
      clear hK K hHeld S6 O6 tc tf tl
      intro hHeld
      refine wpAnyH_done (by kernel_rfl) ?_ _
      clear hHeld
      go_wp2
      go_roundw
      case rel => first | exact ⟨j + 1, xs ++ [x], sx, _, by omega, by go_num, by simp [hx], RQ.out, by rw [inV_add]; exact O7.out, S7.out⟩ | ((repeat apply Exists.intro); exact ⟨⟨j + 1, xs ++ [x], sx, _, by omega, by go_num, by simp [hx], RQ.out, by rw [inV_add]; exact O7.out, S7.out⟩, rfl⟩)
      case measure => simp [intOf]; omega
     ·skip
      simp only [List.getElem?_toArray, List.getElem?_cons_succ, List.getElem?_cons_zero, Option.some.injEq] at ho
      subst ho
      go_simp
      refine (XN.out _ S3.out.i).mono ?_
      rintro e w4 ⟨rfl, h1, g1⟩
      have S4 := Lib.hid (S3.out.rd h1 g1)
      have O4 := Lib.hid (O3.out.kept g1 (Or.inr (fun e => by have := (O3.out.lt nb e).1; have := S3.out.z; have := S3.out.zt; omega)))
      go_wp2_with fail
      refine hK.out _ _ trivial ?_
      clear hK K hHeld h1 g1 S3 O3 XN
      intro hHeld
      skip
      refine wpAnyH_twoD 1 4 (by kernel_rfl) (fun o ho K hK => ?_) (fun o ho K hK => ?_) (by kernel_rfl) (by kernel_rfl)
      ·skip
       simp only [List.getElem?_toArray, List.getElem?_cons_succ, List.getElem?_cons_zero, Option.some.injEq] at ho
       subst ho
       have tc := S4.out.t.c 6 _ rfl
       go_simp
       refine hK.out _ _ trivial ?_
       clear hK K hHeld tc
       intro hHeld
       refine onlD 4 (fun K hK => ?_)
       go_simp
       have B5 := (Below.refl w4.heap.size w4).alloc (Nat.le_refl _) (.cells #[Value.int .i64 x] 22)
       have S5 := Lib.hid (S4.out.bl B5)
       have O5 := Lib.hid (own_below O4.out B5)
       have N5 := Lib.hid (show ∀ (j : Nat) (u : Value), ([Value.int .i64 x] : List Value)[j]? = some u → (w4.alloc (.cells #[Value.int .i64 x] 22)).cell? ((⟨w4.heap.size, 0, none⟩ : Addr).add j) = some u from World.news_of_block (heap_alloc_new w4 _))
       generalize w4.alloc (.cells #[Value.int .i64 x] 22) = w5 at *
       generalize w4.heap.size = sb at *
       refine hK.out _ _ trivial ?_
       clear hK K hHeld S4 O4 B5
       intro hHeld
       refine onlD 5 (fun K hK => ?_)
       refine step_append_lies _ (by rfl) (.tmp 47) (.tmp 50) 25 (by rfl) (w.heap.size + 1 + 1) 22 i0 (.int .i64 0) 1 8 Tryz.underlying25 hi0 hz0 hz1 hz2 rfl (by omega) _ j (inV xs) (by rfl) O5.out ⟨sb, 0, none⟩ 1 1 [Value.int .i64 x] (by rfl) rfl N5.out (by simp [Value.oneCell']) (by omega) (by unfold maxLen; omega) (by omega) (by have := S5.out.zt; omega) _ rfl ?_
       intro g cap w6 hO hG hat hlt2
       have S6 := Lib.hid (S5.out.app O5.out hG)
       have O6 := Lib.hid hO
       refine hK.out _ _ trivial ?_
       clear hK K hHeld hO hG hat hlt2 S5 O5 N5
       intro hHeld
       refine tkQ 6 52 hHeld ?_
       (try simp only [putA, putB, putC, putD])
       refine wpAnyH_onlyD 7 (by kernel_rfl) (fun o ho K hK => ?_) (by kernel_rfl)
       have tc := S6.out.t.c 6 _ rfl
       have tf := S6.out.t.f
       have tl := S6.out.t.lt
       simp only [List.getElem?_toArray, List.getElem?_cons_succ, List.getElem?_cons_zero, Option.some.injEq] at ho
       subst ho
       go_simp
       have S7 := Lib.hid (S6.out.put 6 (.slice (some ⟨g, 0, none⟩) (j + 1) cap) _ rfl)
       have O7 := Lib.hid (O6.out.kept (grown_cell w6 (w.heap.size + 1) 6 (.slice (some ⟨g, 0, none⟩) (j + 1) cap)) (Or.inr (fun e => by have := (O6.out.lt _ e).1; have := S6.out.zt; omega)))
       refine hK.out _ _ trivial ?_
       clear hK K hHeld S6 O6 tc tf tl
       intro hHeld
       refine wpAnyH_done (by kernel_rfl) ?_ _
       clear hHeld
       go_wp2
       go_roundw
       case rel => first | exact ⟨j + 1, xs ++ [x], sx, _, by omega, by go_num, by simp [hx], RQ.out, by rw [inV_add]; exact O7.out, S7.out⟩ | ((repeat apply Exists.intro); exact ⟨⟨j + 1, xs ++ [x], sx, _, by omega, by go_num, by simp [hx], RQ.out, by rw [inV_add]; exact O7.out, S7.out⟩, rfl⟩)
       case measure => simp [intOf]; omega
      ·skip
       simp only [List.getElem?_toArray, List.getElem?_cons_succ, List.getElem?_cons_zero, Option.some.injEq] at ho
       subst ho
       go_simp
       have B5 := (Below.refl w4.heap.size w4).alloc (Nat.le_refl _) (.cells #[Value.int .i64 x] 22)
       have S5 := Lib.hid (S4.out.bl B5)
       have O5 := Lib.hid (own_below O4.out B5)
       have N5 := Lib.hid (show ∀ (j : Nat) (u : Value), ([Value.int .i64 x] : List Value)[j]? = some u → (w4.alloc (.cells #[Value.int .i64 x] 22)).cell? ((⟨w4.heap.size, 0, none⟩ : Addr).add j) = some u from World.news_of_block (heap_alloc_new w4 _))
       generalize w4.alloc (.cells #[Value.int .i64 x] 22) = w5 at *
       generalize w4.heap.size = sb at *
       refine hK.out _ _ trivial ?_
       clear hK K hHeld S4 O4 B5
       intro hHeld
       refine onlD 1 (fun K hK => ?_)
       have tc := S5.out.t.c 6 _ rfl
       go_simp
       refine hK.out _ _ trivial ?_
       clear hK K hHeld tc
       intro hHeld
       refine onlD 5 (fun K hK => ?_)
       refine step_append_lies _ (by rfl) (.tmp 47) (.tmp 50) 25 (by rfl) (w.heap.size + 1 + 1) 22 i0 (.int .i64 0) 1 8 Tryz.underlying25 hi0 hz0 hz1 hz2 rfl (by omega) _ j (inV xs) (by rfl) O5.out ⟨sb, 0, none⟩ 1 1 [Value.int .i64 x] (by rfl) rfl N5.out (by simp [Value.oneCell']) (by omega) (by unfold maxLen; omega) (by omega) (by have := S5.out.zt; omega) _ rfl ?_
       intro g cap w6 hO hG hat hlt2
       have S6 := Lib.hid (S5.out.app O5.out hG)
       have O6 := Lib.hid hO
       refine hK.out _ _ trivial ?_
       clear hK K hHeld hO hG hat hlt2 S5 O5 N5
       intro hHeld
       refine tkQ 6 52 hHeld ?_
       (try simp only [putA, putB, putC, putD])
       refine wpAnyH_onlyD 7 (by kernel_rfl) (fun o ho K hK => ?_) (by kernel_rfl)
       have tc := S6.out.t.c 6 _ rfl
       have tf := S6.out.t.f
       have tl := S6.out.t.lt
       simp only [List.getElem?_toArray, List.getElem?_cons_succ, List.getElem?_cons_zero, Option.some.injEq] at ho
       subst ho
       go_simp
       have S7 := Lib.hid (S6.out.put 6 (.slice (some ⟨g, 0, none⟩) (j + 1) cap) _ rfl)
       have O7 := Lib.hid (O6.out.kept (grown_cell w6 (w.heap.size + 1) 6 (.slice (some ⟨g, 0, none⟩) (j + 1) cap)) (Or.inr (fun e => by have := (O6.out.lt _ e).1; have := S6.out.zt; omega)))
       refine hK.out _ _ trivial ?_
       clear hK K hHeld S6 O6 tc tf tl
       intro hHeld
       refine wpAnyH_done (by kernel_rfl) ?_ _
       clear hHeld
       go_wp2
       go_roundw
       case rel => first | exact ⟨j + 1, xs ++ [x], sx, _, by omega, by go_num, by simp [hx], RQ.out, by rw [inV_add]; exact O7.out, S7.out⟩ | ((repeat apply Exists.intro); exact ⟨⟨j + 1, xs ++ [x], sx, _, by omega, by go_num, by simp [hx], RQ.out, by rw [inV_add]; exact O7.out, S7.out⟩, rfl⟩)
       case measure => simp [intOf]; omega
    ·have kb : (sj.err == 0) = false := beq_false_of_ne he
     obtain ⟨rfl, rfl⟩ := rep_end (Or.inl he) RR.out
     clear q1
     go_wp2_with fail
     go_meet
     subst hx
     exact ⟨_, v, S2.out.done O2.out⟩
   ·have z1 : ¬ (j : Int) < (NH : Int) := by omega
    obtain ⟨rfl, rfl⟩ := rep_end (Or.inr hlt) RR.out
    clear q1
    go_wp2_with fail
    go_meet
    subst hx
    exact ⟨_, v, S2.out.done O2.out⟩
 case rest =>
  obtain ⟨M1, vh, hS⟩ := hcut
  have S8 := Lib.hid hS
  clear hS HH QH S7 tc tc2 tf tl hi0 hz0 hz1 hz2 i0
  obtain ⟨i0, hi0, hz0, hz1, hz2⟩ := info_parts intInfo
  go_upto_block 2 with fail
  go_cut [5] (fun i W => ∃ (M : Nat) (v : Value), M1 ≤ M ∧ RgS w W nb a l.length c l s8 w.heap.size (w.heap.size + 1) M (gdL 0 0 0 0 0 0 sl0 sl0 sl0) (gdL rate cell cols rows px py vh v sl0) (fun W' => (True ∧ Lies (w.heap.size + 1 + 1) M1 vh H.length (inV H) W') ∧ Lies (w.heap.size + 1 + 1) M v G.length (inV G) W'))
  case first =>
   go_wp2_with fail
   go_loopw [5] (fun i wr => ∃ (j : Nat) (xs : List Int) (sj : IS) (v : Value), j ≤ NG ∧ i = .int .i64 j ∧ xs.length = j ∧ (xs ++ (repR ((cntC 0 7).rd l) (NG - j) sj).1, (repR ((cntC 0 7).rd l) (NG - j) sj).2) = (G, s8) ∧ wr.ownsRow M1 3 1 v j (inV xs) ∧ RgS w wr nb a l.length c l sj w.heap.size (w.heap.size + 1) M1 (gdL 0 0 0 0 0 0 sl0 sl0 sl0) (gdL rate cell cols rows px py vh v sl0) (fun W' => True ∧ Lies (w.heap.size + 1 + 1) M1 vh H.length (inV H) W')) (fun i _ => NG - (intOf i).toNat)
   case atStart => exact ⟨0, [], s7, sl0, by omega, rfl, rfl, HG.out, ⟨rfl, Or.inl ⟨rfl, rfl⟩⟩, S8.out⟩
   case round =>
    obtain ⟨j, xs, sj, v, hj, rfl, hx, hRR, hO, hS⟩ := hrel
    have S2 := Lib.hid hS
    have O2 := Lib.hid hO
    have RR := Lib.hid hRR
    clear hS hO hRR S8 HG
    have c3 := S2.out.i.c3
    have tc2 := S2.out.t.c 2 _ rfl
    have tc3 := S2.out.t.c 3 _ rfl
    obtain ⟨q1, q2⟩ := QG.out
    have u3 : IntKind.i64.wrap (cols * rows) = (NG : Int) := by rw [q1]; exact (wrap_in' (by unfold In64; omega)).1
    have v3 : wrap64 (cols * rows) = (NG : Int) := by rw [q1]; exact (wrap_in' (by unfold In64; omega)).2
    by_cases hlt : j < NG
    ·have z1 : (j : Int) < (NG : Int) := by omega
     by_cases he : sj.err = 0
     ·have kb : (sj.err == 0) = true := by rw [he]; rfl
      have XN := Lib.hid (CNT.out sj)
      obtain ⟨⟨x, sx⟩, ex⟩ : ∃ q, (cntC 0 7).rd l sj = q := ⟨_, rfl⟩
      have RQ := Lib.hid (rep_next hlt he ex RR.out)
      rw [ex] at XN
      clear RR ex q1
      go_wp2_with fail
      clear u3 v3 c3 tc2 tc3 kb
      have S3 := Lib.hid (S2.out.bl (Below.refl _ _).drew)
      have O3 := Lib.hid (World.ownsRow.drew O2.out)
      clear S2 O2
      as_aux_lemma =>
      refine wp_region_held_drew (S := fun _ => True) (by kernel_rfl) trivial (fun hHeld => ?_)
      generalize wr.drew = w3 at *
      refine tkQ 0 69 hHeld ?_
      (try simp only [putA, putB, putC, putD])
      refine tkQ 2 71 hHeld ?_
      (try simp only [putA, putB, putC, putD])
      refine wpAnyH_twoD 1 3 (by kernel_rfl) (fun o ho K hK => ?_) (fun o ho K hK => ?_) (by kernel_rfl) (by kernel_rfl)
      ·skip
       simp only [List.getElem?_toArray, List.getElem?_cons_succ, List.getElem?_cons_zero, Option.some.injEq] at ho
       subst ho
       have tc := S3.out.t.c 7 _ rfl
       go_simp
       refine hK.out _ _ trivial ?_
       clear hK K hHeld tc
       intro hHeld
       refine onlD 3 (fun K hK => ?_)
       go_simp
       refine (XN.out _ S3.out.i).mono ?_
       rintro e w4 ⟨rfl, h1, g1⟩
       have S4 := Lib.hid (S3.out.rd h1 g1)
       have O4 := Lib.hid (O3.out.kept g1 (Or.inr (fun e => by have := (O3.out.lt nb e).1; have := S3.out.z; have := S3.out.zt; omega)))
       go_wp2_with fail
       refine hK.out _ _ trivial ?_
       clear hK K hHeld h1 g1 S3 O3 XN
       intro hHeld
       skip
       refine onlD 4 (fun K hK => ?_)
       go_simp
       have B5 := (Below.refl w4.heap.size w4).alloc (Nat.le_refl _) (.cells #[Value.int .i64 x] 3)
       have S5 := Lib.hid (S4.out.bl B5)
       have O5 := Lib.hid (own_below O4.out B5)
       have N5 := Lib.hid (show ∀ (j : Nat) (u : Value), ([Value.int .i64 x] : List Value)[j]? = some u → (w4.alloc (.cells #[Value.int .i64 x] 3)).cell? ((⟨w4.heap.size, 0, none⟩ : Addr).add j) = some u from World.news_of_block (heap_alloc_new w4 _))
       generalize w4.alloc (.cells #[Value.int .i64 x] 3) = w5 at *
       generalize w4.heap.size = sb at *
       refine hK.out _ _ trivial ?_
       clear hK K hHeld S4 O4 B5
       intro hHeld
       refine onlD 5 (fun K hK => ?_)
       refine step_append_lies _ (by rfl) (.tmp 70) (.tmp 73) 26 (by rfl) M1 3 i0 (.int .i64 0) 1 8 Tryz.underlying26 hi0 hz0 hz1 hz2 rfl (by omega) _ j (inV xs) (by rfl) O5.out ⟨sb, 0, none⟩ 1 1 [Value.int .i64 x] (by rfl) rfl N5.out (by simp [Value.oneCell']) (by omega) (by unfold maxLen; omega) (by omega) (by have := S5.out.zt; omega) _ rfl ?_
       intro g cap w6 hO hG hat hlt2
       have S6 := Lib.hid (S5.out.app O5.out hG)
       have O6 := Lib.hid hO
       refine hK.out _ _ trivial ?_
       clear hK K hHeld hO hG hat hlt2 S5 O5 N5
       intro hHeld
       refine tkQ 6 75 hHeld ?_
       (try simp only [putA, putB, putC, putD])
       refine wpAnyH_onlyD 7 (by kernel_rfl) (fun o ho K hK => ?_) (by kernel_rfl)
       have tc := S6.out.t.c 7 _ rfl
       have tf := S6.out.t.f
       have tl := S6.out.t.lt
       simp only [List.getElem?_toArray, List.getElem?_cons_succ, List.getElem?_cons_zero, Option.some.injEq] at ho
       subst ho
       go_simp
       have S7 := Lib.hid (S6.out.put 7 (.slice (some ⟨g, 0, none⟩) (j + 1) cap) _ rfl)
       have O7 := Lib.hid (O6.out.kept (grown_cell w6 (w.heap.size + 1) 7 (.slice (some ⟨g, 0, none⟩) (j + 1) cap)) (Or.inr (fun e => by have := (O6.out.lt _ e).1; have := S6.out.zt; omega)))
       refine hK.out _ _ trivial ?_
       clear hK K hHeld S6 O6 tc tf tl
       intro hHeld
       refine wpAnyH_done (by kernel_rfl) ?_ _
       clear hHeld
       go_wp2
       go_roundw
       case rel => first | exact ⟨j + 1, xs ++ [x], sx, _, by omega, by go_num, by simp [hx], RQ.out, by rw [inV_add]; exact O7.out, S7.out⟩ | ((repeat apply Exists.intro); exact ⟨⟨j + 1, xs ++ [x], sx, _, by omega, by go_num, by simp [hx], RQ.out, by rw [inV_add]; exact O7.out, S7.out⟩, rfl⟩)
       case measure => simp [intOf]; omega
      ·skip
       simp only [List.getElem?_toArray, List.getElem?_cons_succ, List.getElem?_cons_zero, Option.some.injEq] at ho
       subst ho
       go_simp
       refine (XN.out _ S3.out.i).mono ?_
       rintro e w4 ⟨rfl, h1, g1⟩
       have S4 := Lib.hid (S3.out.rd h1 g1)
       have O4 := Lib.hid (O3.out.kept g1 (Or.inr (fun e => by have := (O3.out.lt nb e).1; have := S3.out.z; have := S3.out.zt; omega)))
       go_wp2_with fail
       refine hK.out _ _ trivial ?_
       clear hK K hHeld h1 g1 S3 O3 XN
       intro hHeld
       skip
       refine wpAnyH_twoD 1 4 (by kernel_rfl) (fun o ho K hK => ?_) (fun o ho K hK => ?_) (by kernel_rfl) (by kernel_rfl)
       ·skip
        simp only [List.getElem?_toArray, List.getElem?_cons_succ, List.getElem?_cons_zero, Option.some.injEq] at ho
        subst ho
        have tc := S4.out.t.c 7 _ rfl
        go_simp
        refine hK.out _ _ trivial ?_
        clear hK K hHeld tc
        intro hHeld
        refine onlD 4 (fun K hK => ?_)
        go_simp
        have B5 := (Below.refl w4.heap.size w4).alloc (Nat.le_refl _) (.cells #[Value.int .i64 x] 3)
        have S5 := Lib.hid (S4.out.bl B5)
        have O5 := Lib.hid (own_below O4.out B5)
        have N5 := Lib.hid (show ∀ (j : Nat) (u : Value), ([Value.int .i64 x] : List Value)[j]? = some u → (w4.alloc (.cells #[Value.int .i64 x] 3)).cell? ((⟨w4.heap.size, 0, none⟩ : Addr).add j) = some u from World.news_of_block (heap_alloc_new w4 _))
        generalize w4.alloc (.cells #[Value.int .i64 x] 3) = w5 at *
        generalize w4.heap.size = sb at *
        refine hK.out _ _ trivial ?_
        clear hK K hHeld S4 O4 B5
        intro hHeld
        refine onlD 5 (fun K hK => ?_)
        refine step_append_lies _ (by rfl) (.tmp 70) (.tmp 73) 26 (by rfl) M1 3 i0 (.int .i64 0) 1 8 Tryz.underlying26 hi0 hz0 hz1 hz2 rfl (by omega) _ j (inV xs) (by rfl) O5.out ⟨sb, 0, none⟩ 1 1 [Value.int .i64 x] (by rfl) rfl N5.out (by simp [Value.oneCell']) (by omega) (by unfold maxLen; omega) (by omega) (by have := S5.out.zt; omega) _ rfl ?_
        intro g cap w6 hO hG hat hlt2
        have S6 := Lib.hid (S5.out.app O5.out hG)
        have O6 := Lib.hid hO
        refine hK.out _ _ trivial ?_
        clear hK K hHeld hO hG hat hlt2 S5 O5 N5
        intro hHeld
        refine tkQ 6 75 hHeld ?_
        (try simp only [putA, putB, putC, putD])
        refine wpAnyH_onlyD 7 (by kernel_rfl) (fun o ho K hK => ?_) (by kernel_rfl)
        have tc := S6.out.t.c 7 _ rfl
        have tf := S6.out.t.f
        have tl := S6.out.t.lt
        simp only [List.getElem?_toArray, List.getElem?_cons_succ, List.getElem?_cons_zero, Option.some.injEq] at ho
        subst ho
        go_simp
        have S7 := Lib.hid (S6.out.put 7 (.slice (some ⟨g, 0, none⟩) (j + 1) cap) _ rfl)
        have O7 := Lib.hid (O6.out.kept (grown_cell w6 (w.heap.size + 1) 7 (.slice (some ⟨g, 0, none⟩) (j + 1) cap)) (Or.inr (fun e => by have := (O6.out.lt _ e).1; have := S6.out.zt; omega)))
        refine hK.out _ _ trivial ?_
        clear hK K hHeld S6 O6 tc tf tl
        intro hHeld
        refine wpAnyH_done (by kernel_rfl) ?_ _
        clear hHeld
        go_wp2
        go_roundw
        case rel => first | exact ⟨j + 1, xs ++ [x], sx, _, by omega, by go_num, by simp [hx], RQ.out, by rw [inV_add]; exact O7.out, S7.out⟩ | ((repeat apply Exists.intro); exact ⟨⟨j + 1, xs ++ [x], sx, _, by omega, by go_num, by simp [hx], RQ.out, by rw [inV_add]; exact O7.out, S7.out⟩, rfl⟩)
        case measure => simp [intOf]; omega
       ·skip
        simp only [List.getElem?_toArray, List.getElem?_cons_succ, List.getElem?_cons_zero, Option.some.injEq] at ho
        subst ho
        go_simp
        have B5 := (Below.refl w4.heap.size w4).alloc (Nat.le_refl _) (.cells #[Value.int .i64 x] 3)
        have S5 := Lib.hid (S4.out.bl B5)
        have O5 := Lib.hid (own_below O4.out B5)
        have N5 := Lib.hid (show ∀ (j : Nat) (u : Value), ([Value.int .i64 x] : List Value)[j]? = some u → (w4.alloc (.cells #[Value.int .i64 x] 3)).cell? ((⟨w4.heap.size, 0, none⟩ : Addr).add j) = some u from World.news_of_block (heap_alloc_new w4 _))
        generalize w4.alloc (.cells #[Value.int .i64 x] 3) = w5 at *
        generalize w4.heap.size = sb at *
        refine hK.out _ _ trivial ?_
        clear hK K hHeld S4 O4 B5
        intro hHeld
        refine onlD 1 (fun K hK => ?_)
        have tc := S5.out.t.c 7 _ rfl
        go_simp
        refine hK.out _ _ trivial ?_
        clear hK K hHeld tc
        intro hHeld
        refine onlD 5 (fun K hK => ?_)
        refine step_append_lies _ (by rfl) (.tmp 70) (.tmp 73) 26 (by rfl) M1 3 i0 (.int .i64 0) 1 8 Tryz.underlying26 hi0 hz0 hz1 hz2 rfl (by omega) _ j (inV xs) (by rfl) O5.out ⟨sb, 0, none⟩ 1 1 [Value.int .i64 x] (by rfl) rfl N5.out (by simp [Value.oneCell']) (by omega) (by unfold maxLen; omega) (by omega) (by have := S5.out.zt; omega) _ rfl ?_
        intro g cap w6 hO hG hat hlt2
        have S6 := Lib.hid (S5.out.app O5.out hG)
        have O6 := Lib.hid hO
        refine hK.out _ _ trivial ?_
        clear hK K hHeld hO hG hat hlt2 S5 O5 N5
        intro hHeld
        refine tkQ 6 75 hHeld ?_
        (try simp only [putA, putB, putC, putD])
        refine wpAnyH_onlyD 7 (by kernel_rfl) (fun o ho K hK => ?_) (by kernel_rfl)
        have tc := S6.out.t.c 7 _ rfl
        have tf := S6.out.t.f
        have tl := S6.out.t.lt
        simp only [List.getElem?_toArray, List.getElem?_cons_succ, List.getElem?_cons_zero, Option.some.injEq] at ho
        subst ho
        go_simp
        have S7 := Lib.hid (S6.out.put 7 (.slice (some ⟨g, 0, none⟩) (j + 1) cap) _ rfl)
        have O7 := Lib.hid (O6.out.kept (grown_cell w6 (w.heap.size + 1) 7 (.slice (some ⟨g, 0, none⟩) (j + 1) cap)) (Or.inr (fun e => by have := (O6.out.lt _ e).1; have := S6.out.zt; omega)))
        refine hK.out _ _ trivial ?_
        clear hK K hHeld S6 O6 tc tf tl
        intro hHeld
        refine wpAnyH_done (by kernel_rfl) ?_ _
        clear hHeld
        go_wp2
        go_roundw
        case rel => first | exact ⟨j + 1, xs ++ [x], sx, _, by omega, by go_num, by simp [hx], RQ.out, by rw [inV_add]; exact O7.out, S7.out⟩ | ((repeat apply Exists.intro); exact ⟨⟨j + 1, xs ++ [x], sx, _, by omega, by go_num, by simp [hx], RQ.out, by rw [inV_add]; exact O7.out, S7.out⟩, rfl⟩)
        case measure => simp [intOf]; omega
     ·have kb : (sj.err == 0) = false := beq_false_of_ne he
      obtain ⟨rfl, rfl⟩ := rep_end (Or.inl he) RR.out
      clear q1
      go_wp2_with fail
      go_meet
      subst hx
      exact ⟨_, v, S2.out.zt.2.2.2, S2.out.done O2.out⟩
    ·have z1 : ¬ (j : Int) < (NG : Int) := by omega
     obtain ⟨rfl, rfl⟩ := rep_end (Or.inr hlt) RR.out
     clear q1
     go_wp2_with fail
     go_meet
     subst hx
     exact ⟨_, v, S2.out.zt.2.2.2, S2.out.done O2.out⟩
  case rest =>
   obtain ⟨M2, vg, M12, hS⟩ := hcut
   have S9 := Lib.hid hS
   clear hS HG QG S8 hi0 hz0 hz1 hz2 i0
   obtain ⟨i0, hi0, hz0, hz1, hz2⟩ := info_parts kindInfo
   go_wp2_with fail
   refine (X9.out _ S9.out.i).mono ?_
   rintro e w10 ⟨rfl, h1, g1⟩
   have S10 := Lib.hid (S9.out.rd h1 g1)
   clear h1 g1 S9 X9
   go_upto_block 4 with fail
   go_cut [7] (fun i W => ∃ (M : Nat) (v : Value), M2 ≤ M ∧ RgS w W nb a l.length c l s10 w.heap.size (w.heap.size + 1) M (gdL 0 0 0 0 0 0 sl0 sl0 sl0) (gdL rate cell cols rows px py vh vg v) (fun W' => ((True ∧ Lies (w.heap.size + 1 + 1) M1 vh H.length (inV H) W') ∧ Lies (w.heap.size + 1 + 1) M2 vg G.length (inV G) W') ∧ Lies (w.heap.size + 1 + 1) M v K.length (kdV K) W'))
   case first =>
    go_wp2_with fail
    go_loopw [7] (fun i wr => ∃ (j : Nat) (xs : List (Int × Int × Bool)) (sj : IS) (v : Value), j ≤ NK ∧ i = .int .i64 j ∧ xs.length = j ∧ (xs ++ (repR (kindC.rd l) (NK - j) sj).1, (repR (kindC.rd l) (NK - j) sj).2) = (K, s10) ∧ wr.ownsRow M2 94 3 v j (kdV xs) ∧ RgS w wr nb a l.length c l sj w.heap.size (w.heap.size + 1) M2 (gdL 0 0 0 0 0 0 sl0 sl0 sl0) (gdL rate cell cols rows px py vh vg v) (fun W' => (True ∧ Lies (w.heap.size + 1 + 1) M1 vh H.length (inV H) W') ∧ Lies (w.heap.size + 1 + 1) M2 vg G.length (inV G) W')) (fun i _ => NK - (intOf i).toNat)
    case atStart => exact ⟨0, [], s9, sl0, by omega, rfl, rfl, HK'.out, ⟨rfl, Or.inl ⟨rfl, rfl⟩⟩, S10.out⟩
    case round =>
     obtain ⟨j, xs, sj, v, hj, rfl, hx, hRR, hO, hS⟩ := hrel
     have S2 := Lib.hid hS
     have O2 := Lib.hid hO
     have RR := Lib.hid hRR
     clear hS hO hRR S10 HK'
     have c3 := S2.out.i.c3
     have q1 := QK.out
     by_cases hlt : j < NK
     ·have z1 : (j : Int) < (NK : Int) := by omega
      by_cases he : sj.err = 0
      ·have kb : (sj.err == 0) = true := by rw [he]; rfl
       have XA := Lib.hid (NUM.out sj)
       obtain ⟨⟨kg, y1⟩, ex1⟩ : ∃ q, numC.rd l sj = q := ⟨_, rfl⟩
       have XB := Lib.hid (NUM.out y1)
       obtain ⟨⟨kd, y2⟩, ex2⟩ : ∃ q, numC.rd l y1 = q := ⟨_, rfl⟩
       have XN := Lib.hid (FLG.out y2)
       obtain ⟨⟨ko, sx⟩, ex3⟩ : ∃ q, flagC.rd l y2 = q := ⟨_, rfl⟩
       have RQ := Lib.hid (rep_next (x := (kg, kd, ko)) hlt he (show kindC.rd l sj = ((kg, kd, ko), sx) from bind_eq ex1 (bind_eq ex2 ex3)) RR.out)
       rw [ex1] at XA
       rw [ex2] at XB
       rw [ex3] at XN
       clear RR ex1 ex2 ex3
       go_wp2_with fail
       clear c3 kb
       refine (XA.out _ S2.out.i).mono ?_
       rintro e wa ⟨rfl, h1, g1⟩
       have SA := Lib.hid (S2.out.rd h1 g1)
       have OA := Lib.hid (O2.out.kept g1 (Or.inr (fun e => by have := (O2.out.lt nb e).1; have := S2.out.z; have := S2.out.zt; omega)))
       clear h1 g1 S2 O2 XA
       go_wp2_with fail
       refine (XB.out _ SA.out.i).mono ?_
       rintro e wb ⟨rfl, h1, g1⟩
       have SB := Lib.hid (SA.out.rd h1 g1)
       have OB := Lib.hid (OA.out.kept g1 (Or.inr (fun e => by have := (OA.out.lt nb e).1; have := SA.out.z; have := SA.out.zt; omega)))
       clear h1 g1 SA OA XB
       go_wp2_with fail
       have S3 := Lib.hid (SB.out.bl (Below.refl _ _).drew)
       have O3 := Lib.hid (World.ownsRow.drew OB.out)
       clear SB OB
       as_aux_lemma =>
       refine wp_region_held_drew (S := fun _ => True) (by kernel_rfl) trivial (fun hHeld => ?_)
       generalize wb.drew = w3 at *
       refine tkQ 0 94 hHeld ?_
       (try simp only [putA, putB, putC, putD])
       refine tkQ 2 96 hHeld ?_
       (try simp only [putA, putB, putC, putD])
       refine tkQ 3 97 hHeld ?_
       (try simp only [putA, putB, putC, putD])
       refine tkQ 4 98 hHeld ?_
       (try simp only [putA, putB, putC, putD])
       refine wpAnyH_twoD 1 5 (by kernel_rfl) (fun o ho K hK => ?_) (fun o ho K hK => ?_) (by kernel_rfl) (by kernel_rfl)
       ·skip
        simp only [List.getElem?_toArray, List.getElem?_cons_succ, List.getElem?_cons_zero, Option.some.injEq] at ho
        subst ho
        have tc := S3.out.t.c 8 _ rfl
        go_simp
        refine hK.out _ _ trivial ?_
        clear hK K hHeld tc
        intro hHeld
        refine onlD 5 (fun K hK => ?_)
        go_simp
        refine (XN.out _ S3.out.i).mono ?_
        rintro e w4 ⟨rfl, h1, g1⟩
        have S4 := Lib.hid (S3.out.rd h1 g1)
        have O4 := Lib.hid (O3.out.kept g1 (Or.inr (fun e => by have := (O3.out.lt nb e).1; have := S3.out.z; have := S3.out.zt; omega)))
        go_wp2_with fail
        refine hK.out _ _ trivial ?_
        clear hK K hHeld h1 g1 S3 O3 XN
        intro hHeld
        refine tkQ 6 100 hHeld ?_
        (try simp only [putA, putB, putC, putD])
        refine onlD 7 (fun K hK => ?_)
        go_simp
        have B5 := (Below.refl w4.heap.size w4).alloc (Nat.le_refl _) (.cells #[Value.int .i64 kg, Value.int .i64 kd, Value.bool ko] 94)
        have S5 := Lib.hid (S4.out.bl B5)
        have O5 := Lib.hid (own_below O4.out B5)
        have N5 := Lib.hid (show ∀ (j : Nat) (u : Value), ([Value.int .i64 kg, Value.int .i64 kd, Value.bool ko] : List Value)[j]? = some u → (w4.alloc (.cells #[Value.int .i64 kg, Value.int .i64 kd, Value.bool ko] 94)).cell? ((⟨w4.heap.size, 0, none⟩ : Addr).add j) = some u from World.news_of_block (heap_alloc_new w4 _))
        generalize w4.alloc (.cells #[Value.int .i64 kg, Value.int .i64 kd, Value.bool ko] 94) = w5 at *
        generalize w4.heap.size = sb at *
        refine hK.out _ _ trivial ?_
        clear hK K hHeld S4 O4 B5
        intro hHeld
        refine onlD 8 (fun K hK => ?_)
        refine step_append_lies _ (by rfl) (.tmp 95) (.tmp 101) 27 (by rfl) M2 94 i0 (.agg #[.int .i64 0, .int .i64 0, .bool false]) 3 24 Tryz.underlying27 hi0 hz0 hz1 hz2 rfl (by omega) _ j (kdV xs) (by rfl) O5.out ⟨sb, 0, none⟩ 1 1 [Value.int .i64 kg, Value.int .i64 kd, Value.bool ko] (by rfl) rfl N5.out (by simp [Value.oneCell']) (by omega) (by unfold maxLen; omega) (by omega) (by have := S5.out.zt; omega) _ rfl ?_
        intro g cap w6 hO hG hat hlt2
        have S6 := Lib.hid (S5.out.app O5.out hG)
        have O6 := Lib.hid hO
        refine hK.out _ _ trivial ?_
        clear hK K hHeld hO hG hat hlt2 S5 O5 N5
        intro hHeld
        refine tkQ 9 103 hHeld ?_
        (try simp only [putA, putB, putC, putD])
        refine wpAnyH_onlyD 10 (by kernel_rfl) (fun o ho K hK => ?_) (by kernel_rfl)
        have tc := S6.out.t.c 8 _ rfl
        have tf := S6.out.t.f
        have tl := S6.out.t.lt
        simp only [List.getElem?_toArray, List.getElem?_cons_succ, List.getElem?_cons_zero, Option.some.injEq] at ho
        subst ho
        go_simp
        have S7 := Lib.hid (S6.out.put 8 (.slice (some ⟨g, 0, none⟩) (j + 1) cap) _ rfl)
        have O7 := Lib.hid (O6.out.kept (grown_cell w6 (w.heap.size + 1) 8 (.slice (some ⟨g, 0, none⟩) (j + 1) cap)) (Or.inr (fun e => by have := (O6.out.lt _ e).1; have := S6.out.zt; omega)))
        refine hK.out _ _ trivial ?_
        clear hK K hHeld S6 O6 tc tf tl
        intro hHeld
        refine wpAnyH_done (by kernel_rfl) ?_ _
        clear hHeld
        go_wp2
        go_roundw
        case rel => first | exact ⟨j + 1, xs ++ [(kg, kd, ko)], sx, _, by omega, by go_num, by simp [hx], RQ.out, by rw [kdV_add]; exact O7.out, S7.out⟩ | ((repeat apply Exists.intro); exact ⟨⟨j + 1, xs ++ [(kg, kd, ko)], sx, _, by omega, by go_num, by simp [hx], RQ.out, by rw [kdV_add]; exact O7.out, S7.out⟩, rfl⟩)
        case measure => simp [intOf]; omega
       ·skip
        simp only [List.getElem?_toArray, List.getElem?_cons_succ, List.getElem?_cons_zero, Option.some.injEq] at ho
        subst ho
        go_simp
        refine (XN.out _ S3.out.i).mono ?_
        rintro e w4 ⟨rfl, h1, g1⟩
        have S4 := Lib.hid (S3.out.rd h1 g1)
        have O4 := Lib.hid (O3.out.kept g1 (Or.inr (fun e => by have := (O3.out.lt nb e).1; have := S3.out.z; have := S3.out.zt; omega)))
        go_wp2_with fail
        refine hK.out _ _ trivial ?_
        clear hK K hHeld h1 g1 S3 O3 XN
        intro hHeld
        refine tkQ 6 100 hHeld ?_
        (try simp only [putA, putB, putC, putD])
        refine wpAnyH_twoD 1 7 (by kernel_rfl) (fun o ho K hK => ?_) (fun o ho K hK => ?_) (by kernel_rfl) (by kernel_rfl)
        ·skip
         simp only [List.getElem?_toArray, List.getElem?_cons_succ, List.getElem?_cons_zero, Option.some.injEq] at ho
         subst ho
         have tc := S4.out.t.c 8 _ rfl
         go_simp
         refine hK.out _ _ trivial ?_
         clear hK K hHeld tc
         intro hHeld
         refine onlD 7 (fun K hK => ?_)
         go_simp
         have B5 := (Below.refl w4.heap.size w4).alloc (Nat.le_refl _) (.cells #[Value.int .i64 kg, Value.int .i64 kd, Value.bool ko] 94)
         have S5 := Lib.hid (S4.out.bl B5)
         have O5 := Lib.hid (own_below O4.out B5)
         have N5 := Lib.hid (show ∀ (j : Nat) (u : Value), ([Value.int .i64 kg, Value.int .i64 kd, Value.bool ko] : List Value)[j]? = some u → (w4.alloc (.cells #[Value.int .i64 kg, Value.int .i64 kd, Value.bool ko] 94)).cell? ((⟨w4.heap.size, 0, none⟩ : Addr).add j) = some u from World.news_of_block (heap_alloc_new w4 _))
         generalize w4.alloc (.cells #[Value.int .i64 kg, Value.int .i64 kd, Value.bool ko] 94) = w5 at *
         generalize w4.heap.size = sb at *
         refine hK.out _ _ trivial ?_
         clear hK K hHeld S4 O4 B5
         intro hHeld
         refine onlD 8 (fun K hK => ?_)
         refine step_append_lies _ (by rfl) (.tmp 95) (.tmp 101) 27 (by rfl) M2 94 i0 (.agg #[.int .i64 0, .int .i64 0, .bool false]) 3 24 Tryz.underlying27 hi0 hz0 hz1 hz2 rfl (by omega) _ j (kdV xs) (by rfl) O5.out ⟨sb, 0, none⟩ 1 1 [Value.int .i64 kg, Value.int .i64 kd, Value.bool ko] (by rfl) rfl N5.out (by simp [Value.oneCell']) (by omega) (by unfold maxLen; omega) (by omega) (by have := S5.out.zt; omega) _ rfl ?_
         intro g cap w6 hO hG hat hlt2
         have S6 := Lib.hid (S5.out.app O5.out hG)
         have O6 := Lib.hid hO
         refine hK.out _ _ trivial ?_
         clear hK K hHeld hO hG hat hlt2 S5 O5 N5
         intro hHeld
         refine tkQ 9 103 hHeld ?_
         (try simp only [putA, putB, putC, putD])
         refine wpAnyH_onlyD 10 (by kernel_rfl) (fun o ho K hK => ?_) (by kernel_rfl)
         have tc := S6.out.t.c 8 _ rfl
         have tf := S6.out.t.f
         have tl := S6.out.t.lt
         simp only [List.getElem?_toArray, List.getElem?_cons_succ, List.getElem?_cons_zero, Option.some.injEq] at ho
         subst ho
         go_simp
         have S7 := Lib.hid (S6.out.put 8 (.slice (some ⟨g, 0, none⟩) (j + 1) cap) _ rfl)
         have O7 := Lib.hid (O6.out.kept (grown_cell w6 (w.heap.size + 1) 8 (.slice (some ⟨g, 0, none⟩) (j + 1) cap)) (Or.inr (fun e => by have := (O6.out.lt _ e).1; have := S6.out.zt; omega)))
         refine hK.out _ _ trivial ?_
         clear hK K hHeld S6 O6 tc tf tl
         intro hHeld
         refine wpAnyH_done (by kernel_rfl) ?_ _
         clear hHeld
         go_wp2
         go_roundw
         case rel => first | exact ⟨j + 1, xs ++ [(kg, kd, ko)], sx, _, by omega, by go_num, by simp [hx], RQ.out, by rw [kdV_add]; exact O7.out, S7.out⟩ | ((repeat apply Exists.intro); exact ⟨⟨j + 1, xs ++ [(kg, kd, ko)], sx, _, by omega, by go_num, by simp [hx], RQ.out, by rw [kdV_add]; exact O7.out, S7.out⟩, rfl⟩)
         case measure => simp [intOf]; omega
        ·skip
         simp only [List.getElem?_toArray, List.getElem?_cons_succ, List.getElem?_cons_zero, Option.some.injEq] at ho
         subst ho
         go_simp
         have B5 := (Below.refl w4.heap.size w4).alloc (Nat.le_refl _) (.cells #[Value.int .i64 kg, Value.int .i64 kd, Value.bool ko] 94)
         have S5 := Lib.hid (S4.out.bl B5)
         have O5 := Lib.hid (own_below O4.out B5)
         have N5 := Lib.hid (show ∀ (j : Nat) (u : Value), ([Value.int .i64 kg, Value.int .i64 kd, Value.bool ko] : List Value)[j]? = some u → (w4.alloc (.cells #[Value.int .i64 kg, Value.int .i64 kd, Value.bool ko] 94)).cell? ((⟨w4.heap.size, 0, none⟩ : Addr).add j) = some u from World.news_of_block (heap_alloc_new w4 _))
         generalize w4.alloc (.cells #[Value.int .i64 kg, Value.int .i64 kd, Value.bool ko] 94) = w5 at *
         generalize w4.heap.size = sb at *
         refine hK.out _ _ trivial ?_
         clear hK K hHeld S4 O4 B5
         intro hHeld
         refine onlD 1 (fun K hK => ?_)
         have tc := S5.out.t.c 8 _ rfl
         go_simp
         refine hK.out _ _ trivial ?_
         clear hK K hHeld tc
         intro hHeld
         refine onlD 8 (fun K hK => ?_)
         refine step_append_lies _ (by rfl) (.tmp 95) (.tmp 101) 27 (by rfl) M2 94 i0 (.agg #[.int .i64 0, .int .i64 0, .bool false]) 3 24 Tryz.underlying27 hi0 hz0 hz1 hz2 rfl (by omega) _ j (kdV xs) (by rfl) O5.out ⟨sb, 0, none⟩ 1 1 [Value.int .i64 kg, Value.int .i64 kd, Value.bool ko] (by rfl) rfl N5.out (by simp [Value.oneCell']) (by omega) (by unfold maxLen; omega) (by omega) (by have := S5.out.zt; omega) _ rfl ?_
         intro g cap w6 hO hG hat hlt2
         have S6 := Lib.hid (S5.out.app O5.out hG)
         have O6 := Lib.hid hO
         refine hK.out _ _ trivial ?_
         clear hK K hHeld hO hG hat hlt2 S5 O5 N5
         intro hHeld
         refine tkQ 9 103 hHeld ?_
         (try simp only [putA, putB, putC, putD])
         refine wpAnyH_onlyD 10 (by kernel_rfl) (fun o ho K hK => ?_) (by kernel_rfl)
         have tc := S6.out.t.c 8 _ rfl
         have tf := S6.out.t.f
         have tl := S6.out.t.lt
         simp only [List.getElem?_toArray, List.getElem?_cons_succ, List.getElem?_cons_zero, Option.some.injEq] at ho
         subst ho
         go_simp
         have S7 := Lib.hid (S6.out.put 8 (.slice (some ⟨g, 0, none⟩) (j + 1) cap) _ rfl)
         have O7 := Lib.hid (O6.out.kept (grown_cell w6 (w.heap.size + 1) 8 (.slice (some ⟨g, 0, none⟩) (j + 1) cap)) (Or.inr (fun e => by have := (O6.out.lt _ e).1; have := S6.out.zt; omega)))
         refine hK.out _ _ trivial ?_
         clear hK K hHeld S6 O6 tc tf tl
         intro hHeld
         refine wpAnyH_done (by kernel_rfl) ?_ _
         clear hHeld
         go_wp2
         go_roundw
         case rel => first | exact ⟨j + 1, xs ++ [(kg, kd, ko)], sx, _, by omega, by go_num, by simp [hx], RQ.out, by rw [kdV_add]; exact O7.out, S7.out⟩ | ((repeat apply Exists.intro); exact ⟨⟨j + 1, xs ++ [(kg, kd, ko)], sx, _, by omega, by go_num, by simp [hx], RQ.out, by rw [kdV_add]; exact O7.out, S7.out⟩, rfl⟩)
         case measure => simp [intOf]; omega
      ·have kb : (sj.err == 0) = false := beq_false_of_ne he
       obtain ⟨rfl, rfl⟩ := rep_end (Or.inl he) RR.out
       clear q1
       go_wp2_with fail
       go_meet
       subst hx
       exact ⟨_, v, S2.out.zt.2.2.2, S2.out.done O2.out⟩
     ·have z1 : ¬ (j : Int) < (NK : Int) := by omega
      obtain ⟨rfl, rfl⟩ := rep_end (Or.inr hlt) RR.out
      clear q1
      go_wp2_with fail
      go_meet
      subst hx
      exact ⟨_, v, S2.out.zt.2.2.2, S2.out.done O2.out⟩
   case rest =>
    obtain ⟨M3, v, M23, hS⟩ := hcut
    have S11 := Lib.hid hS
    clear hS S10 HK' NUM CNT FLG hi0 hz0 hz1 hz2 i0
    obtain ⟨⟨⟨-, ⟨ah, ch, eh, -⟩⟩, ⟨ag, cg, eg, -⟩⟩, ⟨ak, ck, ek, -⟩⟩ := S11.out.f
    subst eh eg ek
    have t0 := S11.out.t.c 0 _ rfl
    have t1 := S11.out.t.c 1 _ rfl
    have t2 := S11.out.t.c 2 _ rfl
    have t3 := S11.out.t.c 3 _ rfl
    have t4 := S11.out.t.c 4 _ rfl
    have t5 := S11.out.t.c 5 _ rfl
    have t6 := S11.out.t.c 6 _ rfl
    have t7 := S11.out.t.c 7 _ rfl
    have t8 := S11.out.t.c 8 _ rfl
    have t9 := S11.out.t.c 9 _ rfl
    have t10 := S11.out.t.c 10 _ rfl
    have t11 := S11.out.t.c 11 _ rfl
    have t12 := S11.out.t.c 12 _ rfl
    have t13 := S11.out.t.c 13 _ rfl
    have t14 := S11.out.t.c 14 _ rfl
    have t15 := S11.out.t.c 15 _ rfl
    have r0 := S11.out.r.c 0 _ rfl
    have r1 := S11.out.r.c 1 _ rfl
    have r2 := S11.out.r.c 2 _ rfl
    have r3 := S11.out.r.c 3 _ rfl
    have r4 := S11.out.r.c 4 _ rfl
    have r5 := S11.out.r.c 5 _ rfl
    have r6 := S11.out.r.c 6 _ rfl
    have r7 := S11.out.r.c 7 _ rfl
    have r8 := S11.out.r.c 8 _ rfl
    have r9 := S11.out.r.c 9 _ rfl
    have r10 := S11.out.r.c 10 _ rfl
    have r11 := S11.out.r.c 11 _ rfl
    have r12 := S11.out.r.c 12 _ rfl
    have r13 := S11.out.r.c 13 _ rfl
    have r14 := S11.out.r.c 14 _ rfl
    have r15 := S11.out.r.c 15 _ rfl
    have tl := S11.out.t.lt
    have rf := S11.out.r.f
    have rl := S11.out.r.lt
    go_wp2
    have FN := S11.out.fin (.int .i64 rate) (.int .i64 cell) (.int .i64 cols) (.int .i64 rows) (.int .i64 px) (.int .i64 py) (.slice ah H.length ch) (.slice ag G.length cg) (.slice ak K.length ck) (.slice none 0 0) (.slice none 0 0) (.slice none 0 0) (.int .i64 0) (.int .i64 0) (.int .u32 0) (.int .i64 0)
    have hz2 := S11.out.zt
    obtain ⟨⟨f1, f2⟩, ⟨⟨⟨-, f3⟩, f4⟩, f5⟩, f6⟩ := FN
    exact bodyPost_ret (v := .agg #[.int .i64 rate, .int .i64 cell, .int .i64 cols, .int .i64 rows, .int .i64 px, .int .i64 py, .slice ah H.length ch, .slice ag G.length cg, .slice ak K.length ck, .slice none 0 0, .slice none 0 0, .slice none 0 0, .int .i64 0, .int .i64 0, .int .u32 0, .int .i64 0]) (by simp [results, Tryz.results29, go_sem, r0, r1, r2, r3, r4, r5, r6, r7, r8, r9, r10, r11, r12, r13, r14, r15]) rfl ⟨⟨_, _, _, rfl, f3.mono (by omega) (by omega), f4.mono (by omega) (by omega), f5.mono (by omega) (by omega)⟩, f1, f2⟩
end Go.Proofs.YtmdjnamkbekjkaaGreatDoor
