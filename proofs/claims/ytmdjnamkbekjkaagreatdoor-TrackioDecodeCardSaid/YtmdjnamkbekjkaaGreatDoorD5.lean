/- -/
import Derived.Test.YtmdjnamkbekjkaaGreatDoorB7
import Derived.Test.YtmdjnamkbekjkaaGreatDoorSh
import Derived.Lib.LazyBuf
import Derived.Laws.Bits64b
import Derived.Test.YtmdjnamkbekjkaaGreatDoorBk
namespace Go.Proofs.YtmdjnamkbekjkaaGreatDoor
open Go.RowKit
set_option linter.unusedVariables false
set_option linter.unusedSimpArgs false
set_option maxRecDepth 100000 in
theorem OpsM.at {w W : World} {a : Option Addr} {len cap : Nat} {f : Nat → OpI} (D : OpsM w a len cap f) (h : Below w.heap.size w W) : OpsM W a len cap f := D.below h (Nat.le_refl _)
theorem OpsM.cell {w : World} {b off len cap : Nat} {f : Nat → OpI} {j : Nat} (D : OpsM w (some ⟨b, off, none⟩) len cap f) (hj : j < len) : ∀ k u, (f j).vals[k]? = some u → w.cell? ⟨b, off + j * 5 + k, none⟩ = some u := by
 obtain ⟨b', off', e, _, hc⟩ := D.at' (by omega)
 cases e
 exact hc j hj
structure QS (I : InT) (w W : World) (base top nb : Nat) (l : List Int) (s : IS) : Prop where
 p : I.P base top W nb l s
 b : Below w.heap.size w W
 wb : w.heap.size ≤ base
theorem QS.step {I : InT} {w W W' : World} {base top nb : Nat} {l : List Int} {s : IS} (r : QS I w W base top nb l s) (h : Below W.heap.size W W') : QS I w W' base top nb l s :=
 ⟨I.keep r.p h.size (fun j h1 h2 => h.block j (by have := I.top r.p; omega)), r.b.trans (h.mono r.b.size), r.wb⟩
theorem Mid.to {base top : Nat} {W W' : World} (k : Mid base top W W') (h : base ≤ W.heap.size) : Below base W W' := ⟨k.os, k.tape, k.output, k.size, fun j hj => k.block j (by omega) (Or.inl hj)⟩
theorem OB.keepB {base : Nat} {W W' : World} {v : Value} {xs : List Value} (h : OB base W v xs) (hs : W.heap.size ≤ W'.heap.size) (hk : ∀ g, v.ownBlock = some g → W'.heap[g]? = W.heap[g]?) : OB base W' v xs := by
 rcases h with h | ⟨g, cap, rfl, hb, hg, hl, hm, hc, hf, hx⟩
 ·exact .inl h
 ·have B := hk g rfl
  have C : ∀ j, W'.cell? ⟨g, j, none⟩ = W.cell? ⟨g, j, none⟩ := fun j => World.cell?_of_block (a := ⟨g, j, none⟩) B
  have F : ∀ j, W'.frozen? ⟨g, j, none⟩ = W.frozen? ⟨g, j, none⟩ := fun j => World.frozen?_of_block (a := ⟨g, j, none⟩) B
  exact .inr ⟨g, cap, rfl, hb, Nat.lt_of_lt_of_le hg hs, hl, hm, fun j hj => by rw [C]; exact hc j hj, fun j => by rw [F]; exact hf j, fun j u hj => by rw [C]; exact hx j u hj⟩
structure OutP (base : Nat) (W : World) (nb : Nat) (v : Value) (l : List Int) : Prop where
 hb : base ≤ nb
 lt : nb < W.heap.size
 c : W.cell? ⟨nb, 0, none⟩ = some v
 f : ∀ j, W.frozen? ⟨nb, j, none⟩ = false
 o : OB base W v (byC l)
 ne : v.ownBlock ≠ some nb
 n : l.length ≤ 100000
def outT : OutT where
 P := OutP
 lo := fun h => ⟨h.hb, h.lt⟩
 row := fun h e => ⟨(h.o.row_lt e).1, (h.o.row_lt e).2, fun k => h.ne (by rw [e, k])⟩
 keep := fun h hs hn hg => ⟨h.hb, Nat.lt_of_lt_of_le h.lt hs, (World.cell?_of_block (a := ⟨_, 0, none⟩) hn).trans h.c, fun j => (World.frozen?_of_block (a := ⟨_, j, none⟩) hn).trans (h.f j), h.o.keepB hs hg, h.ne, h.n⟩
theorem TwoB.refl (W : World) (nb : Nat) (row : Option Nat) : TwoB W W nb row := ⟨rfl, rfl, rfl, Nat.le_refl _, fun _ _ _ _ => rfl⟩
structure PU (base : Nat) (W W' : World) (nb : Nat) (v v' : Value) (l : List Int) : Prop where
 p : OutP base W' nb v' l
 k : TwoB W W' nb v.ownBlock
 o : v'.ownBlock = v.ownBlock ∨ ∃ g, v'.ownBlock = some g ∧ W.heap.size ≤ g
theorem PU.refl {base : Nat} {W : World} {nb : Nat} {v : Value} {l : List Int} (h : OutP base W nb v l) : PU base W W nb v v l := ⟨h, TwoB.refl _ _ _, .inl rfl⟩
theorem PU.step {base : Nat} {W W' W1 : World} {nb : Nat} {v v' : Value} {l : List Int} (h : PU base W W' nb v v' l) (hb : Below W'.heap.size W' W1) : PU base W W1 nb v v' l :=
 ⟨outT.keep h.p hb.size (hb.block nb h.p.lt) (fun g e => hb.block g (h.p.o.row_lt e).2), ⟨hb.os.trans h.k.os, hb.tape.trans h.k.tape, hb.output.trans h.k.output, Nat.le_trans h.k.size hb.size, fun j hj h1 h2 => (hb.block j (Nat.lt_of_lt_of_le hj h.k.size)).trans (h.k.block j hj h1 h2)⟩, h.o⟩
theorem PU.push {base : Nat} {W W1 w2 : World} {nb : Nat} {v v' v2 : Value} {l new : List Int} (h : PU base W W1 nb v v' l) (ho : OB base w2 v2 (byC l ++ byC new)) (hg : W1.grownBy w2 v'.ownBlock) (h2 : v2.ownBlock = v'.ownBlock ∨ v2.ownBlock = some W1.heap.size) (hn : l.length + new.length ≤ 100000) :
  PU base W (w2.setCell ⟨nb, 0, none⟩ v2) nb v v2 (l ++ new) := by
 have K := grown_cell w2 nb 0 v2
 have l1 := h.p.lt
 have sz := hg.size
 have hne : v2.ownBlock ≠ some nb := by
  rcases h2 with e | e
  ·rw [e]; exact h.p.ne
  ·rw [e]; intro k; injection k; omega
 refine ⟨⟨h.p.hb, by have := K.size; omega, ?_, fun j => ?_, ?_, hne, ?_⟩, ⟨?_, ?_, ?_, ?_, fun j hj h1 h3 => ?_⟩, ?_⟩
 ·exact World.cell?_setCell_same _ _ _ ((hg.cell_far ⟨nb, 0, none⟩ l1 (fun e => h.p.ne e.symm)).trans h.p.c)
 ·rw [World.frozen?_setCell]; exact (hg.frozen_far ⟨nb, j, none⟩ l1 (fun e => h.p.ne e.symm)).trans (h.p.f j)
 ·rw [byC_append]; exact ho.grown K (fun e => absurd e hne)
 ·rw [List.length_append]; exact hn
 ·exact K.os.trans (hg.os.trans h.k.os)
 ·exact K.tape.trans (hg.tape.trans h.k.tape)
 ·exact K.output.trans (hg.output.trans h.k.output)
 ·have := h.k.size; have := K.size; omega
 ·have z := h.k.size
  have hj2 : some j ≠ v'.ownBlock := fun e => by
   rcases h.o with o | ⟨g, o, og⟩
   ·exact h3 (e.trans o)
   ·rw [o] at e; injection e; omega
  exact (K.block j (by omega) (fun e => h1 (by injection e))).trans ((hg.block j (by omega) hj2).trans (h.k.block j hj h1 h3))
 ·have z := h.k.size
  rcases h2 with e | e
  ·rw [e]; exact h.o
  ·exact .inr ⟨_, e, z⟩
theorem PU.cells {base : Nat} {W W1 w2 : World} {nb : Nat} {v v' : Value} {l : List Int} (h : PU base W W1 nb v v' l) (hg : W1.grownBy w2 v'.ownBlock) : w2.cell? ⟨nb, 0, none⟩ = some v' ∧ w2.frozen? ⟨nb, 0, none⟩ = false :=
 ⟨(hg.cell_far ⟨nb, 0, none⟩ h.p.lt (fun e => h.p.ne e.symm)).trans h.p.c, (hg.frozen_far ⟨nb, 0, none⟩ h.p.lt (fun e => h.p.ne e.symm)).trans (h.p.f 0)⟩
set_option maxRecDepth 100000 in
set_option maxHeartbeats 2000000 in
theorem oLow_any (u : Int) (u0 : 0 ≤ u) (u1 : u ≤ 18446744073709551615) (size : Nat) (hs : size ≤ 8) : outT.puts 96 #[.int .u64 u, .int .i64 size] (numB u size) := by
 intro base W nb v l hP hbase hlen
 show Calls Tryz.prog _ #[.pointer (some ⟨nb, 0, none⟩), .int .u64 u, .int .i64 size] W _
 rw [numB_length] at hlen
 have S0 := Lib.hid (PU.refl hP)
 have D := Lib.hid (dvB_in u0 u1)
 have HB := Lib.hid hbase
 clear hP hbase
 go_enter Tryz.func96, Tryz.ntmps96
 go_wp2
 go_loopw [1, 9] (fun n i wr => ∃ (j : Nat) (v' : Value), j ≤ size ∧ i = .int .i64 j ∧ n = .int .u64 (dvB u j) ∧ PU base W wr nb v v' (l ++ numB u j)) (fun _ i _ => size - (intOf i).toNat)
 case atStart => exact ⟨0, v, by omega, rfl, rfl, by rw [show numB u 0 = [] from rfl, List.append_nil]; exact S0.out⟩
 case round =>
  obtain ⟨j, v', hj, rfl, rfl, hS⟩ := hrel
  have S1 := Lib.hid hS
  clear hS S0
  by_cases c : j < size
  ·obtain ⟨q, hq⟩ : ∃ q, dvB u j = q := ⟨_, rfl⟩
   have q0 : 0 ≤ q := by rw [← hq]; exact (D.out j).1
   have q1 : q ≤ 18446744073709551615 := by rw [← hq]; exact (D.out j).2
   have E := Lib.hid (show dvB u (j + 1) = q / 256 by rw [← hq]; rfl)
   have N := Lib.hid (show l ++ numB u (j + 1) = (l ++ numB u j) ++ [q % 256] by rw [numB_succ, ← List.append_assoc, hq])
   have c0 := S1.out.p.c
   have S2 := Lib.hid (S1.out.step (((Below.refl _ _).alloc (Nat.le_refl _) (.cells #[.int .u8 (q % 256)] 5))))
   rw [hq]
   clear hq
   have sz : base ≤ wr.heap.size := by have := HB.out; have := S1.out.k.size; omega
   go_wp2_with (at_builtin; refine wpList_ob rfl (.tmp 15) (.tmp 18) 36 36 rfl 5 _ (.int .u8 0) Tryz.underlying36 rfl rfl rfl rfl (by decide) S2.out.p.o rfl _ 1 [.int .u8 (q % 256)] rfl (src_new Tryz.underlying36 wr [.int .u8 (q % 256)] 5 1 rfl (one_ints .u8 [q % 256])) (by rw [byC_length, List.length_append, numB_length]; omega) (by simp; omega) ?_)
   intro v1 w1 o1 g1 p1
   obtain ⟨a1, n1, m1, rfl⟩ : ∃ a n c, v1 = .slice a n c := by obtain ⟨a, c, h⟩ := o1.form; exact ⟨a, _, c, h⟩
   obtain ⟨cc, ff⟩ := S2.out.cells g1
   have S3 := Lib.hid (S2.out.push (new := [q % 256]) o1 g1 (p1.imp_right (fun h => h.trans (by simp))) (by rw [List.length_append, numB_length]; simp; omega))
   clear o1 g1 p1 S1 S2 D c0
   go_wp2
   go_roundw
   case rel => exact ⟨j + 1, _, by omega, by go_num, by rw [E.out], by rw [N.out]; exact S3.out⟩
   case measure => simp [intOf]; omega
  ·have e : j = size := by omega
   subst e
   go_wp2
   go_end0
   exact ⟨rfl, v', S1.out.p, S1.out.k, S1.out.o⟩
set_option maxRecDepth 100000 in
theorem oNum_any (n : Int) (hn : In64Y n) : outT.puts 54 #[.int .i64 n] (numB (tw64 n) 8) := by
 intro base W nb v l hP hbase hlen
 show Calls Tryz.prog _ #[.pointer (some ⟨nb, 0, none⟩), .int .i64 n] W _
 have X := Lib.hid (oLow_any (tw64 n) (tw64_in n).1 (tw64_in n).2 8 (by omega) base W nb v l hP hbase hlen)
 have hE : IntKind.u64.wrap n = tw64 n := by rw [IntKind.wrap_u64]; rfl
 unfold In64Y at hn
 clear hP hlen
 go_enter Tryz.func54, Tryz.ntmps54
 go_wp2_with fail
 refine X.out.mono ?_
 rintro e w1 ⟨rfl, h⟩
 have H := Lib.hid h
 clear h X hE
 go_wp2
 go_end0
 exact ⟨rfl, H.out⟩
set_option maxRecDepth 100000 in
theorem oCount_any (n : Int) (hn : In64Y n) : outT.puts 42 #[.int .i64 n] (u16B n) := by
 intro base W nb v l hP hbase hlen
 show Calls Tryz.prog _ #[.pointer (some ⟨nb, 0, none⟩), .int .i64 n] W _
 have X := Lib.hid (oLow_any (tw64 n) (tw64_in n).1 (tw64_in n).2 2 (by omega) base W nb v l hP hbase hlen)
 have hE : IntKind.u64.wrap n = tw64 n := by rw [IntKind.wrap_u64]; rfl
 unfold In64Y at hn
 clear hP hlen
 go_enter Tryz.func42, Tryz.ntmps42
 go_wp2_with fail
 refine X.out.mono ?_
 rintro e w1 ⟨rfl, h⟩
 have H := Lib.hid h
 clear h X hE
 go_wp2
 go_end0
 exact ⟨rfl, H.out⟩
set_option maxRecDepth 100000 in
theorem oFlag_any (b : Bool) : outT.puts 98 #[.bool b] (flagB b) := by
 intro base W nb v l hP hbase hlen
 show Calls Tryz.prog _ #[.pointer (some ⟨nb, 0, none⟩), .bool b] W _
 cases b with
 | true =>
  have X := Lib.hid (oLow_any 1 (by omega) (by omega) 1 (by omega) base W nb v l hP hbase hlen)
  clear hP hlen
  go_enter Tryz.func98, Tryz.ntmps98
  go_wp2_with fail
  refine X.out.mono ?_
  rintro e w1 ⟨rfl, h⟩
  have H := Lib.hid h
  clear h X
  go_wp2
  go_end0
  exact ⟨rfl, H.out⟩
 | false =>
  have X := Lib.hid (oLow_any 0 (by omega) (by omega) 1 (by omega) base W nb v l hP hbase hlen)
  clear hP hlen
  go_enter Tryz.func98, Tryz.ntmps98
  go_wp2_with fail
  refine X.out.mono ?_
  rintro e w1 ⟨rfl, h⟩
  have H := Lib.hid h
  clear h X
  go_wp2
  go_end0
  exact ⟨rfl, H.out⟩
set_option maxRecDepth 100000 in
set_option maxHeartbeats 1000000 in
theorem oRaw_any (base : Nat) (W : World) (nb : Nat) (v : Value) (l : List Int) (hP : OutP base W nb v l) (hbase : base ≤ W.heap.size) (a : Option Addr) (n c : Nat) (new : List Int) (hb : BL W a n new) (hnc : n ≤ c) (hlen : l.length + new.length ≤ 100000) :
  Calls Tryz.prog 95 #[.pointer (some ⟨nb, 0, none⟩), .slice a n c] W fun e W' => e = .returned (.tuple #[]) ∧ ∃ v', OutP base W' nb v' (l ++ new) ∧ TwoB W W' nb v.ownBlock ∧ (v'.ownBlock = v.ownBlock ∨ ∃ g, v'.ownBlock = some g ∧ W.heap.size ≤ g) := by
 have S0 := Lib.hid (PU.refl hP)
 have HB := Lib.hid hb
 have hn := hb.hn
 have c0 := hP.c
 clear hP hb
 go_enter Tryz.func95, Tryz.ntmps95
 go_wp2_with (at_builtin; refine wpList_ob rfl (.tmp 10) (.tmp 11) 36 36 rfl 5 _ (.int .u8 0) Tryz.underlying36 rfl rfl rfl rfl (by decide) S0.out.p.o rfl _ n (byC new) rfl (src_bl Tryz.underlying36 HB.out (fun _ => by cases a <;> simp) c) (by rw [byC_length]; omega) (by exact hbase) ?_)
 intro v1 w1 o1 g1 p1
 obtain ⟨a1, n1, m1, rfl⟩ : ∃ a n c, v1 = .slice a n c := by obtain ⟨a, c, h⟩ := o1.form; exact ⟨a, _, c, h⟩
 obtain ⟨cc, ff⟩ := S0.out.cells g1
 have S3 := Lib.hid (S0.out.push (new := new) o1 g1 p1 hlen)
 clear o1 g1 p1 S0 c0 HB
 go_wp2
 go_end0
 exact ⟨rfl, _, S3.out.p, S3.out.k, S3.out.o⟩
theorem run_copy_four {P : Program} (w : World) (dT sT ty elem : TypeId) (b dCap : Nat) (t : ByteArray)
  (hu : P.underlying dT = some (.slice elem)) (hz : ∀ w, (Go.sizeOf elem).run P w = .ok 1 w)
  (hc : ∀ j, j < 4 → w.cell? ⟨b, j, none⟩ = some (.int .u8 0)) (hf : ∀ j, w.frozen? ⟨b, j, none⟩ = false) :
  ∃ n w', (Builtin.copy_ #[dT, sT] ty #[.slice (some ⟨b, 0, none⟩) 4 dCap, .string t]).run P w = .ok (goInt n) w' ∧ (∀ j, j < 4 → w'.cell? ⟨b, j, none⟩ = some (.int .u8 (chB t j))) ∧ (∀ j, w'.frozen? ⟨b, j, none⟩ = false) ∧ w.grownBy w' (some b) := by
 obtain ⟨n, hn⟩ : ∃ n, Nat.min t.size 4 = n := ⟨_, rfl⟩
 have hn4 : n ≤ 4 := by rw [← hn]; exact Nat.min_le_right _ _
 have hnt : n ≤ t.size := by rw [← hn]; exact Nat.min_le_left _ _
 have hsz : t.data.toList.length = t.size := by rw [Array.length_toList]; rfl
 have hl : ((t.data.toList.map fun x => Value.int .u8 (x.toNat : Int)).take n).length = n := by rw [List.length_take, List.length_map, hsz]; omega
 have hst := run_storeCells_cells (P := P) b 0 ((t.data.toList.map fun x => Value.int .u8 (x.toNat : Int)).take n) 0 w (by rw [hl]; intro j hj; simp only [Nat.zero_add]; rw [hc _ (by omega)]; rfl) (by rw [hl]; intro j hj; exact hf _) (by
  intro v hv
  obtain ⟨x, _, rfl⟩ := List.mem_map.1 (List.mem_of_mem_take hv)
  rfl)
 refine ⟨n, w.setCells b 0 ((t.data.toList.map fun x => Value.int .u8 (x.toNat : Int)).take n), ?_, fun j hj => ?_, fun j => ?_, grown_setCells _ _ _ _⟩
 ·simp [Builtin.copy_, run_underlying hu, Builtin.lenOf, Builtin.firstCells, hz, hn]
  rw [hst]
  rfl
 ·by_cases k : j < n
  ·have := World.cell?_setCells_in b ((t.data.toList.map fun x => Value.int .u8 (x.toNat : Int)).take n) 0 w (fun k hk => by rw [Nat.zero_add, hc k (by omega)]; rfl) j (by rw [hl]; exact k)
   rw [Nat.zero_add] at this
   rw [this]
   have hj : j < t.size := by omega
   simp only [List.getElem_take, List.getElem_map, Array.getElem_toList]
   unfold chB
   rw [dif_pos hj]
   rfl
  ·rw [World.cell?_setCells_out b _ 0 w _ (fun _ _ => by show j < _ ∨ _ ≤ j; rw [hl]; omega), hc j hj]
   unfold chB
   rw [dif_neg (by rw [← hn] at k; intro h; exact k (by show j < min t.size 4; omega))]
 ·exact (World.frozen?_setCells b _ 0 w _).trans (hf j)
theorem wpList_copy_four {P : Program} {w : World} {ops : Array Oper} {rest : List Oper} {o : Oper} {a : Act} {Q : Exit → Act → World → Prop} (hgd : o.guard = none) (d s : Operand) (dT sT : TypeId)
  (ho : o.op = .call { callee := .builtin .copy, args := #[d, s], argTypes := #[dT, sT] }) (elem : TypeId) (hu : P.underlying dT = some (.slice elem)) (hz : ∀ w, (Go.sizeOf elem).run P w = .ok 1 w) (b dCap : Nat) (t : ByteArray)
  (hd : a.eval d = .slice (some ⟨b, 0, none⟩) 4 dCap) (hs : a.eval s = .string t)
  (hc : ∀ j, j < 4 → w.cell? ⟨b, j, none⟩ = some (.int .u8 0)) (hf : ∀ j, w.frozen? ⟨b, j, none⟩ = false)
  (h : ∀ n w', (∀ j, j < 4 → w'.cell? ⟨b, j, none⟩ = some (.int .u8 (chB t j))) → (∀ j, w'.frozen? ⟨b, j, none⟩ = false) → w.grownBy w' (some b) → wpList P ops Q rest (a.put o.dst (goInt n)) w') : wpList P ops Q (o :: rest) a w := by
 refine wpList_plain hgd fun K hK' => ?_
 obtain ⟨n, w', hrun, r1, r2, r3⟩ := run_copy_four (P := P) w dT sT o.type elem b dCap t hu hz hc hf
 unfold Oper.wp
 simp [execOp, ho, resolve, invoke, builtin, hd, hs, hrun, Result.andThen]
 exact hK' _ _ (h n w' r1 r2 r3)
def markV (s : ByteArray) : Value := .agg #[.int .u8 (chB s 0), .int .u8 (chB s 1), .int .u8 (chB s 2), .int .u8 (chB s 3)]
set_option maxRecDepth 100000 in
set_option maxHeartbeats 1000000 in
theorem oMk_any (s : ByteArray) (w : World) : Calls Tryz.prog 94 #[.string s] w fun e w' => e = .returned (markV s) ∧ Below w.heap.size w w' := by
 unfold markV
 go_enter Tryz.func94, Tryz.ntmps94
 go_wp2_with (with_reducible refine wpList_copy_four rfl (.tmp 4) (.tmp 5) 36 9 rfl 5 Tryz.underlying36 (fun w => by simp [go_sem]) (w.heap.size + 1) 4 s rfl rfl ?_ ?_ ?_)
 ·intro j hj
  have h4 : j = 0 ∨ j = 1 ∨ j = 2 ∨ j = 3 := by omega
  rcases h4 with rfl | rfl | rfl | rfl <;> go_simp
 ·intro j
  go_simp
 ·intro n w1 hc hf hg
  have d0 := hc 0 (by omega)
  have d1 := hc 1 (by omega)
  have d2 := hc 2 (by omega)
  have d3 := hc 3 (by omega)
  have far : ∀ j, w1.cell? ⟨w.heap.size, j, none⟩ = ((w.alloc (.cells #[.int .u8 0, .int .u8 0, .int .u8 0, .int .u8 0] 145)).alloc (.cells #[.int .u8 0, .int .u8 0, .int .u8 0, .int .u8 0] 145)).cell? ⟨w.heap.size, j, none⟩ := fun j => hg.cell_far ⟨w.heap.size, j, none⟩ (by simp; omega) (by simp)
  have e0 : w1.cell? ⟨w.heap.size, 0, none⟩ = some (.int .u8 0) := by rw [far]; go_simp
  have e1 : w1.cell? ⟨w.heap.size, 1, none⟩ = some (.int .u8 0) := by rw [far]; go_simp
  have e2 : w1.cell? ⟨w.heap.size, 2, none⟩ = some (.int .u8 0) := by rw [far]; go_simp
  have e3 : w1.cell? ⟨w.heap.size, 3, none⟩ = some (.int .u8 0) := by rw [far]; go_simp
  have ef : ∀ j, w1.frozen? ⟨w.heap.size, j, none⟩ = false := fun j => (hg.frozen_far ⟨w.heap.size, j, none⟩ (by simp; omega) (by simp)).trans (by go_simp)
  have HB := Lib.hid (show Below w.heap.size w w1 from ((((Below.refl _ _).alloc (Nat.le_refl _) _).alloc (by simp) _)).trans ⟨hg.os, hg.tape, hg.output, hg.size, fun k hk => hg.block k (by simp; omega) (by intro e; injection e; omega)⟩)
  have sz : w.heap.size + 1 < w1.heap.size := by have := hg.size; simp at this; omega
  clear hc hg far
  go_wp2
  exact bodyPost_ret (v := .agg #[.int .u8 (chB s 0), .int .u8 (chB s 1), .int .u8 (chB s 2), .int .u8 (chB s 3)]) (by simp [results, Tryz.results94, go_sem, e0, e1, e2, e3, World.cell?_setCell_same]) rfl ⟨rfl, by have HB2 := HB.out; repeat (first | with_reducible refine Below.setCell ?_ (by first | omega | (simp; done) | (simp; omega)) _ | with_reducible refine Below.alloc ?_ (by first | omega | (simp; done) | (simp; omega)) _ | with_reducible refine below_drewN ?_ _ | with_reducible refine Below.drew ?_ | with_reducible exact Below.refl _ _ | with_reducible assumption | with_reducible refine Below.trans ?_ (Below.mono (by assumption) (by first | omega | (simp; done) | (simp; omega))))⟩
theorem bl_mark {W : World} {b : Nat} (s : ByteArray) (hb : b < W.heap.size) (c0 : W.cell? ⟨b, 0, none⟩ = some (.int .u8 (chB s 0))) (c1 : W.cell? ⟨b, 1, none⟩ = some (.int .u8 (chB s 1))) (c2 : W.cell? ⟨b, 2, none⟩ = some (.int .u8 (chB s 2))) (c3 : W.cell? ⟨b, 3, none⟩ = some (.int .u8 (chB s 3))) : BL W (some ⟨b, 0, none⟩) 4 (markB s 4) :=
 ⟨markB_length s 4, markB_in s 4, fun _ => ⟨b, 0, rfl, hb, fun i x hx => by
  rw [Nat.zero_add]
  have hx : ([chB s 0, chB s 1, chB s 2, chB s 3] : List Int)[i]? = some x := hx
  match i, hx with
  | 0, hx => cases hx; exact c0
  | 1, hx => cases hx; exact c1
  | 2, hx => cases hx; exact c2
  | 3, hx => cases hx; exact c3⟩⟩
set_option maxRecDepth 100000 in
set_option maxHeartbeats 1000000 in
theorem oMark_any (s : ByteArray) : outT.puts 41 #[.string s] (markB s 4) := by
 intro base W nb v l hP hbase hlen
 show Calls Tryz.prog _ #[.pointer (some ⟨nb, 0, none⟩), .string s] W _
 have S0 := Lib.hid (PU.refl hP)
 have M := Lib.hid (fun W => oMk_any s W)
 unfold markV at M
 clear hP
 go_enter Tryz.func41, Tryz.ntmps41
 go_wp2_with fail
 refine (M.out _).mono ?_
 rintro e w1 ⟨rfl, hb⟩
 have S1 := Lib.hid (S0.out.step hb)
 have z := hb.size
 clear hb S0 M
 go_wp2_with fail
 refine callsg (S := fun W2 => PU base W W2 nb v v l ∧ BL W2 (some ⟨w1.heap.size, 0, none⟩) 4 (markB s 4)) ⟨S1.out.step (by repeat (first | with_reducible refine Below.setCell ?_ (by first | omega | (simp; done) | (simp; omega)) _ | with_reducible refine Below.alloc ?_ (by first | omega | (simp; done) | (simp; omega)) _ | with_reducible refine below_drewN ?_ _ | with_reducible refine Below.drew ?_ | with_reducible exact Below.refl _ _ | with_reducible assumption | with_reducible refine Below.trans ?_ (Below.mono (by assumption) (by first | omega | (simp; done) | (simp; omega))))), bl_mark s (by simp) (by go_simp) (by go_simp) (by go_simp) (by go_simp)⟩ (fun W2 hS => ?_)
 have S2 := Lib.hid hS.1
 have B2 := Lib.hid hS.2
 have l1 := S1.out.p.lt
 have NE := Lib.hid (show ∀ g, v.ownBlock = some g → g < w1.heap.size from fun g e => (S1.out.p.o.row_lt e).2)
 clear hS S1
 refine (oRaw_any base W2 nb v l S2.out.p (by have := S2.out.k.size; omega) _ 4 4 (markB s 4) B2.out (Nat.le_refl _) hlen).mono ?_
 rintro e w3 ⟨rfl, v3, hp, hk, ho⟩
 have R := Lib.hid (show ∃ v', OutP base w3 nb v' (l ++ markB s 4) ∧ TwoB W w3 nb v.ownBlock ∧ (v'.ownBlock = v.ownBlock ∨ ∃ g, v'.ownBlock = some g ∧ W.heap.size ≤ g) from
  ⟨v3, hp, ⟨hk.os.trans S2.out.k.os, hk.tape.trans S2.out.k.tape, hk.output.trans S2.out.k.output, Nat.le_trans S2.out.k.size hk.size, fun j h1 h2 h3 => (hk.block j (Nat.lt_of_lt_of_le h1 S2.out.k.size) h2 h3).trans (S2.out.k.block j h1 h2 h3)⟩, ho.imp_right (fun ⟨g, e, h⟩ => ⟨g, e, Nat.le_trans S2.out.k.size h⟩)⟩)
 clear hp hk ho S2 B2 NE
 go_wp2
 go_end0
 exact ⟨rfl, R.out⟩
theorem OB.ofRow {base : Nat} {W : World} {T : TypeId} {v : Value} {n : Nat} {xs : List Value} (h : W.ownsRow base T 1 v n xs) : OB base W v xs := by
 have hl := h.1
 rw [Nat.mul_one] at hl
 rcases h.2 with ⟨rfl, rfl, _⟩ | ⟨g, cap, cur, rfl, hb, hg, hnc, hcm, hcs, ht⟩
 ·exact .inl ⟨rfl, List.eq_nil_of_length_eq_zero (by omega)⟩
 ·rw [Nat.mul_one] at hcs ht
  refine .inr ⟨g, cap, by rw [hl], hb, ?_, by omega, hcm, fun j hj => ?_, fun j => ?_, fun j u hj => ?_⟩
  ·rcases Nat.lt_or_ge g W.heap.size with k | k
   ·exact k
   ·rw [Array.getElem?_eq_none k] at hg; cases hg
  ·rw [cell_of_row W g j cur T (0, 0) hg, Array.getElem?_eq_getElem (by omega)]; rfl
  ·simp [World.frozen?, hg]
  ·rw [cell_of_row W g j cur T (0, 0) hg, ← Array.getElem?_toList]
   rw [← ht, List.getElem?_take] at hj
   split at hj
   ·exact hj
   ·cases hj
theorem clone_any (a : Option Addr) (n c : Nat) (l : List Int) (W : World) (hb : BL W a n l) (hn : n ≤ 1000000000) (ha : n = 0 → a = none ∨ ∃ x, a = some x) :
  Calls Tryz.prog 55 #[.slice a n c] W fun e W' => (∃ b, e = .returned b ∧ OB W.heap.size W' b (byC l)) ∧ Below W.heap.size W W' := by
 have hl := hb.hn
 cases a with
 | none =>
  have : n = 0 := by
   rcases Nat.eq_zero_or_pos n with h | h
   ·exact h
   ·obtain ⟨b, o, e, _⟩ := hb.c h; cases e
  subst this
  have : l = [] := List.eq_nil_of_length_eq_zero hl
  subst this
  refine (Tryz.bytes_Clone_nil 0 c W).mono ?_
  rintro e w1 ⟨rfl, rfl⟩
  exact ⟨⟨_, rfl, OB.nil _ _⟩, Below.refl _ _⟩
 | some x =>
  refine (Tryz.bytes_Clone_at x n c l W hl (by omega) (fun i hi => ?_)).mono ?_
  ·obtain ⟨b, o, e, hlt, hc⟩ := hb.c (by omega)
   cases e
   rw [Addr.add_lit]
   exact hc i _ (by rw [List.getElem?_eq_getElem (by omega), List.getD_eq_getElem?_getD, List.getElem?_eq_getElem (by omega)]; rfl)
  ·rintro e w1 ⟨v, rfl, hr, -, hB⟩
   exact ⟨⟨_, rfl, OB.ofRow hr⟩, hB⟩
set_option maxRecDepth 100000 in
set_option maxHeartbeats 1000000 in
theorem oBytes_any (base : Nat) (W : World) (nb : Nat) (v : Value) (l : List Int) (hP : OutP base W nb v l) (hl : Byt l) :
  Calls Tryz.prog 17 #[.pointer (some ⟨nb, 0, none⟩)] W fun e W' => (∃ b, e = .returned b ∧ OB W.heap.size W' b (byC l)) ∧ Below W.heap.size W W' := by
 have c0 := hP.c
 have hn := hP.n
 obtain ⟨a, c, rfl, hb, -⟩ := hP.o.bl hl
 have X := Lib.hid (clone_any a l.length c l W hb (by omega) (fun _ => by cases a <;> simp))
 clear hP hb
 go_enter Tryz.func17, Tryz.ntmps17
 go_wp2_with fail
 refine X.out.mono ?_
 rintro e w1 ⟨⟨b, rfl, ho⟩, hb⟩
 have H := Lib.hid (And.intro ho hb)
 clear ho hb X c0
 go_wp2
 go_ret
 exact ⟨⟨_, rfl, H.out.1⟩, H.out.2⟩
theorem oZero (base : Nat) (W : World) (hb : base ≤ W.heap.size) : ∃ v, OutP base (W.alloc (.cells #[.slice none 0 0] 49)) W.heap.size v [] ∧ v.ownBlock = none :=
 ⟨.slice none 0 0, ⟨hb, by simp, by go_simp, fun j => by go_simp, OB.nil _ _, (by intro e; cases e), by simp⟩, rfl⟩
section
structure IQ (base top : Nat) (W : World) (nb : Nat) (a : Option Addr) (c k : Nat) (l : List Int) (s : IS) : Prop where
 hb : base ≤ nb
 nt : nb < top
 tt : top ≤ W.heap.size
 c0 : W.cell? ⟨nb, 0, none⟩ = some (.slice a l.length c)
 c1 : W.cell? ⟨nb, 1, none⟩ = some (.int .i64 s.pos)
 c2 : W.cell? ⟨nb, 2, none⟩ = some (.int .i64 k)
 c3 : W.cell? ⟨nb, 3, none⟩ = some (.int .i64 s.err)
 c4 : W.cell? ⟨nb, 4, none⟩ = some (.int .i64 s.place)
 f : ∀ j, W.frozen? ⟨nb, j, none⟩ = false
 bl : BL W a l.length l
 ab : ∀ p, a = some p → base ≤ p.block ∧ p.block < top ∧ p.block ≠ nb
 nc : l.length ≤ c
 cm : c ≤ maxLen
 nm : l.length ≤ 1000000000
 le : s.pos ≤ l.length
theorem IQ.keepB {base top : Nat} {W W' : World} {nb : Nat} {a : Option Addr} {c k : Nat} {l : List Int} {s : IS} (h : IQ base top W nb a c k l s) (hs : W.heap.size ≤ W'.heap.size) (hk : ∀ j, base ≤ j → j < top → W'.heap[j]? = W.heap[j]?) : IQ base top W' nb a c k l s := by
 have B := hk nb h.hb h.nt
 have C : ∀ j, W'.cell? ⟨nb, j, none⟩ = W.cell? ⟨nb, j, none⟩ := fun j => World.cell?_of_block (a := ⟨nb, j, none⟩) B
 refine ⟨h.hb, h.nt, Nat.le_trans h.tt hs, (C 0).trans h.c0, (C 1).trans h.c1, (C 2).trans h.c2, (C 3).trans h.c3, (C 4).trans h.c4, fun j => (World.frozen?_of_block (a := ⟨nb, j, none⟩) B).trans (h.f j), ⟨h.bl.hn, h.bl.u, fun h0 => ?_⟩, h.ab, h.nc, h.cm, h.nm, h.le⟩
 obtain ⟨b, off, e, hb, hc⟩ := h.bl.c h0
 have q := h.ab _ e
 exact ⟨b, off, e, Nat.lt_of_lt_of_le hb hs, fun i x hx => (World.cell?_of_block (a := ⟨b, off + i, none⟩) (hk b q.1 q.2.1)).trans (hc i x hx)⟩
theorem IQ.below {base top : Nat} {W W' : World} {nb : Nat} {a : Option Addr} {c k : Nat} {l : List Int} {s : IS} (h : IQ base top W nb a c k l s) (g : Below W.heap.size W W') : IQ base top W' nb a c k l s :=
 h.keepB g.size (fun j _ h2 => g.block j (Nat.lt_of_lt_of_le h2 h.tt))
theorem IQ.own {base top : Nat} {W W' : World} {nb : Nat} {a : Option Addr} {c k k' : Nat} {l : List Int} {s s' : IS} (h : IQ base top W nb a c k l s) (g : W.grownBy W' (some nb)) (c0 : W'.cell? ⟨nb, 0, none⟩ = W.cell? ⟨nb, 0, none⟩) (c1 : W'.cell? ⟨nb, 1, none⟩ = some (.int .i64 s'.pos)) (c2 : W'.cell? ⟨nb, 2, none⟩ = some (.int .i64 k')) (c3 : W'.cell? ⟨nb, 3, none⟩ = some (.int .i64 s'.err)) (c4 : W'.cell? ⟨nb, 4, none⟩ = some (.int .i64 s'.place)) (f : ∀ j, W'.frozen? ⟨nb, j, none⟩ = false) (le : s'.pos ≤ l.length) : IQ base top W' nb a c k' l s' :=
 ⟨h.hb, h.nt, Nat.le_trans h.tt g.size, c0.trans h.c0, c1, c2, c3, c4, f, h.bl.grown g (fun _ p e => (h.ab p e).2.2), h.ab, h.nc, h.cm, h.nm, le⟩
theorem cell_other (W : World) (nb i j : Nat) (v : Value) (k : i ≠ j) : (W.setCell ⟨nb, i, none⟩ v).cell? ⟨nb, j, none⟩ = W.cell? ⟨nb, j, none⟩ := World.cell?_setCell_other _ _ _ _ (by intro e; injection e; omega)
theorem IQ.put34 {base top : Nat} {W : World} {nb : Nat} {a : Option Addr} {c k : Nat} {l : List Int} {s : IS} (h : IQ base top W nb a c k l s) (e p : Int) : IQ base top ((W.setCell ⟨nb, 3, none⟩ (.int .i64 e)).setCell ⟨nb, 4, none⟩ (.int .i64 p)) nb a c k l { s with err := e, place := p } := by
 refine h.own ((grown_cell W nb 3 _).trans (grown_cell _ nb 4 _)) ?_ ?_ ?_ ?_ ?_ (fun j => by rw [World.frozen?_setCell, World.frozen?_setCell]; exact h.f j) h.le
 ·rw [cell_other _ _ 4 0 _ (by omega), cell_other _ _ 3 0 _ (by omega)]
 ·rw [cell_other _ _ 4 1 _ (by omega), cell_other _ _ 3 1 _ (by omega)]; exact h.c1
 ·rw [cell_other _ _ 4 2 _ (by omega), cell_other _ _ 3 2 _ (by omega)]; exact h.c2
 ·rw [cell_other _ _ 4 3 _ (by omega)]; exact World.cell?_setCell_same _ _ _ h.c3
 ·exact World.cell?_setCell_same _ _ _ (by rw [cell_other _ _ 3 4 _ (by omega)]; exact h.c4)
theorem IQ.put2 {base top : Nat} {W : World} {nb : Nat} {a : Option Addr} {c k : Nat} {l : List Int} {s : IS} (h : IQ base top W nb a c k l s) (q : Nat) : IQ base top (W.setCell ⟨nb, 2, none⟩ (.int .i64 q)) nb a c q l s := by
 refine h.own (grown_cell W nb 2 _) ?_ ?_ ?_ ?_ ?_ (fun j => by rw [World.frozen?_setCell]; exact h.f j) h.le
 ·rw [cell_other _ _ 2 0 _ (by omega)]
 ·rw [cell_other _ _ 2 1 _ (by omega)]; exact h.c1
 ·exact World.cell?_setCell_same _ _ _ h.c2
 ·rw [cell_other _ _ 2 3 _ (by omega)]; exact h.c3
 ·rw [cell_other _ _ 2 4 _ (by omega)]; exact h.c4
theorem IQ.put1 {base top : Nat} {W : World} {nb : Nat} {a : Option Addr} {c k : Nat} {l : List Int} {s : IS} (h : IQ base top W nb a c k l s) (q : Nat) (hq : q ≤ l.length) : IQ base top (W.setCell ⟨nb, 1, none⟩ (.int .i64 q)) nb a c k l { s with pos := q } := by
 refine h.own (grown_cell W nb 1 _) ?_ ?_ ?_ ?_ ?_ (fun j => by rw [World.frozen?_setCell]; exact h.f j) hq
 ·rw [cell_other _ _ 1 0 _ (by omega)]
 ·exact World.cell?_setCell_same _ _ _ h.c1
 ·rw [cell_other _ _ 1 2 _ (by omega)]; exact h.c2
 ·rw [cell_other _ _ 1 3 _ (by omega)]; exact h.c3
 ·rw [cell_other _ _ 1 4 _ (by omega)]; exact h.c4
theorem IQ.lastA {base top : Nat} {W : World} {nb : Nat} {a : Option Addr} {c k : Nat} {l : List Int} {s s' : IS} (h : IQ base top W nb a c k l s) (e1 : s'.pos = s.pos) (e2 : s'.err = s.err) (e3 : s'.place = s.place) : IQ base top W nb a c k l s' :=
 ⟨h.hb, h.nt, h.tt, h.c0, by rw [e1]; exact h.c1, h.c2, by rw [e2]; exact h.c3, by rw [e3]; exact h.c4, h.f, h.bl, h.ab, h.nc, h.cm, h.nm, by rw [e1]; exact h.le⟩
def inTw : InT where
 P := fun base top W nb l s => ∃ a c k, IQ base top W nb a c k l s
 keep := fun ⟨a, c, k, h⟩ hs hk => ⟨a, c, k, h.keepB hs hk⟩
 top := fun ⟨a, c, k, h⟩ => ⟨by have := h.hb; have := h.nt; omega, h.tt⟩
theorem IQ.mid {base top : Nat} {W W' : World} {nb : Nat} {a : Option Addr} {c k : Nat} {l : List Int} {s : IS} (h : IQ base top W nb a c k l s) (g : W.grownBy W' (some nb)) : Mid base top W W' :=
 ⟨g.os, g.tape, g.output, g.size, fun j hj ho => g.block j hj (by have := h.hb; have := h.nt; intro e; injection e; omega)⟩
variable {base top : Nat} {nb : Nat} {a : Option Addr} {c k : Nat} {l : List Int} {s : IS}
set_option maxRecDepth 100000 in
theorem iGood_any (w : World) (h : IQ base top w nb a c k l s) : Calls Tryz.prog 123 #[.pointer (some ⟨nb, 0, none⟩)] w fun e w' => e = .returned (.bool (s.err == 0)) ∧ w = w' := by
 have c3 := h.c3
 clear h
 go_enter Tryz.func123, Tryz.ntmps123
 go_wp2
 go_ret
 exact ⟨rfl, rfl⟩
set_option maxRecDepth 100000 in
theorem iFail_any (e p : Int) (w : World) (h : IQ base top w nb a c k l s) : Calls Tryz.prog 79 #[.pointer (some ⟨nb, 0, none⟩), .int .i64 e, .int .i64 p] w fun en w' => en = .returned (.tuple #[]) ∧ IQ base top w' nb a c k l (failS e p s) ∧ w.grownBy w' (some nb) := by
 have c3 := h.c3
 have c4 := h.c4
 have hf := h.f
 have H := Lib.hid h
 have G := Lib.hid (iGood_any w h)
 clear h
 by_cases z : s.err = 0
 ·have E := Lib.hid (show failS e p s = { s with err := e, place := p } by unfold failS; rw [if_pos z])
  rw [E.out]
  rw [show (s.err == 0) = true by simp [z]] at G
  clear z
  go_enter Tryz.func79, Tryz.ntmps79
  go_wp2_with fail
  refine G.out.mono ?_
  rintro en w' ⟨rfl, rfl⟩
  clear G
  go_wp2
  go_end0
  exact ⟨rfl, H.out.put34 e p, (grown_cell w nb 3 _).trans (grown_cell _ nb 4 _)⟩
 ·have E := Lib.hid (show failS e p s = s by unfold failS; rw [if_neg z])
  rw [E.out]
  rw [show (s.err == 0) = false by simp [z]] at G
  clear z
  go_enter Tryz.func79, Tryz.ntmps79
  go_wp2_with fail
  refine G.out.mono ?_
  rintro en w' ⟨rfl, rfl⟩
  clear G
  go_wp2
  go_end0
  exact ⟨rfl, H.out, World.grownBy.refl _ _⟩
def takeS (N m : Nat) (s : IS) : IS := if s.err = 0 then (if s.pos + m ≤ N then { s with pos := s.pos + m } else failS 20 N s) else s
def takeL (l : List Int) (m : Nat) (s : IS) : List Int := if wordOk l.length m s then wordL l m s else []
def TakeR (base top : Nat) (w : World) (nb : Nat) (a : Option Addr) (c k : Nat) (l : List Int) (s' : IS) (lw : List Int) (en : Ending) (w' : World) : Prop :=
 (∃ a' c', en = .returned (.slice a' lw.length c') ∧ BL w' a' lw.length lw ∧ (∀ p, a' = some p → base ≤ p.block ∧ p.block < top ∧ p.block ≠ nb) ∧ lw.length ≤ c' ∧ c' ≤ maxLen) ∧ IQ base top w' nb a c k l s' ∧ w.grownBy w' (some nb)
theorem bl_none (W : World) : BL W none 0 [] := ⟨rfl, fun x hx => by simp at hx, fun h => absurd h (by omega)⟩
set_option maxRecDepth 100000 in
set_option maxHeartbeats 1000000 in
theorem iTake_any (m : Nat) (w : World) (hm : m ≤ 1000000000) (h : IQ base top w nb a c k l s) : Calls Tryz.prog 149 #[.pointer (some ⟨nb, 0, none⟩), .int .i64 m] w (TakeR base top w nb a c k l (takeS l.length m s) (takeL l m s)) := by
 have c0 := h.c0
 have c1 := h.c1
 have hf := h.f
 have nm := h.nm
 have le := h.le
 have H := Lib.hid h
 have G := Lib.hid (iGood_any w h)
 clear h
 by_cases z : s.err = 0
 ·rw [show (s.err == 0) = true by simp [z]] at G
  by_cases q : s.pos + m ≤ l.length
  ·obtain ⟨p, hp⟩ : ∃ p, s.pos + m = p := ⟨_, rfl⟩
   have E := Lib.hid (show takeS l.length m s = { s with pos := p } by unfold takeS; rw [if_pos z, if_pos q, hp])
   have E2 := Lib.hid (show takeL l m s = wordL l m s by unfold takeL; rw [if_pos ⟨z, q⟩])
   have E3 := Lib.hid (show (wordL l m s).length = m by unfold wordL; rw [List.length_take, List.length_drop]; omega)
   rw [E.out, E2.out]
   have q' : ¬ (l.length : Int) - (s.pos : Int) < (m : Int) := by omega
   have pp : (s.pos : Int) + (m : Int) = (p : Int) := by omega
   have HP := Lib.hid hp
   have hpn : p ≤ l.length := by omega
   clear z q hp
   go_enter Tryz.func149, Tryz.ntmps149
   go_wp2_with fail
   refine G.out.mono ?_
   rintro en w' ⟨rfl, rfl⟩
   clear G
   go_wp2_with fail
   go_quiet (fail)
   go_wp2_with fail
   refine wpg (S := fun W => IQ base top W nb a c k l s ∧ w.grownBy W (some nb)) ⟨H.out.below (bel_drewN _ _), grown_below (bel_drewN _ _) _⟩ (fun W1 hS => ?_)
   have H1 := Lib.hid hS.1
   have G1 := Lib.hid hS.2
   clear c0 c1 hf H
   have c0 := hS.1.c0
   have c1 := hS.1.c1
   have hf := hS.1.f
   have nc := hS.1.nc
   have cm := hS.1.cm
   clear hS
   go_quiet (fail)
   have z1 : ¬ (p : Int) < (s.pos : Int) := by omega
   have pmq : p - s.pos = m := by have := HP.out; omega
   have PM := Lib.hid pmq
   clear pmq
   go_wp2
   ·rename_i h
    subst h
    have m0 : m = 0 := by have := HP.out; omega
    subst m0
    have hw : wordL l 0 s = [] := by unfold wordL; simp
    rw [hw]
    go_ret
    refine ⟨⟨a, 0, rfl, ⟨rfl, fun x hx => by simp at hx, fun h => absurd h (by simp)⟩, fun x hx => H1.out.ab x hx, by simp, by omega⟩, (H1.out.below (bel_drewN _ nq)).put1 _ hpn, (G1.out.trans (grown_below (bel_drewN _ _) _)).trans (grown_cell _ nb 1 _)⟩
   ·go_ret
    have H2 := (H1.out.below (bel_drewN _ nq)).put1 p hpn
    refine ⟨⟨Option.map (fun x => x.add s.pos) a, m, by rw [E3.out, ← PM.out]; rfl, ?_, fun x hx => ?_, by rw [E3.out]; omega, by omega⟩, H2, (G1.out.trans (grown_below (bel_drewN _ _) _)).trans (grown_cell _ nb 1 _)⟩
    ·rw [E3.out]; exact H2.bl.sub (by have := HP.out; omega)
    ·cases a with
     | none => cases hx
     | some y =>
      cases hx
      have e : (y.add s.pos).block = y.block := by unfold Addr.add; split <;> rfl
      show base ≤ (y.add s.pos).block ∧ (y.add s.pos).block < top ∧ (y.add s.pos).block ≠ nb
      rw [e]; exact H1.out.ab y rfl
  ·have E := Lib.hid (show takeS l.length m s = failS 20 l.length s by unfold takeS; rw [if_pos z, if_neg q])
   have E2 := Lib.hid (show takeL l m s = [] by unfold takeL; rw [if_neg (fun h => q h.2)])
   rw [E.out, E2.out]
   have q' : (l.length : Int) - (s.pos : Int) < (m : Int) := by omega
   clear z q
   go_enter Tryz.func149, Tryz.ntmps149
   go_wp2_with fail
   refine G.out.mono ?_
   rintro en w' ⟨rfl, rfl⟩
   clear G
   go_wp2_with fail
   go_quiet (fail)
   go_wp2_with fail
   refine callsg (S := fun W => IQ base top W nb a c k l s ∧ w.grownBy W (some nb)) ⟨H.out.below (bel_drewN _ _), grown_below (bel_drewN _ _) _⟩ (fun W0 hS => ?_)
   have G0 := Lib.hid hS.2
   refine (iFail_any 20 l.length W0 hS.1).mono ?_
   clear hS c0 c1
   rintro en w1 ⟨rfl, h1, g1⟩
   have H1 := Lib.hid h1
   have G1 := Lib.hid (G0.out.trans g1)
   clear h1 g1
   go_wp2
   go_ret
   exact ⟨⟨none, 0, rfl, bl_none _, (fun p e => by cases e), by simp, by unfold maxLen; omega⟩, H1.out, G1.out⟩
 ·have E := Lib.hid (show takeS l.length m s = s by unfold takeS; rw [if_neg z])
  have E2 := Lib.hid (show takeL l m s = [] by unfold takeL; rw [if_neg (fun h => z h.1)])
  rw [E.out, E2.out]
  rw [show (s.err == 0) = false by simp [z]] at G
  clear z
  go_enter Tryz.func149, Tryz.ntmps149
  go_wp2_with fail
  refine G.out.mono ?_
  rintro en w' ⟨rfl, rfl⟩
  clear G
  go_wp2
  go_ret
  exact ⟨⟨none, 0, rfl, bl_none _, (fun p e => by cases e), by simp, by unfold maxLen; omega⟩, H.out, World.grownBy.refl _ _⟩
theorem wordS_take (N m : Nat) (s : IS) : (wordS N m s).pos = (takeS N m s).pos ∧ (wordS N m s).err = (takeS N m s).err ∧ (wordS N m s).place = (takeS N m s).place := by
 unfold wordS takeS
 split
 ·split
  ·exact ⟨rfl, rfl, rfl⟩
  ·exact ⟨rfl, rfl, rfl⟩
 ·exact ⟨rfl, rfl, rfl⟩
def WordR (base top : Nat) (w : World) (nb : Nat) (a : Option Addr) (c : Nat) (l : List Int) (m : Nat) (s : IS) (en : Ending) (w' : World) : Prop :=
 ∃ k, (wordOk l.length m s → k = s.pos) ∧ TakeR base top w nb a c k l (wordS l.length m s) (takeL l m s) en w'
set_option maxRecDepth 100000 in
set_option maxHeartbeats 1000000 in
theorem iWord_any (m : Nat) (w : World) (hm : m ≤ 1000000000) (h : IQ base top w nb a c k l s) : Calls Tryz.prog 119 #[.pointer (some ⟨nb, 0, none⟩), .int .i64 m] w (WordR base top w nb a c l m s) := by
 have c1 := h.c1
 have c2 := h.c2
 have hf := h.f
 have H := Lib.hid h
 have G := Lib.hid (iGood_any w h)
 clear h
 by_cases z : s.err = 0
 ·rw [show (s.err == 0) = true by simp [z]] at G
  clear z
  go_enter Tryz.func119, Tryz.ntmps119
  go_wp2_with fail
  refine G.out.mono ?_
  rintro en w' ⟨rfl, rfl⟩
  clear G
  go_wp2_with fail
  refine (iTake_any m _ hm (H.out.put2 s.pos)).mono ?_
  rintro en w1 ⟨⟨a', c', rfl, h1, h2, h3, h4⟩, h5, h6⟩
  have R := Lib.hid (show WordR base top w nb a c l m s (.returned (.slice a' (takeL l m s).length c')) w1 from ⟨s.pos, fun _ => rfl, ⟨a', c', rfl, h1, h2, h3, h4⟩, h5.lastA (wordS_take _ _ _).1 (wordS_take _ _ _).2.1 (wordS_take _ _ _).2.2, (grown_cell w nb 2 _).trans h6⟩)
  clear h1 h2 h3 h4 h5 h6 H c1 c2 hf
  go_wp2
  go_ret
  exact R.out
 ·have E := Lib.hid (show wordS l.length m s = s by unfold wordS; rw [if_neg z])
  have E2 := Lib.hid (show takeL l m s = [] by unfold takeL; rw [if_neg (fun h => z h.1)])
  have R := Lib.hid (show WordR base top w nb a c l m s (.returned (.slice none 0 0)) w from ⟨k, fun h => absurd h.1 z, by rw [E.out, E2.out]; exact ⟨⟨none, 0, rfl, bl_none _, (fun p e => by cases e), by simp, by unfold maxLen; omega⟩, H.out, World.grownBy.refl _ _⟩⟩)
  rw [show (s.err == 0) = false by simp [z]] at G
  clear z
  go_enter Tryz.func119, Tryz.ntmps119
  go_wp2_with fail
  refine G.out.mono ?_
  rintro en w' ⟨rfl, rfl⟩
  clear G
  go_wp2
  go_ret
  exact R.out
theorem valB_snoc (xs : List Int) (x : Int) : valB (xs ++ [x]) = valB xs + 256 ^ xs.length * x := by
 induction xs with
 | nil => simp [valB]
 | cons y r ih =>
  show y + 256 * valB (r ++ [x]) = (y + 256 * valB r) + 256 ^ (r.length + 1) * x
  rw [ih, Int.pow_succ, Int.mul_add, show (256 : Int) ^ r.length * 256 * x = 256 * (256 ^ r.length * x) by rw [Int.mul_comm (256 ^ r.length) 256, Int.mul_assoc]]
  omega
theorem or_up (j : Nat) (hj : j ≤ 7) (q x : Nat) (hq : q < 256 ^ j) (hx : x ≤ 255) : q ||| (x * 2 ^ (8 * j)) = q + 256 ^ j * x := by
 have e : (256 : Nat) ^ j = 2 ^ (8 * j) := by rw [Nat.pow_mul]
 rw [e] at hq ⊢
 rw [Nat.mul_comm x, Nat.or_comm, ← Nat.two_pow_add_eq_or_of_lt hq]
 omega
theorem pow_56 : ∀ j : Nat, j ≤ 7 → 256 ^ j * 256 ≤ 18446744073709551616 := by decide
theorem or_int (j : Nat) (hj : j ≤ 7) (q x : Int) (q0 : 0 ≤ q) (hq : q < 256 ^ j) (x0 : 0 ≤ x) (hx : x ≤ 255) : bits .or .u64 q (IntKind.u64.wrap (x * 2 ^ (8 * j))) = q + 256 ^ j * x := by
 obtain ⟨q', rfl⟩ := Int.eq_ofNat_of_zero_le q0
 obtain ⟨x', rfl⟩ := Int.eq_ofNat_of_zero_le x0
 have hq' : q' < 256 ^ j := Int.ofNat_lt.1 (by rw [Int.natCast_pow]; exact hq)
 have hx' : x' ≤ 255 := by omega
 have p := pow_56 j hj
 have e : (256 : Nat) ^ j = 2 ^ (8 * j) := by rw [Nat.pow_mul]
 have b1 : x' * 2 ^ (8 * j) < 18446744073709551616 := by
  rw [← e]
  have : x' * 256 ^ j ≤ 255 * 256 ^ j := Nat.mul_le_mul_right _ hx'
  have h0 : 0 < 256 ^ j := Nat.pow_pos (by omega)
  omega
 have hw : IntKind.u64.wrap ((x' : Int) * 2 ^ (8 * j)) = ((x' * 2 ^ (8 * j) : Nat) : Int) := by
  rw [show ((x' : Int) * 2 ^ (8 * j)) = ((x' * 2 ^ (8 * j) : Nat) : Int) by rw [Int.natCast_mul, Int.natCast_pow]; rfl, IntKind.wrap_u64]
  omega
 rw [hw, bits_or_u64_nat q' _ (by omega) b1, or_up j hj q' x' hq' hx', Int.natCast_add, Int.natCast_mul, Int.natCast_pow]
 rfl
set_option maxRecDepth 100000 in
set_option maxHeartbeats 1000000 in
theorem iWhole_any (p : Option Addr) (n d : Nat) (xs : List Int) (w : World) (hb : BL w p n xs) (hn : n ≤ 8) : Calls Tryz.prog 121 #[.slice p n d] w fun e w' => e = .returned (.int .u64 (valB xs)) ∧ w = w' := by
 have hl := hb.hn
 have hu := Lib.hid hb.u
 have HB := Lib.hid hb
 clear hb
 go_enter Tryz.func121, Tryz.ntmps121
 go_wp2
 go_loopw [3, 8] (fun u i wr => ∃ j : Nat, j ≤ n ∧ i = .int .i64 j ∧ u = .int .u64 (valB (xs.take j)) ∧ w = wr) (fun _ i _ => n - (intOf i).toNat)
 case atStart => exact ⟨0, by omega, rfl, rfl, rfl⟩
 case round =>
  obtain ⟨j, hj, rfl, rfl, rfl⟩ := hrel
  by_cases z : j < n
  ·obtain ⟨b, off, rfl, hbl, hc⟩ := HB.out.c (by omega)
   have cell := hc j xs[j] (List.getElem?_eq_getElem (by omega))
   have x0 := hu.out xs[j] (List.getElem_mem _)
   have I := valB_in (xs.take j) (fun x hx => hu.out x (List.mem_of_mem_take hx))
   obtain ⟨q, hq⟩ : ∃ q, valB (xs.take j) = q := ⟨_, rfl⟩
   obtain ⟨x, hx⟩ : ∃ x, xs[j] = x := ⟨_, rfl⟩
   have N := valB_snoc (xs.take j) xs[j]
   rw [show xs.take j ++ [xs[j]] = xs.take (j + 1) by rw [List.take_succ_eq_append_getElem (by omega)], List.length_take, show min j xs.length = j by omega] at N
   rw [List.length_take, show min j xs.length = j by omega] at I
   rw [hq] at I N ⊢
   rw [hx] at cell x0 N
   have BO := or_int j (by omega) q x I.1 I.2 x0.1 x0.2
   have K := Lib.hid (BO.trans N.symm)
   have q0 := I.1
   have x1 := x0.1
   have x2 := x0.2
   have HQ := Lib.hid (And.intro hq hx)
   clear hq hx hc x0 I N BO
   have j8 : j ≤ 7 := by omega
   go_wp2
   go_roundw
   case rel => exact ⟨j + 1, by omega, by go_num, by rw [K.out], trivial⟩
   case measure => simp [intOf]; omega
  ·have e : j = n := by omega
   subst e
   rw [List.take_of_length_le (by omega)]
   go_wp2
   go_ret
   exact ⟨rfl, rfl⟩
end
section
theorem takeL_len (l : List Int) (m : Nat) (s : IS) : (takeL l m s).length ≤ m := by
 unfold takeL
 split
 ·unfold wordL; rw [List.length_take]; omega
 ·simp
theorem takeL_in {l : List Int} {m : Nat} {s : IS} (hu : ∀ x ∈ l, 0 ≤ x ∧ x ≤ 255) : ∀ x ∈ takeL l m s, 0 ≤ x ∧ x ≤ 255 := by
 unfold takeL
 split
 ·exact wordL_in hu
 ·intro x hx; simp at hx
theorem word_bad {N m : Nat} {s : IS} (h : ¬ wordOk N m s) : (wordS N m s).err ≠ 0 := by
 unfold wordS
 split
 ·rename_i z
  split
  ·rename_i q; exact absurd ⟨z, q⟩ h
  ·unfold failS; rw [if_pos z]; show (20 : Int) ≠ 0; omega
 ·assumption
theorem failS_no {e p : Int} {s : IS} (h : s.err ≠ 0) : failS e p s = s := by unfold failS; rw [if_neg h]
theorem numV_take (l : List Int) (s : IS) : numV l s = wrap64 (valB (takeL l 8 s)) := by
 unfold numV takeL
 split
 ·rfl
 ·show 0 = wrap64 0; unfold wrap64; rfl
variable {base top : Nat} {nb : Nat} {a : Option Addr} {c k : Nat} {l : List Int} {s : IS}
set_option maxRecDepth 100000 in
theorem iRefuse_any (e : Int) (he : e ≠ 0) (w : World) (h : IQ base top w nb a c k l s) : Calls Tryz.prog 120 #[.pointer (some ⟨nb, 0, none⟩), .int .i64 e] w fun en w' => en = .returned (.tuple #[]) ∧ IQ base top w' nb a c k l (failS e k s) ∧ w.grownBy w' (some nb) := by
 have c2 := h.c2
 have X := Lib.hid (iFail_any e k w h)
 have he0 : (e == 0) = false := by simp [he]
 clear h he
 go_enter Tryz.func120, Tryz.ntmps120
 go_wp2_with fail
 refine X.out.mono ?_
 rintro en w1 ⟨rfl, h1, g1⟩
 have K := Lib.hid (And.intro h1 g1)
 clear h1 g1 X c2
 go_wp2
 go_end0
 exact ⟨rfl, K.out.1, K.out.2⟩
set_option maxRecDepth 100000 in
set_option maxHeartbeats 1000000 in
theorem iNum_any (w : World) (h : IQ base top w nb a c k l s) : Calls Tryz.prog 122 #[.pointer (some ⟨nb, 0, none⟩)] w fun en w' => en = .returned (.int .i64 (numV l s)) ∧ inTw.P base top w' nb l (wordS l.length 8 s) ∧ Mid base top w w' := by
 rw [numV_take]
 have HM := Lib.hid (fun (w' : World) (g : w.grownBy w' (some nb)) => h.mid g)
 go_enter Tryz.func122, Tryz.ntmps122
 have X := Lib.hid (iWord_any 8 w (by omega) h)
 have LN := takeL_len l 8 s
 clear h
 go_wp2_with fail
 refine X.out.mono ?_
 rintro en w1 ⟨k1, hk1, ⟨a1, c1, rfl, h1, h2, h3, h4⟩, h5, h6⟩
 have H5 := Lib.hid (And.intro hk1 (And.intro h5 h6))
 have WH := Lib.hid (iWhole_any a1 _ c1 _ w1 h1 (by omega))
 clear hk1 h1 h2 h3 h4 h5 h6 X LN
 go_wp2_with fail
 refine WH.out.mono ?_
 rintro en w2 ⟨rfl, rfl⟩
 clear WH
 go_wp2
 go_ret
 exact ⟨rfl, ⟨_, _, _, H5.out.2.1⟩, HM.out _ H5.out.2.2⟩
theorem flag_val (l : List Int) (s : IS) (hu : ∀ x ∈ l, 0 ≤ x ∧ x ≤ 255) : ∃ v : Int, valB (takeL l 1 s) = v ∧ 0 ≤ v ∧ v ≤ 255 ∧ flagV l s = decide (v = 1) ∧ (wordOk l.length 1 s → flagS l s = if 1 < v then failS 24 s.pos (wordS l.length 1 s) else wordS l.length 1 s) ∧ (¬ wordOk l.length 1 s → v = 0 ∧ flagS l s = wordS l.length 1 s) := by
 unfold takeL flagV flagS
 by_cases ok : wordOk l.length 1 s
 ·rw [if_pos ok, if_pos ok, if_pos ok]
  have hl := wordL_length (l := l) rfl ok
  have hi := wordL_in (m := 1) (s := s) hu
  match hw : wordL l 1 s, hl with
  | [x], _ =>
   rw [hw] at hi
   have := hi x (by simp)
   refine ⟨x, by simp [valB], this.1, this.2, rfl, fun _ => rfl, fun h => absurd ok h⟩
 ·rw [if_neg ok, if_neg ok, if_neg ok]
  exact ⟨0, rfl, by omega, by omega, rfl, fun h => absurd h ok, fun _ => ⟨rfl, rfl⟩⟩
set_option maxRecDepth 100000 in
set_option maxHeartbeats 1000000 in
theorem iFlag_any (w : World) (h : IQ base top w nb a c k l s) : Calls Tryz.prog 125 #[.pointer (some ⟨nb, 0, none⟩)] w fun en w' => en = .returned (.bool (flagV l s)) ∧ inTw.P base top w' nb l (flagS l s) ∧ Mid base top w w' := by
 have HM := Lib.hid (fun (w' : World) (g : w.grownBy w' (some nb)) => h.mid g)
 obtain ⟨v, hv, v0, v1, hf, hok, hno⟩ := flag_val l s h.bl.u
 rw [hf]
 have O := Lib.hid (And.intro hok hno)
 clear hf hok hno
 by_cases q : 1 < v
 ·have E : decide (v = 1) = false := by simp; omega
  rw [E]
  clear E
  go_enter Tryz.func125, Tryz.ntmps125
  have X := Lib.hid (iWord_any 1 w (by omega) h)
  have LN := takeL_len l 1 s
  clear h
  go_wp2_with fail
  refine X.out.mono ?_
  rintro en w1 ⟨k1, hk1, ⟨a1, c1, rfl, h1, h2, h3, h4⟩, h5, h6⟩
  have H5 := Lib.hid (And.intro hk1 (And.intro h5 h6))
  have WH := Lib.hid (iWhole_any a1 _ c1 _ w1 h1 (by omega))
  clear hk1 h1 h2 h3 h4 h5 h6 X LN
  rw [hv] at WH; clear hv
  go_wp2_with fail
  refine WH.out.mono ?_
  rintro en w2 ⟨rfl, rfl⟩
  clear WH
  have he : (v == 1) = false := by simp; omega
  go_wp2_with fail
  refine (iRefuse_any 24 (by omega) _ H5.out.2.1).mono ?_
  rintro en w3 ⟨rfl, h7, h8⟩
  have R := Lib.hid (show inTw.P base top w3 nb l (flagS l s) ∧ Mid base top w w3 from by
   refine ⟨⟨a, c, k1, ?_⟩, HM.out _ (H5.out.2.2.trans h8)⟩
   by_cases ok : wordOk l.length 1 s
   ·rw [O.out.1 ok, if_pos q]
    have := H5.out.1 ok
    rw [this] at h7 ⊢
    exact h7
   ·rw [(O.out.2 ok).2]
    rw [failS_no (word_bad ok)] at h7
    exact h7)
  clear h7 h8 H5 HM O
  go_wp2
  go_ret
  exact ⟨rfl, R.out⟩
 ·go_enter Tryz.func125, Tryz.ntmps125
  have X := Lib.hid (iWord_any 1 w (by omega) h)
  have LN := takeL_len l 1 s
  clear h
  go_wp2_with fail
  refine X.out.mono ?_
  rintro en w1 ⟨k1, hk1, ⟨a1, c1, rfl, h1, h2, h3, h4⟩, h5, h6⟩
  have H5 := Lib.hid (And.intro hk1 (And.intro h5 h6))
  have WH := Lib.hid (iWhole_any a1 _ c1 _ w1 h1 (by omega))
  clear hk1 h1 h2 h3 h4 h5 h6 X LN
  rw [hv] at WH; clear hv
  go_wp2_with fail
  refine WH.out.mono ?_
  rintro en w2 ⟨rfl, rfl⟩
  clear WH
  have R := Lib.hid (show inTw.P base top w1 nb l (flagS l s) ∧ Mid base top w w1 from by
   refine ⟨⟨a, c, k1, ?_⟩, HM.out _ H5.out.2.2⟩
   by_cases ok : wordOk l.length 1 s
   ·rw [O.out.1 ok, if_neg (by omega)]; exact H5.out.2.1
   ·rw [(O.out.2 ok).2]; exact H5.out.2.1)
  have he : (v == 1) = decide (v = 1) := rfl
  clear H5 HM O
  go_wp2
  go_ret
  exact ⟨rfl, R.out⟩
theorem cnt_val (lo hi : Int) (l : List Int) (s : IS) (hu : ∀ x ∈ l, 0 ≤ x ∧ x ≤ 255) : ∃ v : Int, valB (takeL l 2 s) = v ∧ 0 ≤ v ∧ v ≤ 65535 ∧ cntV lo hi l s = (if v < lo ∨ hi < v then 0 else v) ∧ (wordOk l.length 2 s → cntS lo hi l s = if v < lo ∨ hi < v then failS 22 s.pos (wordS l.length 2 s) else wordS l.length 2 s) ∧ (¬ wordOk l.length 2 s → cntS lo hi l s = wordS l.length 2 s) := by
 unfold takeL cntV cntS
 by_cases ok : wordOk l.length 2 s
 ·rw [if_pos ok, if_pos ok, if_pos ok]
  have hl := wordL_length (l := l) rfl ok
  have hi2 := wordL_in (m := 2) (s := s) hu
  have hc : cntOf l s = valB (wordL l 2 s) := by
   unfold cntOf
   match hw : wordL l 2 s, hl with
   | [x, y], _ => simp [valB]
  have hb := valB_in _ hi2
  rw [hl] at hb
  refine ⟨cntOf l s, hc.symm, by rw [hc]; exact hb.1, by rw [hc]; have := hb.2; omega, ?_, fun _ => ?_, fun h => absurd ok h⟩
  ·by_cases q : cntBad lo hi l s
   ·rw [if_pos q, if_pos (show cntOf l s < lo ∨ hi < cntOf l s from q)]
   ·rw [if_neg q, if_neg (show ¬ (cntOf l s < lo ∨ hi < cntOf l s) from q)]
  ·by_cases q : cntBad lo hi l s
   ·rw [if_pos q, if_pos (show cntOf l s < lo ∨ hi < cntOf l s from q)]
   ·rw [if_neg q, if_neg (show ¬ (cntOf l s < lo ∨ hi < cntOf l s) from q)]
 ·rw [if_neg ok, if_neg ok, if_neg ok]
  refine ⟨0, rfl, by omega, by omega, by simp, fun h => absurd h ok, fun _ => rfl⟩
set_option maxRecDepth 100000 in
set_option maxHeartbeats 1000000 in
theorem iCount_any (lo hi : Int) (hlo : In64Y lo) (hhi : In64Y hi) (w : World) (h : IQ base top w nb a c k l s) : Calls Tryz.prog 65 #[.pointer (some ⟨nb, 0, none⟩), .int .i64 lo, .int .i64 hi] w fun en w' => en = .returned (.int .i64 (cntV lo hi l s)) ∧ inTw.P base top w' nb l (cntS lo hi l s) ∧ Mid base top w w' := by
 have HM := Lib.hid (fun (w' : World) (g : w.grownBy w' (some nb)) => h.mid g)
 obtain ⟨v, hv, v0, v1, hf, hok, hno⟩ := cnt_val lo hi l s h.bl.u
 rw [hf]
 have O := Lib.hid (And.intro hok hno)
 clear hf hok hno
 unfold In64Y at hlo hhi
 by_cases q1 : v < lo
 ·rw [if_pos (Or.inl q1)]
  go_enter Tryz.func65, Tryz.ntmps65
  have X := Lib.hid (iWord_any 2 w (by omega) h)
  have LN := takeL_len l 2 s
  clear h
  go_wp2_with fail
  refine X.out.mono ?_
  rintro en w1 ⟨k1, hk1, ⟨a1, c1, rfl, h1, h2, h3, h4⟩, h5, h6⟩
  have H5 := Lib.hid (And.intro hk1 (And.intro h5 h6))
  have WH := Lib.hid (iWhole_any a1 _ c1 _ w1 h1 (by omega))
  clear hk1 h1 h2 h3 h4 h5 h6 X LN
  rw [hv] at WH; clear hv
  go_wp2_with fail
  refine WH.out.mono ?_
  rintro en w2 ⟨rfl, rfl⟩
  clear WH
  go_wp2_with fail
  refine (iRefuse_any 22 (by omega) _ H5.out.2.1).mono ?_
  rintro en w3 ⟨rfl, h7, h8⟩
  have R := Lib.hid (show inTw.P base top w3 nb l (cntS lo hi l s) ∧ Mid base top w w3 from by
   refine ⟨⟨a, c, k1, ?_⟩, HM.out _ (H5.out.2.2.trans h8)⟩
   by_cases ok : wordOk l.length 2 s
   ·rw [O.out.1 ok, if_pos (by omega)]
    have := H5.out.1 ok
    rw [this] at h7 ⊢
    exact h7
   ·rw [O.out.2 ok]
    rw [failS_no (word_bad ok)] at h7
    exact h7)
  clear h7 h8 H5 HM O
  go_wp2
  go_ret
  exact ⟨rfl, R.out⟩
 ·by_cases q2 : hi < v
  ·rw [if_pos (Or.inr q2)]
   go_enter Tryz.func65, Tryz.ntmps65
   have X := Lib.hid (iWord_any 2 w (by omega) h)
   have LN := takeL_len l 2 s
   clear h
   go_wp2_with fail
   refine X.out.mono ?_
   rintro en w1 ⟨k1, hk1, ⟨a1, c1, rfl, h1, h2, h3, h4⟩, h5, h6⟩
   have H5 := Lib.hid (And.intro hk1 (And.intro h5 h6))
   have WH := Lib.hid (iWhole_any a1 _ c1 _ w1 h1 (by omega))
   clear hk1 h1 h2 h3 h4 h5 h6 X LN
   rw [hv] at WH; clear hv
   go_wp2_with fail
   refine WH.out.mono ?_
   rintro en w2 ⟨rfl, rfl⟩
   clear WH
   go_wp2_with fail
   refine (iRefuse_any 22 (by omega) _ H5.out.2.1).mono ?_
   rintro en w3 ⟨rfl, h7, h8⟩
   have R := Lib.hid (show inTw.P base top w3 nb l (cntS lo hi l s) ∧ Mid base top w w3 from by
    refine ⟨⟨a, c, k1, ?_⟩, HM.out _ (H5.out.2.2.trans h8)⟩
    by_cases ok : wordOk l.length 2 s
    ·rw [O.out.1 ok, if_pos (by omega)]
     have := H5.out.1 ok
     rw [this] at h7 ⊢
     exact h7
    ·rw [O.out.2 ok]
     rw [failS_no (word_bad ok)] at h7
     exact h7)
   clear h7 h8 H5 HM O
   go_wp2
   go_ret
   exact ⟨rfl, R.out⟩
  ·rw [if_neg (by omega)]
   go_enter Tryz.func65, Tryz.ntmps65
   have X := Lib.hid (iWord_any 2 w (by omega) h)
   have LN := takeL_len l 2 s
   clear h
   go_wp2_with fail
   refine X.out.mono ?_
   rintro en w1 ⟨k1, hk1, ⟨a1, c1, rfl, h1, h2, h3, h4⟩, h5, h6⟩
   have H5 := Lib.hid (And.intro hk1 (And.intro h5 h6))
   have WH := Lib.hid (iWhole_any a1 _ c1 _ w1 h1 (by omega))
   clear hk1 h1 h2 h3 h4 h5 h6 X LN
   rw [hv] at WH; clear hv
   go_wp2_with fail
   refine WH.out.mono ?_
   rintro en w2 ⟨rfl, rfl⟩
   clear WH
   have R := Lib.hid (show inTw.P base top w1 nb l (cntS lo hi l s) ∧ Mid base top w w1 from by
    refine ⟨⟨a, c, k1, ?_⟩, HM.out _ H5.out.2.2⟩
    by_cases ok : wordOk l.length 2 s
    ·rw [O.out.1 ok, if_neg (by omega)]; exact H5.out.2.1
    ·rw [O.out.2 ok]; exact H5.out.2.1)
   clear H5 HM O
   go_wp2
   go_ret
   exact ⟨rfl, R.out⟩
end
section
variable {base top : Nat} {nb : Nat} {a : Option Addr} {c k : Nat} {l : List Int} {s : IS}
theorem BL.bytesIn {W : World} {p : Option Addr} {n : Nat} {xs : List Int} (h : BL W p n xs) : Lib.BytesIn W p n xs := fun h0 => by
 obtain ⟨b, o, e, _, hc⟩ := h.c h0
 have hn := h.hn
 refine ⟨b, o, e, fun i hi => ?_⟩
 rw [hc i xs[i] (List.getElem?_eq_getElem (by omega)), List.getD_eq_getElem?_getD, List.getElem?_eq_getElem (by omega)]
 rfl
theorem bytes_eq {x y : List Int} (hx : ∀ u ∈ x, 0 ≤ u ∧ u ≤ 255) (hy : ∀ u ∈ y, 0 ≤ u ∧ u ≤ 255) : (Lib.bytesOf x == Lib.bytesOf y) = decide (x = y) := by
 rw [← Lib.strOfNums_toList, ← Lib.strOfNums_toList]
 exact txt_eq hx hy
theorem mk_take (t : ByteArray) (l : List Int) (s : IS) : (decide (takeL l 4 s = markB t 4) = true → mkS t l s = wordS l.length 4 s) ∧ (decide (takeL l 4 s = markB t 4) = false → wordOk l.length 4 s → mkS t l s = failS 21 s.pos (wordS l.length 4 s)) ∧ (¬ wordOk l.length 4 s → mkS t l s = wordS l.length 4 s) := by
 unfold mkS takeL
 by_cases ok : wordOk l.length 4 s
 ·rw [if_pos ok, if_pos ok]
  refine ⟨fun h => by rw [if_pos (of_decide_eq_true h)], fun h _ => by rw [if_neg (of_decide_eq_false h)], fun h => absurd ok h⟩
 ·rw [if_neg ok, if_neg ok]
  exact ⟨fun _ => rfl, fun _ h => absurd h ok, fun _ => rfl⟩
set_option maxRecDepth 100000 in
set_option maxHeartbeats 2000000 in
theorem iMark_any (t : ByteArray) (w : World) (h : IQ base top w nb a c k l s) : Calls Tryz.prog 64 #[.pointer (some ⟨nb, 0, none⟩), .string t] w fun en w' => en = .returned (.tuple #[]) ∧ inTw.P base top w' nb l (mkS t l s) ∧ Mid base top w w' := by
 have HM := Lib.hid (fun (w' : World) (g : w.grownBy w' (some nb)) => h.mid g)
 have M := Lib.hid (fun W => oMk_any t W)
 have MT := Lib.hid (mk_take t l s)
 have TI := Lib.hid (takeL_in (m := 4) (s := s) h.bl.u)
 have H := Lib.hid h
 unfold markV at M
 clear h
 go_enter Tryz.func64, Tryz.ntmps64
 go_wp2_with fail
 refine (M.out _).mono ?_
 rintro e w1 ⟨rfl, hb⟩
 have HB := Lib.hid hb
 have z := hb.size
 clear hb M
 go_wp2_with fail
 refine wpg (S := fun W => IQ base top W nb a c k l s ∧ BL W (some ⟨w1.heap.size, 0, none⟩) 4 (markB t 4) ∧ w.grownBy W (some nb)) ⟨H.out.below (HB.out.trans (((Below.refl _ w1).alloc (Nat.le_refl _) _).mono z)), bl_mark t (by simp) (by go_simp) (by go_simp) (by go_simp) (by go_simp), grown_below (HB.out.trans (((Below.refl _ w1).alloc (Nat.le_refl _) _).mono z)) _⟩ (fun W2 hS => ?_)
 have H2 := Lib.hid hS
 obtain ⟨g, hg⟩ : ∃ g, w1.heap.size = g := ⟨_, rfl⟩
 have GN := Lib.hid (show g ≠ nb by have := H.out.nt; have := H.out.tt; omega)
 rw [hg] at H2 ⊢
 clear hS H HB hg z
 refine wp_region_held_drew (S := fun W => True) (by kernel_rfl) trivial (fun hHeld => ?_)
 refine tkQ 0 7 hHeld ?_
 (try simp only [putA, putB, putC, putD])
 refine tkQ 2 9 hHeld ?_
 (try simp only [putA, putB, putC, putD])
 refine onlD 1 (fun K hK => ?_)
 go_simp
 refine (iWord_any 4 _ (by omega) (H2.out.1.below ((Below.refl _ _).drew))).mono ?_
 rintro e w2 ⟨k1, hk1, ⟨a1, c1, rfl, h1, h2, h3, h4⟩, h5, h6⟩
 have H3 := Lib.hid (And.intro hk1 (And.intro h5 (H2.out.2.2.trans ((grown_below ((Below.refl _ _).drew) _).trans h6))))
 have EQ := Lib.hid (Tryz.bytes_Equal_all a1 (some ⟨g, 0, none⟩) (takeL l 4 s).length c1 4 4 (takeL l 4 s) (markB t 4) w2 rfl (markB_length t 4) h1.bytesIn ((H2.out.2.1.below ((Below.refl _ _).drew)).grown h6 (fun _ p e => by cases e; exact GN.out)).bytesIn)
 rw [bytes_eq TI.out (markB_in t 4)] at EQ
 clear hk1 h1 h2 h3 h4 h5 h6 H2 GN TI
 go_wp2_with fail
 refine hK.out _ _ (trivial) ?_
 clear hK K hHeld
 intro hHeld
 refine onlD 3 (fun K hK => ?_)
 go_simp
 refine EQ.out.mono ?_
 rintro e w3 ⟨rfl, rfl⟩
 clear EQ
 go_wp2_with fail
 refine hK.out _ _ (trivial) ?_
 clear hK K hHeld
 intro hHeld
 refine tkQ 4 11 hHeld ?_
 (try simp only [putA, putB, putC, putD])
 refine wpAnyH_done (by kernel_rfl) ?_ _
 clear hHeld
 obtain ⟨bq, hbq⟩ : ∃ bq, decide (takeL l 4 s = markB t 4) = bq := ⟨_, rfl⟩
 rw [hbq] at MT ⊢
 clear hbq
 cases bq with
 | true =>
  go_wp2
  go_end0
  exact ⟨rfl, ⟨a, c, k1, by rw [MT.out.1 (by first | trivial | rfl)]; exact H3.out.2.1⟩, HM.out _ H3.out.2.2⟩
 | false =>
  go_wp2_with fail
  refine (iRefuse_any 21 (by omega) _ H3.out.2.1).mono ?_
  rintro en w4 ⟨rfl, h7, h8⟩
  have R := Lib.hid (show inTw.P base top w4 nb l (mkS t l s) ∧ Mid base top w w4 from by
   refine ⟨⟨a, c, k1, ?_⟩, HM.out _ (H3.out.2.2.trans h8)⟩
   by_cases ok : wordOk l.length 4 s
   ·rw [MT.out.2.1 (by first | trivial | rfl) ok]
    have := H3.out.1 ok
    rw [this] at h7 ⊢
    exact h7
   ·rw [MT.out.2.2 ok]
    rw [failS_no (word_bad ok)] at h7
    exact h7)
  clear h7 h8 H3 HM MT
  go_wp2
  go_end0
  exact ⟨rfl, R.out⟩
set_option maxRecDepth 100000 in
set_option maxHeartbeats 1000000 in
theorem iEnd_any (w : World) (h : IQ base top w nb a c k l s) : Calls Tryz.prog 28 #[.pointer (some ⟨nb, 0, none⟩)] w fun en w' => en = .returned (.tuple #[.int .i64 (endS l.length s).err, .int .i64 (endS l.length s).place]) ∧ inTw.P base top w' nb l (endS l.length s) ∧ Mid base top w w' := by
 have HM := Lib.hid (fun (w' : World) (g : w.grownBy w' (some nb)) => h.mid g)
 have c0 := h.c0
 have c1 := h.c1
 have H := Lib.hid h
 clear h
 by_cases q : s.pos < l.length
 ·have E := Lib.hid (show endS l.length s = failS 23 s.pos s by
   unfold endS
   by_cases z : s.err = 0
   ·rw [if_pos ⟨z, q⟩]
   ·rw [if_neg (fun h => z h.1), failS_no z])
  rw [E.out]
  obtain ⟨s1, hs1⟩ : ∃ s1, failS 23 s.pos s = s1 := ⟨_, rfl⟩
  have F := Lib.hid (fun (W : World) (h : IQ base top W nb a c k l s) => iFail_any 23 s.pos W h)
  rw [hs1] at F ⊢
  clear hs1 E
  have q' : (s.pos : Int) < (l.length : Int) := by omega
  go_enter Tryz.func28, Tryz.ntmps28
  go_wp2_with fail
  go_quiet (fail)
  go_wp2_with fail
  refine callsg (S := fun W => IQ base top W nb a c k l s ∧ w.grownBy W (some nb)) ⟨H.out.below (bel_drewN _ _), grown_below (bel_drewN _ _) _⟩ (fun W0 hS => ?_)
  have G0 := Lib.hid hS.2
  refine (F.out W0 hS.1).mono ?_
  rintro e w2 ⟨rfl, h2, g2⟩
  have d3 := h2.c3
  have d4 := h2.c4
  have H2 := Lib.hid h2
  have G2 := Lib.hid (G0.out.trans g2)
  clear hS h2 g2 H G0 F c0 c1 q'
  go_wp2_with fail
  go_quiet (fail)
  go_wp2
  go_ret2
  exact ⟨rfl, ⟨a, c, k, H2.out.below (bel_drewN _ _)⟩, HM.out _ (G2.out.trans (grown_below (bel_drewN _ _) _))⟩
 ·have E := Lib.hid (show endS l.length s = s by unfold endS; rw [if_neg (fun h => q h.2)])
  rw [E.out]
  have q' : ¬ (s.pos : Int) < (l.length : Int) := by omega
  clear q
  go_enter Tryz.func28, Tryz.ntmps28
  go_wp2_with fail
  go_quiet (fail)
  go_wp2_with fail
  refine wpg (S := fun W => IQ base top W nb a c k l s ∧ w.grownBy W (some nb)) ⟨H.out.below (bel_drewN _ _), grown_below (bel_drewN _ _) _⟩ (fun W1 hS => ?_)
  have d3 := hS.1.c3
  have d4 := hS.1.c4
  have H2 := Lib.hid hS.1
  have G2 := Lib.hid hS.2
  clear hS H c0 c1 q'
  go_quiet (fail)
  go_wp2
  go_ret2
  exact ⟨rfl, ⟨a, c, k, H2.out.below (bel_drewN _ _)⟩, HM.out _ (G2.out.trans (grown_below (bel_drewN _ _) _))⟩
theorem OB.bl3 {base : Nat} {W : World} {v : Value} {l : List Int} (h : OB base W v (byC l)) (hu : ∀ x ∈ l, 0 ≤ x ∧ x ≤ 255) : ∃ a c, v = .slice a l.length c ∧ BL W a l.length l ∧ (∀ p, a = some p → base ≤ p.block ∧ p.block < W.heap.size) ∧ l.length ≤ c ∧ c ≤ maxLen := by
 obtain ⟨a, c, e, hb, ha⟩ := h.bl hu
 refine ⟨a, c, e, hb, fun p hp => ⟨ha p hp, ?_⟩, ?_⟩
 ·subst e; subst hp; exact (h.row_lt (g := p.block) rfl).2
 ·rcases h with ⟨e2, e3⟩ | ⟨g, cap, e2, _, _, hl, hm, _⟩
  ·have : l.length = 0 := by rw [← byC_length, e3]; rfl
   rw [e] at e2; injection e2 with _ _ e5; exact ⟨by omega, by unfold maxLen; omega⟩
  ·rw [e] at e2; injection e2 with e2 e3 e4; subst e4; rw [byC_length] at hl; exact ⟨hl, hm⟩
set_option maxRecDepth 100000 in
set_option maxHeartbeats 1000000 in
theorem iNew_any (a : Option Addr) (n c : Nat) (l : List Int) (W : World) (hb : BL W a n l) (hn : n ≤ 1000000000) : Calls Tryz.prog 26 #[.slice a n c] W fun e W' => ∃ nb, e = .returned (.pointer (some ⟨nb, 0, none⟩)) ∧ inTw.P W.heap.size W'.heap.size W' nb l ⟨0, 0, 0, 0⟩ ∧ Below W.heap.size W W' := by
 have CL := Lib.hid (clone_any a n c l W hb (by omega) (fun _ => by cases a <;> simp))
 have HL := Lib.hid (And.intro hb.hn hb.u)
 clear hb
 go_enter Tryz.func26, Tryz.ntmps26
 go_wp2_with fail
 refine CL.out.mono ?_
 rintro en w1 ⟨⟨b, rfl, ho⟩, hb⟩
 obtain ⟨a1, c1, rfl, h1, h2, h3, h4⟩ := ho.bl3 HL.out.2
 have sz := hb.size
 have R := Lib.hid (show inTw.P W.heap.size (w1.heap.size + 1) (w1.alloc (.cells #[.slice a1 l.length c1, .int .i64 0, .int .i64 0, .int .i64 0, .int .i64 0] 115)) w1.heap.size l ⟨0, 0, 0, 0⟩ ∧ Below W.heap.size W (w1.alloc (.cells #[.slice a1 l.length c1, .int .i64 0, .int .i64 0, .int .i64 0, .int .i64 0] 115)) from
  ⟨⟨a1, c1, 0, sz, by omega, by simp, by go_simp, by go_simp, by go_simp, by go_simp, by go_simp, fun j => by go_simp, h1.below ((Below.refl _ _).alloc (Nat.le_refl _) _), fun p e => ⟨(h2 p e).1, by have := (h2 p e).2; omega, by have := (h2 p e).2; omega⟩, h3, h4, by rw [HL.out.1]; exact hn, Nat.zero_le _⟩, hb.trans (((Below.refl _ w1).alloc (Nat.le_refl _) _).mono sz)⟩)
 clear ho hb h1 h2 h3 h4 CL HL
 go_wp2
 go_ret
 exact ⟨_, rfl, by have := R.out.1; simpa using this, R.out.2⟩
end
end Go.Proofs.YtmdjnamkbekjkaaGreatDoor
