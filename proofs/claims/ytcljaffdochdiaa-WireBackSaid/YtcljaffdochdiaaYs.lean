/- What package wire tells of what is put: the program's own Out. -/
import Derived.Test.YtcljaffdochdiaaYp
import Derived.Test.YtcljaffdochdiaaSh
import Derived.Lib.LazyBuf
namespace Go.Proofs.Ytcljaffdochdiaa
open Go.RowKit
set_option linter.unusedVariables false
set_option linter.unusedSimpArgs false

theorem OB.keepB {base : Nat} {W W' : World} {v : Value} {xs : List Value} (h : OB base W v xs) (hs : W.heap.size ≤ W'.heap.size) (hk : ∀ g, v.ownBlock = some g → W'.heap[g]? = W.heap[g]?) : OB base W' v xs := by
  rcases h with h | ⟨g, cap, rfl, hb, hg, hl, hm, hc, hf, hx⟩
  · exact .inl h
  · have B := hk g rfl
    have C : ∀ j, W'.cell? ⟨g, j, none⟩ = W.cell? ⟨g, j, none⟩ := fun j => World.cell?_of_block (a := ⟨g, j, none⟩) B
    have F : ∀ j, W'.frozen? ⟨g, j, none⟩ = W.frozen? ⟨g, j, none⟩ := fun j => World.frozen?_of_block (a := ⟨g, j, none⟩) B
    exact .inr ⟨g, cap, rfl, hb, Nat.lt_of_lt_of_le hg hs, hl, hm, fun j hj => by rw [C]; exact hc j hj, fun j => by rw [F]; exact hf j, fun j u hj => by rw [C]; exact hx j u hj⟩
/-- the program's Out in memory: its list in its one cell -/
structure OutP (base : Nat) (W : World) (nb : Nat) (v : Value) (l : List Int) : Prop where
  hb : base ≤ nb
  lt : nb < W.heap.size
  c : W.cell? ⟨nb, 0, none⟩ = some v
  f : ∀ j, W.frozen? ⟨nb, j, none⟩ = false
  o : OB base W v (byC l)
  ne : v.ownBlock ≠ some nb
  n : l.length ≤ 100000
def outT : OutT where
  P := OutP
  lo := fun h => ⟨h.hb, h.lt⟩
  row := fun h e => ⟨(h.o.row_lt e).1, (h.o.row_lt e).2, fun k => h.ne (by rw [e, k])⟩
  keep := fun h hs hn hg => ⟨h.hb, Nat.lt_of_lt_of_le h.lt hs, (World.cell?_of_block (a := ⟨_, 0, none⟩) hn).trans h.c, fun j => (World.frozen?_of_block (a := ⟨_, j, none⟩) hn).trans (h.f j), h.o.keepB hs hg, h.ne, h.n⟩
theorem TwoB.refl (W : World) (nb : Nat) (row : Option Nat) : TwoB W W nb row := ⟨rfl, rfl, rfl, Nat.le_refl _, fun _ _ _ _ => rfl⟩
/-- what has been put so far: from W on, in W', the list v at first, v' now -/
structure PU (base : Nat) (W W' : World) (nb : Nat) (v v' : Value) (l : List Int) : Prop where
  p : OutP base W' nb v' l
  k : TwoB W W' nb v.ownBlock
  o : v'.ownBlock = v.ownBlock ∨ ∃ g, v'.ownBlock = some g ∧ W.heap.size ≤ g
theorem PU.refl {base : Nat} {W : World} {nb : Nat} {v : Value} {l : List Int} (h : OutP base W nb v l) : PU base W W nb v v l := ⟨h, TwoB.refl _ _ _, .inl rfl⟩
theorem PU.step {base : Nat} {W W' W1 : World} {nb : Nat} {v v' : Value} {l : List Int} (h : PU base W W' nb v v' l) (hb : Below W'.heap.size W' W1) : PU base W W1 nb v v' l :=
  ⟨outT.keep h.p hb.size (hb.block nb h.p.lt) (fun g e => hb.block g (h.p.o.row_lt e).2), ⟨hb.os.trans h.k.os, hb.tape.trans h.k.tape, hb.output.trans h.k.output, Nat.le_trans h.k.size hb.size, fun j hj h1 h2 => (hb.block j (Nat.lt_of_lt_of_le hj h.k.size)).trans (h.k.block j hj h1 h2)⟩, h.o⟩
/-- append has put new bytes behind, and the list is stored -/
theorem PU.push {base : Nat} {W W1 w2 : World} {nb : Nat} {v v' v2 : Value} {l new : List Int} (h : PU base W W1 nb v v' l) (ho : OB base w2 v2 (byC l ++ byC new)) (hg : W1.grownBy w2 v'.ownBlock) (h2 : v2.ownBlock = v'.ownBlock ∨ v2.ownBlock = some W1.heap.size) (hn : l.length + new.length ≤ 100000) :
    PU base W (w2.setCell ⟨nb, 0, none⟩ v2) nb v v2 (l ++ new) := by
  have K := grown_cell w2 nb 0 v2
  have l1 := h.p.lt
  have sz := hg.size
  have hne : v2.ownBlock ≠ some nb := by
    rcases h2 with e | e
    · rw [e]; exact h.p.ne
    · rw [e]; intro k; injection k; omega
  refine ⟨⟨h.p.hb, by have := K.size; omega, ?_, fun j => ?_, ?_, hne, ?_⟩, ⟨?_, ?_, ?_, ?_, fun j hj h1 h3 => ?_⟩, ?_⟩
  · exact World.cell?_setCell_same _ _ _ ((hg.cell_far ⟨nb, 0, none⟩ l1 (fun e => h.p.ne e.symm)).trans h.p.c)
  · rw [World.frozen?_setCell]; exact (hg.frozen_far ⟨nb, j, none⟩ l1 (fun e => h.p.ne e.symm)).trans (h.p.f j)
  · rw [byC_append]; exact ho.grown K (fun e => absurd e hne)
  · rw [List.length_append]; exact hn
  · exact K.os.trans (hg.os.trans h.k.os)
  · exact K.tape.trans (hg.tape.trans h.k.tape)
  · exact K.output.trans (hg.output.trans h.k.output)
  · have := h.k.size; have := K.size; omega
  · have z := h.k.size
    have hj2 : some j ≠ v'.ownBlock := fun e => by
      rcases h.o with o | ⟨g, o, og⟩
      · exact h3 (e.trans o)
      · rw [o] at e; injection e; omega
    exact (K.block j (by omega) (fun e => h1 (by injection e))).trans ((hg.block j (by omega) hj2).trans (h.k.block j hj h1 h3))
  · have z := h.k.size
    rcases h2 with e | e
    · rw [e]; exact h.o
    · exact .inr ⟨_, e, z⟩
theorem PU.cells {base : Nat} {W W1 w2 : World} {nb : Nat} {v v' : Value} {l : List Int} (h : PU base W W1 nb v v' l) (hg : W1.grownBy w2 v'.ownBlock) : w2.cell? ⟨nb, 0, none⟩ = some v' ∧ w2.frozen? ⟨nb, 0, none⟩ = false :=
  ⟨(hg.cell_far ⟨nb, 0, none⟩ h.p.lt (fun e => h.p.ne e.symm)).trans h.p.c, (hg.frozen_far ⟨nb, 0, none⟩ h.p.lt (fun e => h.p.ne e.symm)).trans (h.p.f 0)⟩
set_option maxHeartbeats 2000000 in
theorem oLow_any (u : Int) (u0 : 0 ≤ u) (u1 : u ≤ 18446744073709551615) (size : Nat) (hs : size ≤ 8) : outT.puts 26 #[.int .u64 u, .int .i64 size] (numB u size) := by
  intro base W nb v l hP hbase hlen
  show Calls Try.prog _ #[.pointer (some ⟨nb, 0, none⟩), .int .u64 u, .int .i64 size] W _
  rw [numB_length] at hlen
  have S0 := Lib.hid (PU.refl hP)
  have D := Lib.hid (dvB_in u0 u1)
  have HB := Lib.hid hbase
  clear hP hbase
  go_enter Try.func26, Try.ntmps26
  go_wp2
  go_loopw [1, 9] (fun n i wr => ∃ (j : Nat) (v' : Value), j ≤ size ∧ i = .int .i64 j ∧ n = .int .u64 (dvB u j) ∧ PU base W wr nb v v' (l ++ numB u j)) (fun _ i _ => size - (intOf i).toNat)
  case atStart => exact ⟨0, v, by omega, rfl, rfl, by rw [show numB u 0 = [] from rfl, List.append_nil]; exact S0.out⟩
  case round =>
    obtain ⟨j, v', hj, rfl, rfl, hS⟩ := hrel
    have S1 := Lib.hid hS
    clear hS S0
    by_cases c : j < size
    · obtain ⟨q, hq⟩ : ∃ q, dvB u j = q := ⟨_, rfl⟩
      have q0 : 0 ≤ q := by rw [← hq]; exact (D.out j).1
      have q1 : q ≤ 18446744073709551615 := by rw [← hq]; exact (D.out j).2
      have E := Lib.hid (show dvB u (j + 1) = q / 256 by rw [← hq]; rfl)
      have N := Lib.hid (show l ++ numB u (j + 1) = (l ++ numB u j) ++ [q % 256] by rw [numB_succ, ← List.append_assoc, hq])
      have c0 := S1.out.p.c
      have S2 := Lib.hid (S1.out.step (((Below.refl _ _).alloc (Nat.le_refl _) (.cells #[.int .u8 (q % 256)] 5))))
      rw [hq]
      clear hq
      have sz : base ≤ wr.heap.size := by have := HB.out; have := S1.out.k.size; omega
      go_wp2_with (at_builtin; refine wpList_ob rfl (.tmp 15) (.tmp 18) 25 25 rfl 5 _ (.int .u8 0) Try.underlying25 rfl rfl rfl rfl (by decide) S2.out.p.o rfl _ 1 [.int .u8 (q % 256)] rfl (src_new Try.underlying25 wr [.int .u8 (q % 256)] 5 1 rfl (one_ints .u8 [q % 256])) (by rw [byC_length, List.length_append, numB_length]; omega) (by simp; omega) ?_)
      intro v1 w1 o1 g1 p1
      obtain ⟨a1, n1, m1, rfl⟩ : ∃ a n c, v1 = .slice a n c := by obtain ⟨a, c, h⟩ := o1.form; exact ⟨a, _, c, h⟩
      obtain ⟨cc, ff⟩ := S2.out.cells g1
      have S3 := Lib.hid (S2.out.push (new := [q % 256]) o1 g1 (p1.imp_right (fun h => h.trans (by simp))) (by rw [List.length_append, numB_length]; simp; omega))
      clear o1 g1 p1 S1 S2 D c0
      go_wp2
      go_roundw
      case rel => exact ⟨j + 1, _, by omega, by go_num, by rw [E.out], by rw [N.out]; exact S3.out⟩
      case measure => simp [intOf]; omega
    · have e : j = size := by omega
      subst e
      go_wp2
      go_end0
      exact ⟨rfl, v', S1.out.p, S1.out.k, S1.out.o⟩
theorem u16B_num (n : Int) : numB (tw64 n) 2 = u16B n := rfl
theorem oNum_any (n : Int) (hn : In64Y n) : outT.puts 8 #[.int .i64 n] (numB (tw64 n) 8) := by
  intro base W nb v l hP hbase hlen
  show Calls Try.prog _ #[.pointer (some ⟨nb, 0, none⟩), .int .i64 n] W _
  have X := Lib.hid (oLow_any (tw64 n) (tw64_in n).1 (tw64_in n).2 8 (by omega) base W nb v l hP hbase hlen)
  have hE : IntKind.u64.wrap n = tw64 n := by rw [IntKind.wrap_u64]; rfl
  unfold In64Y at hn
  clear hP hlen
  go_enter Try.func8, Try.ntmps8
  go_wp2_with fail
  refine X.out.mono ?_
  rintro e w1 ⟨rfl, h⟩
  have H := Lib.hid h
  clear h X hE
  go_wp2
  go_end0
  exact ⟨rfl, H.out⟩
theorem oCount_any (n : Int) (hn : In64Y n) : outT.puts 10 #[.int .i64 n] (u16B n) := by
  intro base W nb v l hP hbase hlen
  show Calls Try.prog _ #[.pointer (some ⟨nb, 0, none⟩), .int .i64 n] W _
  have X := Lib.hid (oLow_any (tw64 n) (tw64_in n).1 (tw64_in n).2 2 (by omega) base W nb v l hP hbase hlen)
  have hE : IntKind.u64.wrap n = tw64 n := by rw [IntKind.wrap_u64]; rfl
  unfold In64Y at hn
  clear hP hlen
  go_enter Try.func10, Try.ntmps10
  go_wp2_with fail
  refine X.out.mono ?_
  rintro e w1 ⟨rfl, h⟩
  have H := Lib.hid h
  clear h X hE
  go_wp2
  go_end0
  exact ⟨rfl, H.out⟩
theorem oFlag_any (b : Bool) : outT.puts 12 #[.bool b] (flagB b) := by
  intro base W nb v l hP hbase hlen
  show Calls Try.prog _ #[.pointer (some ⟨nb, 0, none⟩), .bool b] W _
  cases b with
  | true =>
    have X := Lib.hid (oLow_any 1 (by omega) (by omega) 1 (by omega) base W nb v l hP hbase hlen)
    clear hP hlen
    go_enter Try.func12, Try.ntmps12
    go_wp2_with fail
    refine X.out.mono ?_
    rintro e w1 ⟨rfl, h⟩
    have H := Lib.hid h
    clear h X
    go_wp2
    go_end0
    exact ⟨rfl, H.out⟩
  | false =>
    have X := Lib.hid (oLow_any 0 (by omega) (by omega) 1 (by omega) base W nb v l hP hbase hlen)
    clear hP hlen
    go_enter Try.func12, Try.ntmps12
    go_wp2_with fail
    refine X.out.mono ?_
    rintro e w1 ⟨rfl, h⟩
    have H := Lib.hid h
    clear h X
    go_wp2
    go_end0
    exact ⟨rfl, H.out⟩
set_option maxHeartbeats 1000000 in
theorem oRaw_any (base : Nat) (W : World) (nb : Nat) (v : Value) (l : List Int) (hP : OutP base W nb v l) (hbase : base ≤ W.heap.size) (a : Option Addr) (n c : Nat) (new : List Int) (hb : BL W a n new) (hnc : n ≤ c) (hlen : l.length + new.length ≤ 100000) :
    Calls Try.prog 16 #[.pointer (some ⟨nb, 0, none⟩), .slice a n c] W fun e W' => e = .returned (.tuple #[]) ∧ ∃ v', OutP base W' nb v' (l ++ new) ∧ TwoB W W' nb v.ownBlock ∧ (v'.ownBlock = v.ownBlock ∨ ∃ g, v'.ownBlock = some g ∧ W.heap.size ≤ g) := by
  have S0 := Lib.hid (PU.refl hP)
  have HB := Lib.hid hb
  have hn := hb.hn
  have c0 := hP.c
  clear hP hb
  go_enter Try.func16, Try.ntmps16
  go_wp2_with (at_builtin; refine wpList_ob rfl (.tmp 10) (.tmp 11) 25 25 rfl 5 _ (.int .u8 0) Try.underlying25 rfl rfl rfl rfl (by decide) S0.out.p.o rfl _ n (byC new) rfl (src_bl Try.underlying25 HB.out (fun _ => by cases a <;> simp) c) (by rw [byC_length]; omega) (by exact hbase) ?_)
  intro v1 w1 o1 g1 p1
  obtain ⟨a1, n1, m1, rfl⟩ : ∃ a n c, v1 = .slice a n c := by obtain ⟨a, c, h⟩ := o1.form; exact ⟨a, _, c, h⟩
  obtain ⟨cc, ff⟩ := S0.out.cells g1
  have S3 := Lib.hid (S0.out.push (new := new) o1 g1 p1 hlen)
  clear o1 g1 p1 S0 c0 HB
  go_wp2
  go_end0
  exact ⟨rfl, _, S3.out.p, S3.out.k, S3.out.o⟩
/-- copy of a text to four zeros -/
theorem run_copy_four {P : Program} (w : World) (dT sT ty elem : TypeId) (b dCap : Nat) (t : ByteArray)
    (hu : P.underlying dT = some (.slice elem)) (hz : ∀ w, (Go.sizeOf elem).run P w = .ok 1 w)
    (hc : ∀ j, j < 4 → w.cell? ⟨b, j, none⟩ = some (.int .u8 0)) (hf : ∀ j, w.frozen? ⟨b, j, none⟩ = false) :
    ∃ n w', (Builtin.copy_ #[dT, sT] ty #[.slice (some ⟨b, 0, none⟩) 4 dCap, .string t]).run P w = .ok (goInt n) w' ∧ (∀ j, j < 4 → w'.cell? ⟨b, j, none⟩ = some (.int .u8 (chB t j))) ∧ (∀ j, w'.frozen? ⟨b, j, none⟩ = false) ∧ w.grownBy w' (some b) := by
  obtain ⟨n, hn⟩ : ∃ n, Nat.min t.size 4 = n := ⟨_, rfl⟩
  have hn4 : n ≤ 4 := by rw [← hn]; exact Nat.min_le_right _ _
  have hnt : n ≤ t.size := by rw [← hn]; exact Nat.min_le_left _ _
  have hsz : t.data.toList.length = t.size := by rw [Array.length_toList]; rfl
  have hl : ((t.data.toList.map fun x => Value.int .u8 (x.toNat : Int)).take n).length = n := by rw [List.length_take, List.length_map, hsz]; omega
  have hst := run_storeCells_cells (P := P) b 0 ((t.data.toList.map fun x => Value.int .u8 (x.toNat : Int)).take n) 0 w (by rw [hl]; intro j hj; simp only [Nat.zero_add]; rw [hc _ (by omega)]; rfl) (by rw [hl]; intro j hj; exact hf _) (by
    intro v hv
    obtain ⟨x, _, rfl⟩ := List.mem_map.1 (List.mem_of_mem_take hv)
    rfl)
  refine ⟨n, w.setCells b 0 ((t.data.toList.map fun x => Value.int .u8 (x.toNat : Int)).take n), ?_, fun j hj => ?_, fun j => ?_, grown_setCells _ _ _ _⟩
  · simp [Builtin.copy_, run_underlying hu, Builtin.lenOf, Builtin.firstCells, hz, hn]
    rw [hst]
    rfl
  · by_cases k : j < n
    · have := World.cell?_setCells_in b ((t.data.toList.map fun x => Value.int .u8 (x.toNat : Int)).take n) 0 w (fun k hk => by rw [Nat.zero_add, hc k (by omega)]; rfl) j (by rw [hl]; exact k)
      rw [Nat.zero_add] at this
      rw [this]
      have hj : j < t.size := by omega
      simp only [List.getElem_take, List.getElem_map, Array.getElem_toList]
      unfold chB
      rw [dif_pos hj]
      rfl
    · rw [World.cell?_setCells_out b _ 0 w _ (fun _ _ => by show j < _ ∨ _ ≤ j; rw [hl]; omega), hc j hj]
      unfold chB
      rw [dif_neg (by rw [← hn] at k; intro h; exact k (by show j < min t.size 4; omega))]
  · exact (World.frozen?_setCells b _ 0 w _).trans (hf j)
theorem wpList_copy_four {P : Program} {w : World} {ops : Array Oper} {rest : List Oper} {o : Oper} {a : Act} {Q : Exit → Act → World → Prop} (hgd : o.guard = none) (d s : Operand) (dT sT : TypeId)
    (ho : o.op = .call { callee := .builtin .copy, args := #[d, s], argTypes := #[dT, sT] }) (elem : TypeId) (hu : P.underlying dT = some (.slice elem)) (hz : ∀ w, (Go.sizeOf elem).run P w = .ok 1 w) (b dCap : Nat) (t : ByteArray)
    (hd : a.eval d = .slice (some ⟨b, 0, none⟩) 4 dCap) (hs : a.eval s = .string t)
    (hc : ∀ j, j < 4 → w.cell? ⟨b, j, none⟩ = some (.int .u8 0)) (hf : ∀ j, w.frozen? ⟨b, j, none⟩ = false)
    (h : ∀ n w', (∀ j, j < 4 → w'.cell? ⟨b, j, none⟩ = some (.int .u8 (chB t j))) → (∀ j, w'.frozen? ⟨b, j, none⟩ = false) → w.grownBy w' (some b) → wpList P ops Q rest (a.put o.dst (goInt n)) w') : wpList P ops Q (o :: rest) a w := by
  refine wpList_plain hgd fun K hK' => ?_
  obtain ⟨n, w', hrun, r1, r2, r3⟩ := run_copy_four (P := P) w dT sT o.type elem b dCap t hu hz hc hf
  unfold Oper.wp
  simp [execOp, ho, resolve, invoke, builtin, hd, hs, hrun, Result.andThen]
  exact hK' _ _ (h n w' r1 r2 r3)
def markV (s : ByteArray) : Value := .agg #[.int .u8 (chB s 0), .int .u8 (chB s 1), .int .u8 (chB s 2), .int .u8 (chB s 3)]
set_option maxHeartbeats 1000000 in
theorem oMk_any (s : ByteArray) (w : World) : Calls Try.prog 27 #[.string s] w fun e w' => e = .returned (markV s) ∧ Below w.heap.size w w' := by
  unfold markV
  go_enter Try.func27, Try.ntmps27
  go_wp2_with (with_reducible refine wpList_copy_four rfl (.tmp 4) (.tmp 5) 25 9 rfl 5 Try.underlying25 (fun w => by simp [go_sem]) (w.heap.size + 1) 4 s rfl rfl ?_ ?_ ?_)
  · intro j hj
    have h4 : j = 0 ∨ j = 1 ∨ j = 2 ∨ j = 3 := by omega
    rcases h4 with rfl | rfl | rfl | rfl <;> go_simp
  · intro j
    go_simp
  · intro n w1 hc hf hg
    have d0 := hc 0 (by omega)
    have d1 := hc 1 (by omega)
    have d2 := hc 2 (by omega)
    have d3 := hc 3 (by omega)
    have far : ∀ j, w1.cell? ⟨w.heap.size, j, none⟩ = ((w.alloc (.cells #[.int .u8 0, .int .u8 0, .int .u8 0, .int .u8 0] 53)).alloc (.cells #[.int .u8 0, .int .u8 0, .int .u8 0, .int .u8 0] 53)).cell? ⟨w.heap.size, j, none⟩ := fun j => hg.cell_far ⟨w.heap.size, j, none⟩ (by simp; omega) (by simp)
    have e0 : w1.cell? ⟨w.heap.size, 0, none⟩ = some (.int .u8 0) := by rw [far]; go_simp
    have e1 : w1.cell? ⟨w.heap.size, 1, none⟩ = some (.int .u8 0) := by rw [far]; go_simp
    have e2 : w1.cell? ⟨w.heap.size, 2, none⟩ = some (.int .u8 0) := by rw [far]; go_simp
    have e3 : w1.cell? ⟨w.heap.size, 3, none⟩ = some (.int .u8 0) := by rw [far]; go_simp
    have ef : ∀ j, w1.frozen? ⟨w.heap.size, j, none⟩ = false := fun j => (hg.frozen_far ⟨w.heap.size, j, none⟩ (by simp; omega) (by simp)).trans (by go_simp)
    have HB := Lib.hid (show Below w.heap.size w w1 from ((((Below.refl _ _).alloc (Nat.le_refl _) _).alloc (by simp) _)).trans ⟨hg.os, hg.tape, hg.output, hg.size, fun k hk => hg.block k (by simp; omega) (by intro e; injection e; omega)⟩)
    have sz : w.heap.size + 1 < w1.heap.size := by have := hg.size; simp at this; omega
    clear hc hg far
    go_wp2
    exact bodyPost_ret (v := .agg #[.int .u8 (chB s 0), .int .u8 (chB s 1), .int .u8 (chB s 2), .int .u8 (chB s 3)]) (by simp [results, Try.results27, go_sem, e0, e1, e2, e3, World.cell?_setCell_same]) rfl ⟨rfl, by have HB2 := HB.out; repeat (first | with_reducible refine Below.setCell ?_ (by first | omega | (simp; done) | (simp; omega)) _ | with_reducible refine Below.alloc ?_ (by first | omega | (simp; done) | (simp; omega)) _ | with_reducible refine below_drewN ?_ _ | with_reducible refine Below.drew ?_ | with_reducible exact Below.refl _ _ | with_reducible assumption | with_reducible refine Below.trans ?_ (Below.mono (by assumption) (by first | omega | (simp; done) | (simp; omega))))⟩
theorem bl_mark {W : World} {b : Nat} (s : ByteArray) (hb : b < W.heap.size) (c0 : W.cell? ⟨b, 0, none⟩ = some (.int .u8 (chB s 0))) (c1 : W.cell? ⟨b, 1, none⟩ = some (.int .u8 (chB s 1))) (c2 : W.cell? ⟨b, 2, none⟩ = some (.int .u8 (chB s 2))) (c3 : W.cell? ⟨b, 3, none⟩ = some (.int .u8 (chB s 3))) : BL W (some ⟨b, 0, none⟩) 4 (markB s 4) :=
  ⟨markB_length s 4, markB_in s 4, fun _ => ⟨b, 0, rfl, hb, fun i x hx => by
    rw [Nat.zero_add]
    have hx : ([chB s 0, chB s 1, chB s 2, chB s 3] : List Int)[i]? = some x := hx
    match i, hx with
    | 0, hx => cases hx; exact c0
    | 1, hx => cases hx; exact c1
    | 2, hx => cases hx; exact c2
    | 3, hx => cases hx; exact c3⟩⟩
set_option maxHeartbeats 1000000 in
theorem oMark_any (s : ByteArray) : outT.puts 14 #[.string s] (markB s 4) := by
  intro base W nb v l hP hbase hlen
  show Calls Try.prog _ #[.pointer (some ⟨nb, 0, none⟩), .string s] W _
  have S0 := Lib.hid (PU.refl hP)
  have M := Lib.hid (fun W => oMk_any s W)
  unfold markV at M
  clear hP
  go_enter Try.func14, Try.ntmps14
  go_wp2_with fail
  refine (M.out _).mono ?_
  rintro e w1 ⟨rfl, hb⟩
  have S1 := Lib.hid (S0.out.step hb)
  have z := hb.size
  clear hb S0 M
  go_wp2_with fail
  refine callsg (S := fun W2 => PU base W W2 nb v v l ∧ BL W2 (some ⟨w1.heap.size, 0, none⟩) 4 (markB s 4)) ⟨S1.out.step (by repeat (first | with_reducible refine Below.setCell ?_ (by first | omega | (simp; done) | (simp; omega)) _ | with_reducible refine Below.alloc ?_ (by first | omega | (simp; done) | (simp; omega)) _ | with_reducible refine below_drewN ?_ _ | with_reducible refine Below.drew ?_ | with_reducible exact Below.refl _ _ | with_reducible assumption | with_reducible refine Below.trans ?_ (Below.mono (by assumption) (by first | omega | (simp; done) | (simp; omega))))), bl_mark s (by simp) (by go_simp) (by go_simp) (by go_simp) (by go_simp)⟩ (fun W2 hS => ?_)
  have S2 := Lib.hid hS.1
  have B2 := Lib.hid hS.2
  have l1 := S1.out.p.lt
  have NE := Lib.hid (show ∀ g, v.ownBlock = some g → g < w1.heap.size from fun g e => (S1.out.p.o.row_lt e).2)
  clear hS S1
  refine (oRaw_any base W2 nb v l S2.out.p (by have := S2.out.k.size; omega) _ 4 4 (markB s 4) B2.out (Nat.le_refl _) hlen).mono ?_
  rintro e w3 ⟨rfl, v3, hp, hk, ho⟩
  have R := Lib.hid (show ∃ v', OutP base w3 nb v' (l ++ markB s 4) ∧ TwoB W w3 nb v.ownBlock ∧ (v'.ownBlock = v.ownBlock ∨ ∃ g, v'.ownBlock = some g ∧ W.heap.size ≤ g) from
    ⟨v3, hp, ⟨hk.os.trans S2.out.k.os, hk.tape.trans S2.out.k.tape, hk.output.trans S2.out.k.output, Nat.le_trans S2.out.k.size hk.size, fun j h1 h2 h3 => (hk.block j (Nat.lt_of_lt_of_le h1 S2.out.k.size) h2 h3).trans (S2.out.k.block j h1 h2 h3)⟩, ho.imp_right (fun ⟨g, e, h⟩ => ⟨g, e, Nat.le_trans S2.out.k.size h⟩)⟩)
  clear hp hk ho S2 B2 NE
  go_wp2
  go_end0
  exact ⟨rfl, R.out⟩
theorem OB.ofRow {base : Nat} {W : World} {T : TypeId} {v : Value} {n : Nat} {xs : List Value} (h : W.ownsRow base T 1 v n xs) : OB base W v xs := by
  have hl := h.1
  rw [Nat.mul_one] at hl
  rcases h.2 with ⟨rfl, rfl, _⟩ | ⟨g, cap, cur, rfl, hb, hg, hnc, hcm, hcs, ht⟩
  · exact .inl ⟨rfl, List.eq_nil_of_length_eq_zero (by omega)⟩
  · rw [Nat.mul_one] at hcs ht
    refine .inr ⟨g, cap, by rw [hl], hb, ?_, by omega, hcm, fun j hj => ?_, fun j => ?_, fun j u hj => ?_⟩
    · rcases Nat.lt_or_ge g W.heap.size with k | k
      · exact k
      · rw [Array.getElem?_eq_none k] at hg; cases hg
    · rw [cell_of_row W g j cur T (0, 0) hg, Array.getElem?_eq_getElem (by omega)]; rfl
    · simp [World.frozen?, hg]
    · rw [cell_of_row W g j cur T (0, 0) hg, ← Array.getElem?_toList]
      rw [← ht, List.getElem?_take] at hj
      split at hj
      · exact hj
      · cases hj
/-- bytes.Clone of bytes that lie in memory -/
theorem clone_any (a : Option Addr) (n c : Nat) (l : List Int) (W : World) (hb : BL W a n l) (hn : n ≤ 1000000000) (ha : n = 0 → a = none ∨ ∃ x, a = some x) :
    Calls Try.prog 28 #[.slice a n c] W fun e W' => (∃ b, e = .returned b ∧ OB W.heap.size W' b (byC l)) ∧ Below W.heap.size W W' := by
  have hl := hb.hn
  cases a with
  | none =>
    have : n = 0 := by
      rcases Nat.eq_zero_or_pos n with h | h
      · exact h
      · obtain ⟨b, o, e, _⟩ := hb.c h; cases e
    subst this
    have : l = [] := List.eq_nil_of_length_eq_zero hl
    subst this
    refine (Try.bytes_Clone_nil 0 c W).mono ?_
    rintro e w1 ⟨rfl, rfl⟩
    exact ⟨⟨_, rfl, OB.nil _ _⟩, Below.refl _ _⟩
  | some x =>
    refine (Try.bytes_Clone_at x n c l W hl (by omega) (fun i hi => ?_)).mono ?_
    · obtain ⟨b, o, e, hlt, hc⟩ := hb.c (by omega)
      cases e
      rw [Addr.add_lit]
      exact hc i _ (by rw [List.getElem?_eq_getElem (by omega), List.getD_eq_getElem?_getD, List.getElem?_eq_getElem (by omega)]; rfl)
    · rintro e w1 ⟨v, rfl, hr, -, hB⟩
      exact ⟨⟨_, rfl, OB.ofRow hr⟩, hB⟩
set_option maxHeartbeats 1000000 in
theorem oBytes_any (base : Nat) (W : World) (nb : Nat) (v : Value) (l : List Int) (hP : OutP base W nb v l) (hl : Byt l) :
    Calls Try.prog 17 #[.pointer (some ⟨nb, 0, none⟩)] W fun e W' => (∃ b, e = .returned b ∧ OB W.heap.size W' b (byC l)) ∧ Below W.heap.size W W' := by
  have c0 := hP.c
  have hn := hP.n
  obtain ⟨a, c, rfl, hb, -⟩ := hP.o.bl hl
  have X := Lib.hid (clone_any a l.length c l W hb (by omega) (fun _ => by cases a <;> simp))
  clear hP hb
  go_enter Try.func17, Try.ntmps17
  go_wp2_with fail
  refine X.out.mono ?_
  rintro e w1 ⟨⟨b, rfl, ho⟩, hb⟩
  have H := Lib.hid (And.intro ho hb)
  clear ho hb X c0
  go_wp2
  go_ret
  exact ⟨⟨_, rfl, H.out.1⟩, H.out.2⟩
theorem oZero (base : Nat) (W : World) (hb : base ≤ W.heap.size) : ∃ v, OutP base (W.alloc (.cells #[.slice none 0 0] 27)) W.heap.size v [] ∧ v.ownBlock = none :=
  ⟨.slice none 0 0, ⟨hb, by simp, by go_simp, fun j => by go_simp, OB.nil _ _, (by intro e; cases e), by simp⟩, rfl⟩
theorem oNilLow (u : Int) (W : World) : Calls Try.prog 26 #[.pointer none, .int .u64 u, .int .i64 8] W fun e W' => e = .returned (.tuple #[]) ∧ W' = W := by
  go_enter Try.func26, Try.ntmps26
  go_wp2
  (try simp only [Exit.inBlock, Exit.then])
  refine bodyPost_ret (results_none rfl _ _ _) rfl ?_
  exact ⟨rfl, rfl⟩
theorem oNilNum (n : Int) (W : World) (hn : In64Y n) : Calls Try.prog 8 #[.pointer none, .int .i64 n] W fun e W' => e = .returned (.tuple #[]) ∧ Below W.heap.size W W' := by
  unfold In64Y at hn
  go_enter Try.func8, Try.ntmps8
  go_wp2_with fail
  refine (oNilLow _ W).mono ?_
  rintro e w1 ⟨rfl, rfl⟩
  go_wp2
  go_end0
  exact ⟨rfl, Below.refl _ _⟩
theorem oNilBytes (W : World) : Calls Try.prog 17 #[.pointer none] W fun e W' => (∃ a c, e = .returned (.slice a 0 c)) ∧ Below W.heap.size W W' := by
  go_enter Try.func17, Try.ntmps17
  go_wp2
  go_ret
  exact ⟨⟨_, _, rfl⟩, Below.refl _ _⟩
end Go.Proofs.Ytcljaffdochdiaa
