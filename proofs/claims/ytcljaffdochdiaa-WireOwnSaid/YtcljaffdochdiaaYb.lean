/- append in a walk; the document's words: Num, Count, Flag, Mark. -/
import Derived.Test.YtcljaffdochdiaaYa
import Derived.Below
import Derived.Lib.Hide
import Derived.ProofKit
namespace Go.Proofs.Ytcljaffdochdiaa
open Go.RowKit
set_option linter.unusedVariables false
set_option linter.unusedSimpArgs false

/-- append at an operation of a plain region -/
theorem wpList_ob {P : Program} {ops : Array Oper} {rest : List Oper} {o : Oper} {a : Act} {Q : Exit → Act → World → Prop} {w : World} (hgd : o.guard = none) (s x : Operand) (t tx : TypeId)
    (ho : o.op = .call { callee := .builtin .append, args := #[s, x], argTypes := #[t, tx] })
    {base : Nat} {v : Value} {xs : List Value} (T : TypeId) (i : TypeInfo) (z : Value) (ht : P.underlying t = some (.slice T)) (hi : P.info? T = some i) (hz : i.zero = some z)
    (hzs : z.cells.size = 1) (h1 : i.size = 1) (hby : i.bytes ≤ 8) (h : OB base w v xs) (hv : a.eval s = v) (xv : Value) (m : Nat) (news : List Value) (hx : a.eval x = xv) (hs : Src P 1 tx xv m news w) (hf : xs.length + m ≤ 1000000000) (hbase : base ≤ w.heap.size)
    (hK : ∀ v' w', OB base w' v' (xs ++ news) → w.grownBy w' v.ownBlock → (v'.ownBlock = v.ownBlock ∨ v'.ownBlock = some w.heap.size) → wpList P ops Q rest (a.put o.dst v') w') : wpList P ops Q (o :: rest) a w := by
  refine wpList_plain hgd fun K hK' => ?_
  obtain ⟨v', w', hrun, r1, r2, r3⟩ := ob_append (P := P) t tx o.type T i z ht hi hz hzs h1 hby h xv m news hs hf hbase
  unfold Oper.wp
  simp [execOp, ho, resolve, invoke, builtin, hv, hx, hrun, Result.andThen]
  exact hK' _ _ (hK v' w' r1 r2 r3)
/-- a block that was just made yields its elements -/
theorem src_new {P : Program} {tx e' : TypeId} (hk : P.underlying tx = some (.slice e')) (w : World) (l : List Value) (T : TypeId) (n : Nat) (hn : l.length = n) (h1 : ∀ u ∈ l, u.oneCell' = true) : Src P 1 tx (.slice (some ⟨w.heap.size, 0, none⟩) n n) n l (w.alloc (.cells l.toArray T)) :=
  Src.ofSlice _ hk ⟨w.heap.size, 0, none⟩ n n l (by omega) (fun j u hj => by
    rw [show (⟨w.heap.size, 0, none⟩ : Addr).add j = ⟨w.heap.size, j, none⟩ by unfold Addr.add; split <;> simp_all, World.cell?_alloc_new w l.toArray T j]
    simpa using hj) h1
/-- a list of the call's own yields its elements -/
theorem src_own {P : Program} {tx e' : TypeId} (hk : P.underlying tx = some (.slice e')) {base : Nat} {w : World} {v : Value} {xs : List Value} (h : OB base w v xs) (h1 : ∀ u ∈ xs, u.oneCell' = true) : Src P 1 tx v xs.length xs w := by
  rcases h with ⟨rfl, rfl⟩ | ⟨g, cap, rfl, hb, hg, hl, hm, hc, hf, hx⟩
  · exact Src.ofNil _ hk 0
  · exact Src.ofSlice _ hk ⟨g, 0, none⟩ xs.length cap xs (by omega) (fun j u hj => by
      rw [show (⟨g, 0, none⟩ : Addr).add j = ⟨g, j, none⟩ by unfold Addr.add; split <;> simp_all]
      exact hx j u hj) h1
theorem one_ints (k : IntKind) (l : List Int) : ∀ u ∈ l.map (Value.int k), u.oneCell' = true := by
  intro u hu
  obtain ⟨x, _, rfl⟩ := List.mem_map.1 hu
  rfl
def byC (l : List Int) : List Value := l.map (Value.int .u8)
theorem byC_append (a b : List Int) : byC (a ++ b) = byC a ++ byC b := by simp [byC]
theorem byC_length (a : List Int) : (byC a).length = a.length := by simp [byC]
theorem OB.up {base : Nat} {W W' : World} {v : Value} {xs : List Value} (k : OB base W v xs) (h : W.grownBy W' v.ownBlock) (hb : base ≤ W.heap.size) : Below base W W' := by
  refine ⟨h.os, h.tape, h.output, h.size, fun j hj => h.block j (by omega) (fun e => ?_)⟩
  rcases k with ⟨rfl, _⟩ | ⟨g, cap, rfl, hg, _⟩
  · cases e
  · have : j = g := by simpa [Value.ownBlock] using e
    omega
/-- a number's digits of 256 -/
def dvB (u : Int) : Nat → Int
  | 0 => u
  | i + 1 => dvB u i / 256
def numB (u : Int) (n : Nat) : List Int := (List.range n).map fun i => dvB u i % 256
theorem numB_succ (u : Int) (n : Nat) : numB u (n + 1) = numB u n ++ [dvB u n % 256] := by simp [numB, List.range_succ]
theorem numB_length (u : Int) (n : Nat) : (numB u n).length = n := by simp [numB]
theorem dvB_in {u : Int} (h0 : 0 ≤ u) (h1 : u ≤ 18446744073709551615) : ∀ i, 0 ≤ dvB u i ∧ dvB u i ≤ 18446744073709551615
  | 0 => ⟨h0, h1⟩
  | i + 1 => by
    have := dvB_in h0 h1 i
    show 0 ≤ dvB u i / 256 ∧ dvB u i / 256 ≤ _
    omega
def tw64 (n : Int) : Int := n % 18446744073709551616
set_option maxHeartbeats 1000000 in
theorem rwNum_any (n : Int) (w : World) (n0 : -9223372036854775808 ≤ n) (n1 : n ≤ 9223372036854775807) :
    Calls Try.prog 9 #[.int .i64 n] w fun e w' => (∃ v, e = .returned v ∧ OB w.heap.size w' v (byC (numB (tw64 n) 8))) ∧ Below w.heap.size w w' := by
  obtain ⟨u, hu⟩ : ∃ u, tw64 n = u := ⟨_, rfl⟩
  have u0 : 0 ≤ u := by rw [← hu]; unfold tw64; omega
  have u1 : u ≤ 18446744073709551615 := by rw [← hu]; unfold tw64; omega
  have D := Lib.hid (dvB_in u0 u1)
  rw [hu]
  have HU := Lib.hid hu
  go_enter Try.func9, Try.ntmps9
  go_wp2
  go_loopw [3, 4, 5] (fun l d i wr => ∃ j : Nat, j ≤ 8 ∧ i = .int .i64 j ∧ d = .int .u64 (dvB u j) ∧ OB w.heap.size wr l (byC (numB u j)) ∧ Below w.heap.size w wr) (fun _ _ i _ => 8 - (intOf i).toNat)
  case atStart => exact ⟨0, by omega, rfl, by rw [← HU.out]; rfl, OB.nil _ _, Below.refl _ _⟩
  case round =>
    obtain ⟨j, hj, rfl, rfl, hO, hB⟩ := hrel
    have O0 := Lib.hid hO
    have B0 := Lib.hid hB
    clear hO hB
    by_cases c : j < 8
    · obtain ⟨q, hq⟩ : ∃ q, dvB u j = q := ⟨_, rfl⟩
      have q0 : 0 ≤ q := by rw [← hq]; exact (D.out j).1
      have q1 : q ≤ 18446744073709551615 := by rw [← hq]; exact (D.out j).2
      have E := Lib.hid (show dvB u (j + 1) = q / 256 by rw [← hq]; rfl)
      have N := Lib.hid (show byC (numB u (j + 1)) = byC (numB u j) ++ [.int .u8 (q % 256)] by rw [numB_succ, byC_append, hq]; rfl)
      have sz := B0.out.size
      have O1 := Lib.hid (O0.out.below (k := (Below.refl _ _).alloc (Nat.le_refl _) (.cells #[.int .u8 (q % 256)] 5)))
      rw [hq]
      clear hq
      go_wp2_with (at_builtin; refine wpList_ob rfl (.tmp 12) (.tmp 16) 25 25 rfl 5 _ (.int .u8 0) Try.underlying25 rfl rfl rfl rfl (by decide) O1.out rfl _ 1 [.int .u8 (q % 256)] rfl (src_new Try.underlying25 wr [.int .u8 (q % 256)] 5 1 rfl (one_ints .u8 [q % 256])) (by rw [byC_length, numB_length]; omega) (by simp; omega) ?_)
      intro v1 w1 o1 g1 p1
      have O2 := Lib.hid (show OB w.heap.size w1 v1 (byC (numB u (j + 1))) by rw [N.out]; exact o1)
      have B2 := Lib.hid ((B0.out.alloc sz (.cells #[.int .u8 (q % 256)] 5)).trans (O1.out.up g1 (by simp; omega)))
      clear o1 g1 p1 O0 O1 B0 N D HU
      go_wp2
      go_roundw
      case rel => exact ⟨j + 1, by omega, by go_num, by rw [E.out], O2.out, B2.out⟩
      case measure => simp [intOf]; omega
    · have E := Lib.hid (show j = 8 by omega)
      go_wp2
      go_ret
      exact ⟨⟨_, rfl, by have := O0.out; rw [E.out] at this; exact this⟩, B0.out⟩
def u16B (n : Int) : List Int := [tw64 n % 256, tw64 n / 256 % 256]
theorem rwCount_any (n : Int) (w : World) (n0 : -9223372036854775808 ≤ n) (n1 : n ≤ 9223372036854775807) :
    Calls Try.prog 11 #[.int .i64 n] w fun e w' => (∃ v, e = .returned v ∧ OB w.heap.size w' v (byC (u16B n))) ∧ Below w.heap.size w w' := by
  obtain ⟨u, hu⟩ : ∃ u, tw64 n = u := ⟨_, rfl⟩
  have u0 : 0 ≤ u := by rw [← hu]; unfold tw64; omega
  have u1 : u ≤ 18446744073709551615 := by rw [← hu]; unfold tw64; omega
  have hE : IntKind.u64.wrap n = u := by rw [← hu, IntKind.wrap_u64]; rfl
  have E := Lib.hid (show byC (u16B n) = [.int .u8 (u % 256), .int .u8 (u / 256 % 256)] by unfold u16B; rw [hu]; rfl)
  rw [E.out]
  clear hu
  go_enter Try.func11, Try.ntmps11
  go_wp2
  go_ret
  exact ⟨⟨_, rfl, OB.new w [_, _] [] _ _ rfl (Nat.le_refl _) (by unfold maxLen; simp)⟩, by repeat (first | exact Below.refl _ _ | assumption | refine Below.setCell ?_ (by first | omega | (simp; done) | (simp; omega)) _ | refine Below.alloc ?_ (by first | omega | (simp; done) | (simp; omega)) _ | refine below_drewN ?_ _ | refine Below.drew ?_ | refine Below.trans ?_ (Below.mono (by assumption) (by first | omega | (simp; done) | (simp; omega))))⟩
def flagB (b : Bool) : List Int := [if b then 1 else 0]
theorem rwFlag_any (b : Bool) (w : World) :
    Calls Try.prog 13 #[.bool b] w fun e w' => (∃ v, e = .returned v ∧ OB w.heap.size w' v (byC (flagB b))) ∧ Below w.heap.size w w' := by
  cases b with
  | true =>
    go_enter Try.func13, Try.ntmps13
    go_wp2
    go_ret
    exact ⟨⟨_, rfl, OB.new w [_] [] _ _ rfl (Nat.le_refl _) (by unfold maxLen; simp)⟩, by repeat (first | exact Below.refl _ _ | assumption | refine Below.setCell ?_ (by first | omega | (simp; done) | (simp; omega)) _ | refine Below.alloc ?_ (by first | omega | (simp; done) | (simp; omega)) _ | refine below_drewN ?_ _ | refine Below.drew ?_ | refine Below.trans ?_ (Below.mono (by assumption) (by first | omega | (simp; done) | (simp; omega))))⟩
  | false =>
    go_enter Try.func13, Try.ntmps13
    go_wp2
    go_ret
    exact ⟨⟨_, rfl, OB.new w [_] [] _ _ rfl (Nat.le_refl _) (by unfold maxLen; simp)⟩, by repeat (first | exact Below.refl _ _ | assumption | refine Below.setCell ?_ (by first | omega | (simp; done) | (simp; omega)) _ | refine Below.alloc ?_ (by first | omega | (simp; done) | (simp; omega)) _ | refine below_drewN ?_ _ | refine Below.drew ?_ | refine Below.trans ?_ (Below.mono (by assumption) (by first | omega | (simp; done) | (simp; omega))))⟩
/-- the bytes of a mark: zeros in place of missing ones -/
def chB (s : ByteArray) (i : Nat) : Int := if h : i < s.size then (s[i].toNat : Int) else 0
def markB (s : ByteArray) (n : Nat) : List Int := (List.range n).map (chB s)
theorem markB_succ (s : ByteArray) (n : Nat) : markB s (n + 1) = markB s n ++ [chB s n] := by simp [markB, List.range_succ]
theorem markB_length (s : ByteArray) (n : Nat) : (markB s n).length = n := by simp [markB]
set_option maxHeartbeats 1000000 in
theorem rwMark_any (s : ByteArray) (w : World) :
    Calls Try.prog 15 #[.string s] w fun e w' => (∃ v, e = .returned v ∧ OB w.heap.size w' v (byC (markB s 4))) ∧ Below w.heap.size w w' := by
  go_enter Try.func15, Try.ntmps15
  go_wp2
  go_loopw [3, 4] (fun l i wr => ∃ j : Nat, j ≤ 4 ∧ i = .int .i64 j ∧ OB w.heap.size wr l (byC (markB s j)) ∧ Below w.heap.size w wr) (fun _ i _ => 4 - (intOf i).toNat)
  case atStart => exact ⟨0, by omega, rfl, OB.nil _ _, Below.refl _ _⟩
  case round =>
    obtain ⟨j, hj, rfl, hO, hB⟩ := hrel
    have O0 := Lib.hid hO
    have B0 := Lib.hid hB
    clear hO hB
    by_cases c : j < 4
    · have N := Lib.hid (show byC (markB s (j + 1)) = byC (markB s j) ++ [.int .u8 (chB s j)] by rw [markB_succ, byC_append]; rfl)
      have sz := B0.out.size
      by_cases d : j < s.size
      · have C := Lib.hid (show chB s j = (s[j].toNat : Int) by unfold chB; rw [dif_pos d])
        rw [C.out] at N
        have O1 := Lib.hid (O0.out.below (k := (Below.refl _ _).alloc (Nat.le_refl _) (.cells #[.int .u8 ((s[j].toNat : Int))] 5)))
        go_wp2_with (at_builtin; refine wpList_ob rfl (.tmp 17) (.tmp 19) 25 25 rfl 5 _ (.int .u8 0) Try.underlying25 rfl rfl rfl rfl (by decide) O1.out rfl _ 1 [.int .u8 ((s[j].toNat : Int))] rfl (src_new Try.underlying25 wr [.int .u8 ((s[j].toNat : Int))] 5 1 rfl (one_ints .u8 [(s[j].toNat : Int)])) (by rw [byC_length, markB_length]; omega) (by simp; omega) ?_)
        intro v1 w1 o1 g1 p1
        have O2 := Lib.hid (show OB w.heap.size w1 v1 (byC (markB s (j + 1))) by rw [N.out]; exact o1)
        have B2 := Lib.hid ((B0.out.alloc sz (.cells #[.int .u8 ((s[j].toNat : Int))] 5)).trans (O1.out.up g1 (by simp; omega)))
        clear o1 g1 p1 O0 O1 B0 N
        go_wp2
        go_roundw
        case rel => exact ⟨j + 1, by omega, by go_num, O2.out, B2.out⟩
        case measure => simp [intOf]; omega
      · have C := Lib.hid (show chB s j = 0 by unfold chB; rw [dif_neg d])
        rw [C.out] at N
        have d' : ¬ (j : Int) < (s.size : Int) := by omega
        have O1 := Lib.hid (O0.out.below (k := (Below.refl _ _).alloc (Nat.le_refl _) (.cells #[.int .u8 (0)] 5)))
        go_wp2_with (at_builtin; refine wpList_ob rfl (.tmp 17) (.tmp 19) 25 25 rfl 5 _ (.int .u8 0) Try.underlying25 rfl rfl rfl rfl (by decide) O1.out rfl _ 1 [.int .u8 (0)] rfl (src_new Try.underlying25 wr [.int .u8 (0)] 5 1 rfl (one_ints .u8 [0])) (by rw [byC_length, markB_length]; omega) (by simp; omega) ?_)
        intro v1 w1 o1 g1 p1
        have O2 := Lib.hid (show OB w.heap.size w1 v1 (byC (markB s (j + 1))) by rw [N.out]; exact o1)
        have B2 := Lib.hid ((B0.out.alloc sz (.cells #[.int .u8 (0)] 5)).trans (O1.out.up g1 (by simp; omega)))
        clear o1 g1 p1 O0 O1 B0 N
        go_wp2
        go_roundw
        case rel => exact ⟨j + 1, by omega, by go_num, O2.out, B2.out⟩
        case measure => simp [intOf]; omega
    · have E := Lib.hid (show j = 4 by omega)
      go_wp2
      go_ret
      exact ⟨⟨_, rfl, by have := O0.out; rw [E.out] at this; exact this⟩, B0.out⟩
end Go.Proofs.Ytcljaffdochdiaa
