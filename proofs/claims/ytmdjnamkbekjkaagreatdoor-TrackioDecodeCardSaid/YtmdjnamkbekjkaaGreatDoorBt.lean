/- -/
import Derived.Test.YtmdjnamkbekjkaaGreatDoorProg
import Derived.WalkKit
import Derived.Deep.Upon
import Derived.Deep.AppendLies
import Derived.Below
import Derived.Lib.Hide
import Derived.ProofKit
import Derived.Lib.SliceRun
namespace Go.Proofs.YtmdjnamkbekjkaaGreatDoor
open Go.RowKit
set_option linter.unusedVariables false
set_option linter.unusedSimpArgs false
def OB (base : Nat) (W : World) (v : Value) (xs : List Value) : Prop :=
 (v = .slice none 0 0 ∧ xs = []) ∨
 ∃ g cap, v = .slice (some ⟨g, 0, none⟩) xs.length cap ∧ base ≤ g ∧ g < W.heap.size ∧ xs.length ≤ cap ∧ cap ≤ maxLen ∧ (∀ j, j < cap → (W.cell? ⟨g, j, none⟩).isSome = true) ∧ (∀ j, W.frozen? ⟨g, j, none⟩ = false) ∧ (∀ j u, xs[j]? = some u → W.cell? ⟨g, j, none⟩ = some u)
theorem grown_setCells (g : Nat) : ∀ (vs : List Value) (o : Nat) (w : World), w.grownBy (w.setCells g o vs) (some g)
 | [], _, w => World.grownBy.refl w _
 | v :: r, o, w => by
  have h1 : w.grownBy (w.setCell ⟨g, o, none⟩ v) (some g) := ⟨rfl, rfl, rfl, by simp [World.setCell], fun k hk hne => by
   have : k ≠ g := fun e => hne (by rw [e])
   simp [World.setCell, Array.getElem?_modify, this.symm]⟩
  exact h1.trans (grown_setCells g r (o + 1) _)
theorem size_setC (g : Nat) : ∀ (vs : List Value) (o : Nat) (w : World), (w.setCells g o vs).heap.size = w.heap.size
 | [], _, _ => rfl
 | v :: r, o, w => by rw [World.setCells, size_setC g r (o + 1)]; simp [World.setCell]
theorem OB.grown {base : Nat} {W W' : World} {v : Value} {xs : List Value} {row : Option Nat} (h : OB base W v xs) (k : W.grownBy W' row) (hne : v.ownBlock = row → row = none) : OB base W' v xs := by
 rcases h with h | ⟨g, cap, rfl, hb, hg, hl, hm, hc, hf, hx⟩
 ·exact .inl h
 ·have ne : some g ≠ row := fun e => by have := hne (by rw [← e]; rfl); rw [this] at e; cases e
  exact .inr ⟨g, cap, rfl, hb, Nat.lt_of_lt_of_le hg k.size, hl, hm, fun j hj => by rw [k.cell_far ⟨g, j, none⟩ hg ne]; exact hc j hj, fun j => by rw [k.frozen_far ⟨g, j, none⟩ hg ne]; exact hf j, fun j u hj => by rw [k.cell_far ⟨g, j, none⟩ hg ne]; exact hx j u hj⟩
theorem OB.below {base : Nat} {W W' : World} {v : Value} {xs : List Value} (h : OB base W v xs) (k : Below W.heap.size W W') : OB base W' v xs :=
 h.grown (row := none) ⟨k.os, k.tape, k.output, k.size, fun i hi _ => k.block i hi⟩ (fun _ => rfl)
theorem OB.mono {base base' : Nat} {W : World} {v : Value} {xs : List Value} (h : OB base W v xs) (k : base' ≤ base) : OB base' W v xs := by
 rcases h with h | ⟨g, cap, hv, hb, hr⟩
 ·exact .inl h
 ·exact .inr ⟨g, cap, hv, Nat.le_trans k hb, hr⟩
theorem OB.nil (base : Nat) (W : World) : OB base W (.slice none 0 0) [] := .inl ⟨rfl, rfl⟩
theorem OB.form {base : Nat} {W : World} {v : Value} {xs : List Value} (h : OB base W v xs) : ∃ a c, v = .slice a xs.length c := by
 rcases h with ⟨rfl, rfl⟩ | ⟨g, cap, rfl, _⟩
 ·exact ⟨none, 0, rfl⟩
 ·exact ⟨_, cap, rfl⟩
theorem OB.new {base : Nat} (w : World) (xs rest : List Value) (C : Array Value) (t : TypeId) (hC : C.toList = xs ++ rest) (hb : base ≤ w.heap.size) (hm : C.size ≤ maxLen) : OB base (w.alloc (.cells C t)) (.slice (some ⟨w.heap.size, 0, none⟩) xs.length C.size) xs := by
 have hs : C.size = xs.length + rest.length := by rw [← Array.length_toList, hC, List.length_append]
 refine .inr ⟨w.heap.size, C.size, rfl, hb, by simp, by omega, hm, fun j hj => ?_, fun j => by go_simp, fun j u hj => ?_⟩
 ·rw [World.cell?_alloc_new w C t j, Array.getElem?_eq_getElem hj]; rfl
 ·rw [World.cell?_alloc_new w C t j, ← Array.getElem?_toList, hC, List.getElem?_append_left (by rcases Nat.lt_or_ge j xs.length with l | l; exact l; rw [List.getElem?_eq_none l] at hj; cases hj)]
  exact hj
theorem ob_append {P : Program} {w : World} {base : Nat} {v : Value} {xs : List Value} (t tx ty T : TypeId) (i : TypeInfo) (z : Value) (ht : P.underlying t = some (.slice T)) (hi : P.info? T = some i) (hz : i.zero = some z)
  (hzs : z.cells.size = 1) (h1 : i.size = 1) (hby : i.bytes ≤ 8) (h : OB base w v xs) (x : Value) (m : Nat) (news : List Value) (hs : Src P 1 tx x m news w) (hf : xs.length + m ≤ 1000000000) (hbase : base ≤ w.heap.size) :
  ∃ v' w', (Builtin.append_ #[t, tx] ty #[v, x]).run P w = .ok v' w' ∧ OB base w' v' (xs ++ news) ∧ w.grownBy w' v.ownBlock ∧ (v'.ownBlock = v.ownBlock ∨ v'.ownBlock = some w.heap.size) := by
 have hs' : Src P i.size tx x m news w := by rw [h1]; exact hs
 have hn : news.length = m := by have := hs.newsLen; omega
 by_cases m0 : m = 0
 ·subst m0
  have : news = [] := List.eq_nil_of_length_eq_zero hn
  subst this
  rw [List.append_nil]
  rcases h with ⟨rfl, rfl⟩ | ⟨g, cap, rfl, hr⟩
  ·exact ⟨_, _, run_append_nothing w t tx ty T i ht hi none 0 0 (Nat.le_refl _) x hs', OB.nil base w, World.grownBy.refl w _, .inl rfl⟩
  ·exact ⟨_, _, run_append_nothing w t tx ty T i ht hi _ _ cap hr.2.2.1 x hs', .inr ⟨g, cap, rfl, hr⟩, World.grownBy.refl w _, .inl rfl⟩
 have grow : ∀ (a : Option Addr) (cap : Nat), cap < xs.length + m → (Builtin.firstCells i.size xs.length (.slice a xs.length cap)).run P w.drew = .ok xs.toArray w.drew → v = .slice a xs.length cap →
   ∃ v' w', (Builtin.append_ #[t, tx] ty #[v, x]).run P w = .ok v' w' ∧ OB base w' v' (xs ++ news) ∧ w.grownBy w' v.ownBlock ∧ (v'.ownBlock = v.ownBlock ∨ v'.ownBlock = some w.heap.size) := by
  intro a cap hc hold e
  have hr := run_append_grow_src (P := P) w t tx ty T i z ht hi hz a xs.length cap xs hold x m news hs' hc (by omega) (growslice_fits hc (by
   have := Nat.mul_le_mul hf hby; omega))
  have hge := grownCap_ge w (xs.length + m) cap T
  have hle := grownCap_le_maxLen w (xs.length + m) cap T (by unfold maxLen; omega)
  have hsz : ((xs ++ news).toArray ++ Builtin.zeroCells z.cells (grownCap w (xs.length + m) cap T - (xs.length + m))).size = grownCap w (xs.length + m) cap T := by
   simp only [Array.size_append, List.size_toArray, List.length_append, size_zeroCells, hzs, hn]; omega
  have hob := OB.new (base := base) w.drew (xs ++ news) (Builtin.zeroCells z.cells (grownCap w (xs.length + m) cap T - (xs.length + m))).toList ((xs ++ news).toArray ++ Builtin.zeroCells z.cells (grownCap w (xs.length + m) cap T - (xs.length + m))) T (by simp) hbase (by rw [hsz]; exact hle)
  rw [hsz] at hob
  rw [List.length_append, hn] at hob
  rw [e]
  exact ⟨_, _, hr, hob, ⟨rfl, rfl, rfl, by simp, fun k hk _ => Below.heap_alloc w.drew _ k hk⟩, .inr rfl⟩
 rcases h with ⟨rfl, rfl⟩ | ⟨g, cap, rfl, hb, hg, hl, hm, hc, hfz, hx⟩
 ·exact grow none 0 (by simp; omega) (run_firstCells_none w.drew i.size 0 0 0) rfl
 ·by_cases room : xs.length + m ≤ cap
  ·have hr := run_append_room_src (P := P) w t tx ty T i ht hi g 0 xs.length cap x m news hs' room (fun j hj => by rw [h1, Nat.mul_one, Nat.zero_add]; exact hc _ (by omega)) (fun j hj => hfz _)
   rw [h1, Nat.mul_one, Nat.zero_add] at hr
   refine ⟨_, _, hr, .inr ⟨g, cap, by rw [List.length_append, hn], hb, by rw [size_setC]; exact hg, by rw [List.length_append, hn]; exact room, hm, fun j hj => ?_, fun j => (World.frozen?_setCells g news xs.length w _).trans (hfz j), fun j u hj => ?_⟩, grown_setCells g news _ w, .inl rfl⟩
   ·by_cases c : xs.length ≤ j ∧ j < xs.length + m
    ·have := World.cell?_setCells_in g news xs.length w (fun k hk => hc _ (by omega)) (j - xs.length) (by omega)
     rw [show xs.length + (j - xs.length) = j by omega] at this
     rw [this]; rfl
    ·rw [World.cell?_setCells_out g news xs.length w _ (fun _ _ => by show j < _ ∨ _ ≤ j; omega)]
     exact hc j hj
   ·rcases Nat.lt_or_ge j xs.length with l | l
    ·rw [World.cell?_setCells_out g news xs.length w _ (fun _ _ => by show j < _ ∨ _ ≤ j; omega)]
     rw [List.getElem?_append_left l] at hj
     exact hx j u hj
    ·rw [List.getElem?_append_right l] at hj
     have hjl : j - xs.length < news.length := by
      rcases Nat.lt_or_ge (j - xs.length) news.length with k | k
      ·exact k
      ·rw [List.getElem?_eq_none k] at hj; cases hj
     have := World.cell?_setCells_in g news xs.length w (fun k hk => hc _ (by omega)) (j - xs.length) hjl
     rw [show xs.length + (j - xs.length) = j by omega] at this
     rw [this, ← hj, List.getElem?_eq_getElem hjl]
  ·exact grow _ cap (by omega) (run_firstCells_some w.drew i.size xs.length ⟨g, 0, none⟩ xs.length cap xs (by rw [h1, Nat.mul_one]) (fun j u hj => by rw [show (⟨g, 0, none⟩ : Addr).add j = ⟨g, j, none⟩ by unfold Addr.add; split <;> simp_all]; exact hx j u hj)) rfl
theorem wpList_ob {P : Program} {ops : Array Oper} {rest : List Oper} {o : Oper} {a : Act} {Q : Exit → Act → World → Prop} {w : World} (hgd : o.guard = none) (s x : Operand) (t tx : TypeId)
  (ho : o.op = .call { callee := .builtin .append, args := #[s, x], argTypes := #[t, tx] })
  {base : Nat} {v : Value} {xs : List Value} (T : TypeId) (i : TypeInfo) (z : Value) (ht : P.underlying t = some (.slice T)) (hi : P.info? T = some i) (hz : i.zero = some z)
  (hzs : z.cells.size = 1) (h1 : i.size = 1) (hby : i.bytes ≤ 8) (h : OB base w v xs) (hv : a.eval s = v) (xv : Value) (m : Nat) (news : List Value) (hx : a.eval x = xv) (hs : Src P 1 tx xv m news w) (hf : xs.length + m ≤ 1000000000) (hbase : base ≤ w.heap.size)
  (hK : ∀ v' w', OB base w' v' (xs ++ news) → w.grownBy w' v.ownBlock → (v'.ownBlock = v.ownBlock ∨ v'.ownBlock = some w.heap.size) → wpList P ops Q rest (a.put o.dst v') w') : wpList P ops Q (o :: rest) a w := by
 refine wpList_plain hgd fun K hK' => ?_
 obtain ⟨v', w', hrun, r1, r2, r3⟩ := ob_append (P := P) t tx o.type T i z ht hi hz hzs h1 hby h xv m news hs hf hbase
 unfold Oper.wp
 simp [execOp, ho, resolve, invoke, builtin, hv, hx, hrun, Result.andThen]
 exact hK' _ _ (hK v' w' r1 r2 r3)
theorem src_new {P : Program} {tx e' : TypeId} (hk : P.underlying tx = some (.slice e')) (w : World) (l : List Value) (T : TypeId) (n : Nat) (hn : l.length = n) (h1 : ∀ u ∈ l, u.oneCell' = true) : Src P 1 tx (.slice (some ⟨w.heap.size, 0, none⟩) n n) n l (w.alloc (.cells l.toArray T)) :=
 Src.ofSlice _ hk ⟨w.heap.size, 0, none⟩ n n l (by omega) (fun j u hj => by
  rw [show (⟨w.heap.size, 0, none⟩ : Addr).add j = ⟨w.heap.size, j, none⟩ by unfold Addr.add; split <;> simp_all, World.cell?_alloc_new w l.toArray T j]
  simpa using hj) h1
theorem src_own {P : Program} {tx e' : TypeId} (hk : P.underlying tx = some (.slice e')) {base : Nat} {w : World} {v : Value} {xs : List Value} (h : OB base w v xs) (h1 : ∀ u ∈ xs, u.oneCell' = true) : Src P 1 tx v xs.length xs w := by
 rcases h with ⟨rfl, rfl⟩ | ⟨g, cap, rfl, hb, hg, hl, hm, hc, hf, hx⟩
 ·exact Src.ofNil _ hk 0
 ·exact Src.ofSlice _ hk ⟨g, 0, none⟩ xs.length cap xs (by omega) (fun j u hj => by
   rw [show (⟨g, 0, none⟩ : Addr).add j = ⟨g, j, none⟩ by unfold Addr.add; split <;> simp_all]
   exact hx j u hj) h1
theorem one_ints (k : IntKind) (l : List Int) : ∀ u ∈ l.map (Value.int k), u.oneCell' = true := by
 intro u hu
 obtain ⟨x, _, rfl⟩ := List.mem_map.1 hu
 rfl
def byC (l : List Int) : List Value := l.map (Value.int .u8)
theorem byC_append (a b : List Int) : byC (a ++ b) = byC a ++ byC b := by simp [byC]
theorem byC_length (a : List Int) : (byC a).length = a.length := by simp [byC]
theorem OB.up {base : Nat} {W W' : World} {v : Value} {xs : List Value} (k : OB base W v xs) (h : W.grownBy W' v.ownBlock) (hb : base ≤ W.heap.size) : Below base W W' := by
 refine ⟨h.os, h.tape, h.output, h.size, fun j hj => h.block j (by omega) (fun e => ?_)⟩
 rcases k with ⟨rfl, _⟩ | ⟨g, cap, rfl, hg, _⟩
 ·cases e
 ·have : j = g := by simpa [Value.ownBlock] using e
  omega
def dvB (u : Int) : Nat → Int
 | 0 => u
 | i + 1 => dvB u i / 256
def numB (u : Int) (n : Nat) : List Int := (List.range n).map fun i => dvB u i % 256
theorem numB_succ (u : Int) (n : Nat) : numB u (n + 1) = numB u n ++ [dvB u n % 256] := by simp [numB, List.range_succ]
theorem numB_length (u : Int) (n : Nat) : (numB u n).length = n := by simp [numB]
theorem dvB_in {u : Int} (h0 : 0 ≤ u) (h1 : u ≤ 18446744073709551615) : ∀ i, 0 ≤ dvB u i ∧ dvB u i ≤ 18446744073709551615
 | 0 => ⟨h0, h1⟩
 | i + 1 => by
  have := dvB_in h0 h1 i
  show 0 ≤ dvB u i / 256 ∧ dvB u i / 256 ≤ _
  omega
def tw64 (n : Int) : Int := n % 18446744073709551616
set_option maxRecDepth 100000 in
set_option maxHeartbeats 1000000 in
theorem rwNum_any (n : Int) (w : World) (n0 : -9223372036854775808 ≤ n) (n1 : n ≤ 9223372036854775807) :
  Calls Tryz.prog 24 #[.int .i64 n] w fun e w' => (∃ v, e = .returned v ∧ OB w.heap.size w' v (byC (numB (tw64 n) 8))) ∧ Below w.heap.size w w' := by
 obtain ⟨u, hu⟩ : ∃ u, tw64 n = u := ⟨_, rfl⟩
 have u0 : 0 ≤ u := by rw [← hu]; unfold tw64; omega
 have u1 : u ≤ 18446744073709551615 := by rw [← hu]; unfold tw64; omega
 have D := Lib.hid (dvB_in u0 u1)
 rw [hu]
 have HU := Lib.hid hu
 go_enter Tryz.func24, Tryz.ntmps24
 go_wp2
 go_loopw [3, 4, 5] (fun l d i wr => ∃ j : Nat, j ≤ 8 ∧ i = .int .i64 j ∧ d = .int .u64 (dvB u j) ∧ OB w.heap.size wr l (byC (numB u j)) ∧ Below w.heap.size w wr) (fun _ _ i _ => 8 - (intOf i).toNat)
 case atStart => exact ⟨0, by omega, rfl, by rw [← HU.out]; rfl, OB.nil _ _, Below.refl _ _⟩
 case round =>
  obtain ⟨j, hj, rfl, rfl, hO, hB⟩ := hrel
  have O0 := Lib.hid hO
  have B0 := Lib.hid hB
  clear hO hB
  by_cases c : j < 8
  ·obtain ⟨q, hq⟩ : ∃ q, dvB u j = q := ⟨_, rfl⟩
   have q0 : 0 ≤ q := by rw [← hq]; exact (D.out j).1
   have q1 : q ≤ 18446744073709551615 := by rw [← hq]; exact (D.out j).2
   have E := Lib.hid (show dvB u (j + 1) = q / 256 by rw [← hq]; rfl)
   have N := Lib.hid (show byC (numB u (j + 1)) = byC (numB u j) ++ [.int .u8 (q % 256)] by rw [numB_succ, byC_append, hq]; rfl)
   have sz := B0.out.size
   have O1 := Lib.hid (O0.out.below (k := (Below.refl _ _).alloc (Nat.le_refl _) (.cells #[.int .u8 (q % 256)] 5)))
   rw [hq]
   clear hq
   go_wp2_with (at_builtin; refine wpList_ob rfl (.tmp 12) (.tmp 16) 36 36 rfl 5 _ (.int .u8 0) Tryz.underlying36 rfl rfl rfl rfl (by decide) O1.out rfl _ 1 [.int .u8 (q % 256)] rfl (src_new Tryz.underlying36 wr [.int .u8 (q % 256)] 5 1 rfl (one_ints .u8 [q % 256])) (by rw [byC_length, numB_length]; omega) (by simp; omega) ?_)
   intro v1 w1 o1 g1 p1
   have O2 := Lib.hid (show OB w.heap.size w1 v1 (byC (numB u (j + 1))) by rw [N.out]; exact o1)
   have B2 := Lib.hid ((B0.out.alloc sz (.cells #[.int .u8 (q % 256)] 5)).trans (O1.out.up g1 (by simp; omega)))
   clear o1 g1 p1 O0 O1 B0 N D HU
   go_wp2
   go_roundw
   case rel => exact ⟨j + 1, by omega, by go_num, by rw [E.out], O2.out, B2.out⟩
   case measure => simp [intOf]; omega
  ·have E := Lib.hid (show j = 8 by omega)
   go_wp2
   go_ret
   exact ⟨⟨_, rfl, by have := O0.out; rw [E.out] at this; exact this⟩, B0.out⟩
def u16B (n : Int) : List Int := [tw64 n % 256, tw64 n / 256 % 256]
set_option maxRecDepth 100000 in
theorem rwCount_any (n : Int) (w : World) (n0 : -9223372036854775808 ≤ n) (n1 : n ≤ 9223372036854775807) :
  Calls Tryz.prog 21 #[.int .i64 n] w fun e w' => (∃ v, e = .returned v ∧ OB w.heap.size w' v (byC (u16B n))) ∧ Below w.heap.size w w' := by
 obtain ⟨u, hu⟩ : ∃ u, tw64 n = u := ⟨_, rfl⟩
 have u0 : 0 ≤ u := by rw [← hu]; unfold tw64; omega
 have u1 : u ≤ 18446744073709551615 := by rw [← hu]; unfold tw64; omega
 have hE : IntKind.u64.wrap n = u := by rw [← hu, IntKind.wrap_u64]; rfl
 have E := Lib.hid (show byC (u16B n) = [.int .u8 (u % 256), .int .u8 (u / 256 % 256)] by unfold u16B; rw [hu]; rfl)
 rw [E.out]
 clear hu
 go_enter Tryz.func21, Tryz.ntmps21
 go_wp2
 go_ret
 exact ⟨⟨_, rfl, OB.new w [_, _] [] _ _ rfl (Nat.le_refl _) (by unfold maxLen; simp)⟩, by repeat (first | exact Below.refl _ _ | assumption | refine Below.setCell ?_ (by first | omega | (simp; done) | (simp; omega)) _ | refine Below.alloc ?_ (by first | omega | (simp; done) | (simp; omega)) _ | refine below_drewN ?_ _ | refine Below.drew ?_ | refine Below.trans ?_ (Below.mono (by assumption) (by first | omega | (simp; done) | (simp; omega))))⟩
def flagB (b : Bool) : List Int := [if b then 1 else 0]
set_option maxRecDepth 100000 in
theorem rwFlag_any (b : Bool) (w : World) :
  Calls Tryz.prog 23 #[.bool b] w fun e w' => (∃ v, e = .returned v ∧ OB w.heap.size w' v (byC (flagB b))) ∧ Below w.heap.size w w' := by
 cases b with
 | true =>
  go_enter Tryz.func23, Tryz.ntmps23
  go_wp2
  go_ret
  exact ⟨⟨_, rfl, OB.new w [_] [] _ _ rfl (Nat.le_refl _) (by unfold maxLen; simp)⟩, by repeat (first | exact Below.refl _ _ | assumption | refine Below.setCell ?_ (by first | omega | (simp; done) | (simp; omega)) _ | refine Below.alloc ?_ (by first | omega | (simp; done) | (simp; omega)) _ | refine below_drewN ?_ _ | refine Below.drew ?_ | refine Below.trans ?_ (Below.mono (by assumption) (by first | omega | (simp; done) | (simp; omega))))⟩
 | false =>
  go_enter Tryz.func23, Tryz.ntmps23
  go_wp2
  go_ret
  exact ⟨⟨_, rfl, OB.new w [_] [] _ _ rfl (Nat.le_refl _) (by unfold maxLen; simp)⟩, by repeat (first | exact Below.refl _ _ | assumption | refine Below.setCell ?_ (by first | omega | (simp; done) | (simp; omega)) _ | refine Below.alloc ?_ (by first | omega | (simp; done) | (simp; omega)) _ | refine below_drewN ?_ _ | refine Below.drew ?_ | refine Below.trans ?_ (Below.mono (by assumption) (by first | omega | (simp; done) | (simp; omega))))⟩
def chB (s : ByteArray) (i : Nat) : Int := if h : i < s.size then (s[i].toNat : Int) else 0
def markB (s : ByteArray) (n : Nat) : List Int := (List.range n).map (chB s)
theorem markB_succ (s : ByteArray) (n : Nat) : markB s (n + 1) = markB s n ++ [chB s n] := by simp [markB, List.range_succ]
set_option maxRecDepth 100000 in
theorem markB_length (s : ByteArray) (n : Nat) : (markB s n).length = n := by simp [markB]
set_option maxRecDepth 100000 in
set_option maxHeartbeats 1000000 in
theorem rwMark_any (s : ByteArray) (w : World) :
  Calls Tryz.prog 62 #[.string s] w fun e w' => (∃ v, e = .returned v ∧ OB w.heap.size w' v (byC (markB s 4))) ∧ Below w.heap.size w w' := by
 go_enter Tryz.func62, Tryz.ntmps62
 go_wp2
 go_loopw [3, 4] (fun l i wr => ∃ j : Nat, j ≤ 4 ∧ i = .int .i64 j ∧ OB w.heap.size wr l (byC (markB s j)) ∧ Below w.heap.size w wr) (fun _ i _ => 4 - (intOf i).toNat)
 case atStart => exact ⟨0, by omega, rfl, OB.nil _ _, Below.refl _ _⟩
 case round =>
  obtain ⟨j, hj, rfl, hO, hB⟩ := hrel
  have O0 := Lib.hid hO
  have B0 := Lib.hid hB
  clear hO hB
  by_cases c : j < 4
  ·have N := Lib.hid (show byC (markB s (j + 1)) = byC (markB s j) ++ [.int .u8 (chB s j)] by rw [markB_succ, byC_append]; rfl)
   have sz := B0.out.size
   by_cases d : j < s.size
   ·have C := Lib.hid (show chB s j = (s[j].toNat : Int) by unfold chB; rw [dif_pos d])
    rw [C.out] at N
    have O1 := Lib.hid (O0.out.below (k := (Below.refl _ _).alloc (Nat.le_refl _) (.cells #[.int .u8 ((s[j].toNat : Int))] 5)))
    go_wp2_with (at_builtin; refine wpList_ob rfl (.tmp 17) (.tmp 19) 36 36 rfl 5 _ (.int .u8 0) Tryz.underlying36 rfl rfl rfl rfl (by decide) O1.out rfl _ 1 [.int .u8 ((s[j].toNat : Int))] rfl (src_new Tryz.underlying36 wr [.int .u8 ((s[j].toNat : Int))] 5 1 rfl (one_ints .u8 [(s[j].toNat : Int)])) (by rw [byC_length, markB_length]; omega) (by simp; omega) ?_)
    intro v1 w1 o1 g1 p1
    have O2 := Lib.hid (show OB w.heap.size w1 v1 (byC (markB s (j + 1))) by rw [N.out]; exact o1)
    have B2 := Lib.hid ((B0.out.alloc sz (.cells #[.int .u8 ((s[j].toNat : Int))] 5)).trans (O1.out.up g1 (by simp; omega)))
    clear o1 g1 p1 O0 O1 B0 N
    go_wp2
    go_roundw
    case rel => exact ⟨j + 1, by omega, by go_num, O2.out, B2.out⟩
    case measure => simp [intOf]; omega
   ·have C := Lib.hid (show chB s j = 0 by unfold chB; rw [dif_neg d])
    rw [C.out] at N
    have d' : ¬ (j : Int) < (s.size : Int) := by omega
    have O1 := Lib.hid (O0.out.below (k := (Below.refl _ _).alloc (Nat.le_refl _) (.cells #[.int .u8 (0)] 5)))
    go_wp2_with (at_builtin; refine wpList_ob rfl (.tmp 17) (.tmp 19) 36 36 rfl 5 _ (.int .u8 0) Tryz.underlying36 rfl rfl rfl rfl (by decide) O1.out rfl _ 1 [.int .u8 (0)] rfl (src_new Tryz.underlying36 wr [.int .u8 (0)] 5 1 rfl (one_ints .u8 [0])) (by rw [byC_length, markB_length]; omega) (by simp; omega) ?_)
    intro v1 w1 o1 g1 p1
    have O2 := Lib.hid (show OB w.heap.size w1 v1 (byC (markB s (j + 1))) by rw [N.out]; exact o1)
    have B2 := Lib.hid ((B0.out.alloc sz (.cells #[.int .u8 (0)] 5)).trans (O1.out.up g1 (by simp; omega)))
    clear o1 g1 p1 O0 O1 B0 N
    go_wp2
    go_roundw
    case rel => exact ⟨j + 1, by omega, by go_num, O2.out, B2.out⟩
    case measure => simp [intOf]; omega
  ·have E := Lib.hid (show j = 4 by omega)
   go_wp2
   go_ret
   exact ⟨⟨_, rfl, by have := O0.out; rw [E.out] at this; exact this⟩, B0.out⟩
def Lie (w : World) (a : Option Addr) (n : Nat) (v : Nat → Int) : Prop := 0 < n → ∃ b off, a = some ⟨b, off, none⟩ ∧ b < w.heap.size ∧ ∀ i, i < n → w.cell? ⟨b, off + i, none⟩ = some (.int .i64 (v i))
theorem Lie.one {w : World} {b : Nat} {x : Int} (h : w.cell? ⟨b, 0, none⟩ = some (.int .i64 x)) (hb : b < w.heap.size) : Lie w (some ⟨b, 0, none⟩) 1 (fun _ => x) :=
 fun _ => ⟨b, 0, rfl, hb, fun i hi => by rw [show 0 + i = 0 by omega]; exact h⟩
theorem Lie.two {w : World} {b : Nat} {x y : Int} (h : w.cell? ⟨b, 0, none⟩ = some (.int .i64 x)) (k : w.cell? ⟨b, 1, none⟩ = some (.int .i64 y)) (hb : b < w.heap.size) : Lie w (some ⟨b, 0, none⟩) 2 (fun i => if i = 0 then x else y) :=
 fun _ => ⟨b, 0, rfl, hb, fun i hi => by
  rcases (show i = 0 ∨ i = 1 by omega) with e | e
  ·subst e; exact h
  ·subst e; exact k⟩
def allW (v : Nat → Int) (n : Nat) (l h : Int) : Prop := ∀ i, i < n → l ≤ v i ∧ v i ≤ h
instance (v : Nat → Int) (n : Nat) (l h : Int) : Decidable (allW v n l h) := by unfold allW; exact inferInstance
theorem allW_one (x l h : Int) : decide (allW (fun _ => x) 1 l h) = decide (l ≤ x ∧ x ≤ h) := by
 rw [decide_eq_decide]
 exact ⟨fun k => k 0 (by omega), fun k i _ => k⟩
theorem allW_two (x y l h : Int) : decide (allW (fun i => if i = 0 then x else y) 2 l h) = decide ((l ≤ x ∧ x ≤ h) ∧ l ≤ y ∧ y ≤ h) := by
 rw [decide_eq_decide]
 refine ⟨fun k => ⟨k 0 (by omega), k 1 (by omega)⟩, fun k i hi => ?_⟩
 rcases (show i = 0 ∨ i = 1 by omega) with e | e
 ·subst e; exact k.1
 ·subst e; exact k.2
theorem fall_next {P : Nat → Prop} {j : Nat} (h : ∀ k, k < j → P k) (p : P j) : ∀ k, k < j + 1 → P k := fun k hk => by
 rcases Nat.lt_or_ge k j with l | l
 ·exact h k l
 ·have e : k = j := by omega
  subst e; exact p
set_option maxHeartbeats 2000000 in
theorem fWithinI_any (a : Option Addr) (n c : Nat) (v : Nat → Int) (l h : Int) (w : World) (hmax : n ≤ 100000) (N : Lie w a n v) :
  Calls Tryz.prog 159 #[.int .i64 l, .int .i64 h, .slice a n c] w fun e w' => e = .returned (.bool (decide (allW v n l h))) ∧ w' = w := by
 obtain ⟨R, hR⟩ : ∃ R, decide (allW v n l h) = R := ⟨_, rfl⟩
 rw [hR]
 have NF := Lib.hid (fun (k : ¬ allW v n l h) => (show false = R by rw [← hR]; exact (decide_eq_false k).symm))
 have NY := Lib.hid (fun (k : allW v n l h) => (show true = R by rw [← hR]; exact (decide_eq_true k).symm))
 have HN := Lib.hid N
 clear hR N
 go_enter Tryz.func159, Tryz.ntmps159
 go_wp2
 go_loopw [11] (fun i wr => ∃ j : Nat, j ≤ n ∧ i = .int .i64 j ∧ Hid (∀ k, k < j → l ≤ v k ∧ v k ≤ h) ∧ wr = w) (fun i _ => n - (intOf i).toNat)
 case atStart => exact ⟨0, by omega, rfl, Lib.hid (fun k h => absurd h (by omega)), rfl⟩
 case round =>
  obtain ⟨j, hj, rfl, I, hw⟩ := hrel
  subst hw
  by_cases hlt : j < n
  ·obtain ⟨b, off, ha, hb, hcell⟩ := HN.out (by omega)
   subst ha
   have c0 := hcell j hlt
   have z0 : (0 : Int) ≤ (j : Int) := by omega
   have z1 : (j : Int) < (n : Int) := by omega
   clear hcell hb
   by_cases h1 : v j < l
   ·have E := Lib.hid (NF.out (fun k => by have := (k j hlt).1; omega))
    clear I NF NY
    go_wp2
    go_ret
    exact ⟨by rw [← E.out]; rfl, rfl⟩
   by_cases h2 : h < v j
   ·have E := Lib.hid (NF.out (fun k => by have := (k j hlt).2; omega))
    clear I NF NY
    go_wp2
    go_ret
    exact ⟨by rw [← E.out]; rfl, rfl⟩
   have I2 := Lib.hid (fall_next (P := fun k => l ≤ v k ∧ v k ≤ h) I.out ⟨by omega, by omega⟩)
   clear I NF NY
   go_wp2
   go_roundw
   case rel => exact ⟨j + 1, by omega, by go_num, I2, trivial⟩
   case measure => simp [intOf]; omega
  ·have E := Lib.hid (NY.out (fun k hk => I.out k (by omega)))
   have z1 : ¬ (j : Int) < (n : Int) := by omega
   clear I NF NY
   go_wp2
   go_ret
   exact ⟨by rw [← E.out]; rfl, rfl⟩
set_option maxHeartbeats 2000000 in
theorem fWithinF_any (a : Option Addr) (n c : Nat) (v : Nat → Int) (l h : Int) (w : World) (hmax : n ≤ 100000) (N : Lie w a n v) :
  Calls Tryz.prog 160 #[.int .i64 l, .int .i64 h, .slice a n c] w fun e w' => e = .returned (.bool (decide (allW v n l h))) ∧ w' = w := by
 obtain ⟨R, hR⟩ : ∃ R, decide (allW v n l h) = R := ⟨_, rfl⟩
 rw [hR]
 have NF := Lib.hid (fun (k : ¬ allW v n l h) => (show false = R by rw [← hR]; exact (decide_eq_false k).symm))
 have NY := Lib.hid (fun (k : allW v n l h) => (show true = R by rw [← hR]; exact (decide_eq_true k).symm))
 have HN := Lib.hid N
 clear hR N
 go_enter Tryz.func160, Tryz.ntmps160
 go_wp2
 go_loopw [11] (fun i wr => ∃ j : Nat, j ≤ n ∧ i = .int .i64 j ∧ Hid (∀ k, k < j → l ≤ v k ∧ v k ≤ h) ∧ wr = w) (fun i _ => n - (intOf i).toNat)
 case atStart => exact ⟨0, by omega, rfl, Lib.hid (fun k h => absurd h (by omega)), rfl⟩
 case round =>
  obtain ⟨j, hj, rfl, I, hw⟩ := hrel
  subst hw
  by_cases hlt : j < n
  ·obtain ⟨b, off, ha, hb, hcell⟩ := HN.out (by omega)
   subst ha
   have c0 := hcell j hlt
   have z0 : (0 : Int) ≤ (j : Int) := by omega
   have z1 : (j : Int) < (n : Int) := by omega
   clear hcell hb
   by_cases h1 : v j < l
   ·have E := Lib.hid (NF.out (fun k => by have := (k j hlt).1; omega))
    clear I NF NY
    go_wp2
    go_ret
    exact ⟨by rw [← E.out]; rfl, rfl⟩
   by_cases h2 : h < v j
   ·have E := Lib.hid (NF.out (fun k => by have := (k j hlt).2; omega))
    clear I NF NY
    go_wp2
    go_ret
    exact ⟨by rw [← E.out]; rfl, rfl⟩
   have I2 := Lib.hid (fall_next (P := fun k => l ≤ v k ∧ v k ≤ h) I.out ⟨by omega, by omega⟩)
   clear I NF NY
   go_wp2
   go_roundw
   case rel => exact ⟨j + 1, by omega, by go_num, I2, trivial⟩
   case measure => simp [intOf]; omega
  ·have E := Lib.hid (NY.out (fun k hk => I.out k (by omega)))
   have z1 : ¬ (j : Int) < (n : Int) := by omega
   clear I NF NY
   go_wp2
   go_ret
   exact ⟨by rw [← E.out]; rfl, rfl⟩
def OwnN (base : Nat) (W : World) (u : Value) (n : Nat) (v : Nat → Int) : Prop := ∃ g cap, u = .slice (some ⟨g, 0, none⟩) n cap ∧ base ≤ g ∧ g < W.heap.size ∧ ∀ i, i < n → W.cell? ⟨g, i, none⟩ = some (.int .i64 (v i))
def vals (v : Nat → Int) (n : Nat) : List Value := (List.range n).map (fun i => Value.int .i64 (v i))
theorem vals_len (v : Nat → Int) (n : Nat) : (vals v n).length = n := by simp [vals]
theorem vals_at {v : Nat → Int} {n i : Nat} (h : i < n) : (vals v n)[i]? = some (.int .i64 (v i)) := by
 unfold vals; rw [List.getElem?_map, List.getElem?_range h]; rfl
theorem OwnN.of {base : Nat} {W : World} {u : Value} {n : Nat} {v : Nat → Int} (h : OB base W u (vals v n)) (hn : 0 < n) : OwnN base W u n v := by
 rcases h with ⟨_, h0⟩ | ⟨g, cap, rfl, hb, hg, hl, hm, hc, hf, hx⟩
 ·have := congrArg List.length h0
  rw [vals_len] at this
  exact absurd this (by simp; omega)
 ·rw [vals_len] at *
  exact ⟨g, cap, rfl, hb, hg, fun i hi => hx i _ (vals_at hi)⟩
theorem vals_one (v : Nat → Int) (n : Nat) : ∀ u ∈ vals v n, u.oneCell' = true := by
 intro u hu
 obtain ⟨x, _, rfl⟩ := List.mem_map.1 hu
 rfl
theorem src_lie {P : Program} {tx e' : TypeId} (hk : P.underlying tx = some (.slice e')) {w : World} {b off n c : Nat} {v : Nat → Int} (h : ∀ i, i < n → w.cell? ⟨b, off + i, none⟩ = some (.int .i64 (v i))) : Src P 1 tx (.slice (some ⟨b, off, none⟩) n c) n (vals v n) w :=
 Src.ofSlice _ hk ⟨b, off, none⟩ n c (vals v n) (by rw [vals_len]; omega) (fun j u hj => by
  have hjn : j < n := by
   rcases Nat.lt_or_ge j n with l | l
   ·exact l
   ·rw [List.getElem?_eq_none (by rw [vals_len]; exact l)] at hj; cases hj
  rw [vals_at hjn] at hj
  cases hj
  rw [show (⟨b, off, none⟩ : Addr).add j = ⟨b, off + j, none⟩ by unfold Addr.add; split <;> simp_all]
  exact h j hjn) (vals_one v n)
set_option maxRecDepth 100000 in
set_option maxHeartbeats 2000000 in
theorem fCloneF_any (b off n c : Nat) (v : Nat → Int) (w : World) (hmax : n ≤ 100000) (h0 : 0 < n) (hb : b < w.heap.size) (hcell : ∀ i, i < n → w.cell? ⟨b, off + i, none⟩ = some (.int .i64 (v i))) :
  Calls Tryz.prog 152 #[.slice (some ⟨b, off, none⟩) n c] w fun e w' => ∃ u, e = .returned u ∧ OwnN w.heap.size w' u n v ∧ Below w.heap.size w w' := by
 have HC := Lib.hid hcell
 clear hcell
 have q22 : ∀ (w : World) (a : Option Addr) (n c n' c' : Nat), (binOp .eql 25 (.slice a n c) (.slice none n' c')).run Tryz.prog w = .ok (.bool a.isNone) w := fun w a n c n' c' => Lib.run_eql_slice_nil w _ _ a n c n' c' Tryz.underlying25
 go_enter Tryz.func152, Tryz.ntmps152
 go_wp2_with (at_builtin; refine wpList_ob rfl (.tmp 5) (.tmp 6) 25 25 rfl 22 _ (.int .i64 0) Tryz.underlying25 rfl rfl rfl rfl (by decide) (OB.new w [] [] #[] _ rfl (Nat.le_refl _) (by unfold maxLen; simp)) rfl _ n (vals v n) rfl (src_lie Tryz.underlying25 (fun i hi => ((Below.refl w.heap.size w).alloc (Nat.le_refl _) _).cell (p := ⟨b, off + i, none⟩) hb |>.trans (HC.out i hi))) (by simp; omega) (by simp) ?_)
 intro v1 w1 o1 g1 p1
 have O1 := Lib.hid (OwnN.of o1 h0)
 have B1 := Lib.hid ((((Below.refl w.heap.size w).alloc (Nat.le_refl _) _).trans ((OB.new w [] [] #[] _ rfl (Nat.le_refl _) (by unfold maxLen; simp)).up g1 (by simp))))
 clear o1 g1 p1
 go_wp2
 go_ret
 exact ⟨_, rfl, O1.out, B1.out⟩
set_option maxRecDepth 100000 in
set_option maxHeartbeats 2000000 in
theorem fCloneI_any (b off n c : Nat) (v : Nat → Int) (w : World) (hmax : n ≤ 100000) (h0 : 0 < n) (hb : b < w.heap.size) (hcell : ∀ i, i < n → w.cell? ⟨b, off + i, none⟩ = some (.int .i64 (v i))) :
  Calls Tryz.prog 153 #[.slice (some ⟨b, off, none⟩) n c] w fun e w' => ∃ u, e = .returned u ∧ OwnN w.heap.size w' u n v ∧ Below w.heap.size w w' := by
 have HC := Lib.hid hcell
 clear hcell
 have q22 : ∀ (w : World) (a : Option Addr) (n c n' c' : Nat), (binOp .eql 26 (.slice a n c) (.slice none n' c')).run Tryz.prog w = .ok (.bool a.isNone) w := fun w a n c n' c' => Lib.run_eql_slice_nil w _ _ a n c n' c' Tryz.underlying26
 go_enter Tryz.func153, Tryz.ntmps153
 go_wp2_with (at_builtin; refine wpList_ob rfl (.tmp 5) (.tmp 6) 26 26 rfl 3 _ (.int .i64 0) Tryz.underlying26 rfl rfl rfl rfl (by decide) (OB.new w [] [] #[] _ rfl (Nat.le_refl _) (by unfold maxLen; simp)) rfl _ n (vals v n) rfl (src_lie Tryz.underlying26 (fun i hi => ((Below.refl w.heap.size w).alloc (Nat.le_refl _) _).cell (p := ⟨b, off + i, none⟩) hb |>.trans (HC.out i hi))) (by simp; omega) (by simp) ?_)
 intro v1 w1 o1 g1 p1
 have O1 := Lib.hid (OwnN.of o1 h0)
 have B1 := Lib.hid ((((Below.refl w.heap.size w).alloc (Nat.le_refl _) _).trans ((OB.new w [] [] #[] _ rfl (Nat.le_refl _) (by unfold maxLen; simp)).up g1 (by simp))))
 clear o1 g1 p1
 go_wp2
 go_ret
 exact ⟨_, rfl, O1.out, B1.out⟩
end Go.Proofs.YtmdjnamkbekjkaaGreatDoor
