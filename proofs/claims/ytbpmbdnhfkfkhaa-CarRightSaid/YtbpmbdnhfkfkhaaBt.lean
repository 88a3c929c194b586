/- A list of the call's own, cell by cell; append to it of whatever yields elements of one cell (a slice, a string's bytes, nothing). -/
import Derived.Test.YtbpmbdnhfkfkhaaProg
import Derived.WalkKit
import Derived.Deep.Upon
import Derived.Deep.AppendLies
import Derived.Below
import Derived.Lib.Hide
import Derived.ProofKit
import Derived.Lib.SliceRun
namespace Go.Proofs.Ytbpmbdnhfkfkhaa
open Go.RowKit
set_option linter.unusedVariables false

/-- a slice of the call's own, elements of one cell -/
def OB (base : Nat) (W : World) (v : Value) (xs : List Value) : Prop :=
  (v = .slice none 0 0 ∧ xs = []) ∨
  ∃ g cap, v = .slice (some ⟨g, 0, none⟩) xs.length cap ∧ base ≤ g ∧ g < W.heap.size ∧ xs.length ≤ cap ∧ cap ≤ maxLen ∧ (∀ j, j < cap → (W.cell? ⟨g, j, none⟩).isSome = true) ∧ (∀ j, W.frozen? ⟨g, j, none⟩ = false) ∧ (∀ j u, xs[j]? = some u → W.cell? ⟨g, j, none⟩ = some u)
theorem grown_setCells (g : Nat) : ∀ (vs : List Value) (o : Nat) (w : World), w.grownBy (w.setCells g o vs) (some g)
  | [], _, w => World.grownBy.refl w _
  | v :: r, o, w => by
    have h1 : w.grownBy (w.setCell ⟨g, o, none⟩ v) (some g) := ⟨rfl, rfl, rfl, by simp [World.setCell], fun k hk hne => by
      have : k ≠ g := fun e => hne (by rw [e])
      simp [World.setCell, Array.getElem?_modify, this.symm]⟩
    exact h1.trans (grown_setCells g r (o + 1) _)
theorem size_setC (g : Nat) : ∀ (vs : List Value) (o : Nat) (w : World), (w.setCells g o vs).heap.size = w.heap.size
  | [], _, _ => rfl
  | v :: r, o, w => by rw [World.setCells, size_setC g r (o + 1)]; simp [World.setCell]
theorem OB.grown {base : Nat} {W W' : World} {v : Value} {xs : List Value} {row : Option Nat} (h : OB base W v xs) (k : W.grownBy W' row) (hne : v.ownBlock = row → row = none) : OB base W' v xs := by
  rcases h with h | ⟨g, cap, rfl, hb, hg, hl, hm, hc, hf, hx⟩
  · exact .inl h
  · have ne : some g ≠ row := fun e => by have := hne (by rw [← e]; rfl); rw [this] at e; cases e
    exact .inr ⟨g, cap, rfl, hb, Nat.lt_of_lt_of_le hg k.size, hl, hm, fun j hj => by rw [k.cell_far ⟨g, j, none⟩ hg ne]; exact hc j hj, fun j => by rw [k.frozen_far ⟨g, j, none⟩ hg ne]; exact hf j, fun j u hj => by rw [k.cell_far ⟨g, j, none⟩ hg ne]; exact hx j u hj⟩
theorem OB.below {base : Nat} {W W' : World} {v : Value} {xs : List Value} (h : OB base W v xs) (k : Below W.heap.size W W') : OB base W' v xs :=
  h.grown (row := none) ⟨k.os, k.tape, k.output, k.size, fun i hi _ => k.block i hi⟩ (fun _ => rfl)
theorem OB.mono {base base' : Nat} {W : World} {v : Value} {xs : List Value} (h : OB base W v xs) (k : base' ≤ base) : OB base' W v xs := by
  rcases h with h | ⟨g, cap, hv, hb, hr⟩
  · exact .inl h
  · exact .inr ⟨g, cap, hv, Nat.le_trans k hb, hr⟩
theorem OB.nil (base : Nat) (W : World) : OB base W (.slice none 0 0) [] := .inl ⟨rfl, rfl⟩
theorem OB.form {base : Nat} {W : World} {v : Value} {xs : List Value} (h : OB base W v xs) : ∃ a c, v = .slice a xs.length c := by
  rcases h with ⟨rfl, rfl⟩ | ⟨g, cap, rfl, _⟩
  · exact ⟨none, 0, rfl⟩
  · exact ⟨_, cap, rfl⟩
theorem OB.new {base : Nat} (w : World) (xs rest : List Value) (C : Array Value) (t : TypeId) (hC : C.toList = xs ++ rest) (hb : base ≤ w.heap.size) (hm : C.size ≤ maxLen) : OB base (w.alloc (.cells C t)) (.slice (some ⟨w.heap.size, 0, none⟩) xs.length C.size) xs := by
  have hs : C.size = xs.length + rest.length := by rw [← Array.length_toList, hC, List.length_append]
  refine .inr ⟨w.heap.size, C.size, rfl, hb, by simp, by omega, hm, fun j hj => ?_, fun j => by go_simp, fun j u hj => ?_⟩
  · rw [World.cell?_alloc_new w C t j, Array.getElem?_eq_getElem hj]; rfl
  · rw [World.cell?_alloc_new w C t j, ← Array.getElem?_toList, hC, List.getElem?_append_left (by rcases Nat.lt_or_ge j xs.length with l | l; exact l; rw [List.getElem?_eq_none l] at hj; cases hj)]
    exact hj
/-- append of whatever yields elements -/
theorem ob_append {P : Program} {w : World} {base : Nat} {v : Value} {xs : List Value} (t tx ty T : TypeId) (i : TypeInfo) (z : Value) (ht : P.underlying t = some (.slice T)) (hi : P.info? T = some i) (hz : i.zero = some z)
    (hzs : z.cells.size = 1) (h1 : i.size = 1) (hby : i.bytes ≤ 8) (h : OB base w v xs) (x : Value) (m : Nat) (news : List Value) (hs : Src P 1 tx x m news w) (hf : xs.length + m ≤ 1000000000) (hbase : base ≤ w.heap.size) :
    ∃ v' w', (Builtin.append_ #[t, tx] ty #[v, x]).run P w = .ok v' w' ∧ OB base w' v' (xs ++ news) ∧ w.grownBy w' v.ownBlock ∧ (v'.ownBlock = v.ownBlock ∨ v'.ownBlock = some w.heap.size) := by
  have hs' : Src P i.size tx x m news w := by rw [h1]; exact hs
  have hn : news.length = m := by have := hs.newsLen; omega
  by_cases m0 : m = 0
  · subst m0
    have : news = [] := List.eq_nil_of_length_eq_zero hn
    subst this
    rw [List.append_nil]
    rcases h with ⟨rfl, rfl⟩ | ⟨g, cap, rfl, hr⟩
    · exact ⟨_, _, run_append_nothing w t tx ty T i ht hi none 0 0 (Nat.le_refl _) x hs', OB.nil base w, World.grownBy.refl w _, .inl rfl⟩
    · exact ⟨_, _, run_append_nothing w t tx ty T i ht hi _ _ cap hr.2.2.1 x hs', .inr ⟨g, cap, rfl, hr⟩, World.grownBy.refl w _, .inl rfl⟩
  have grow : ∀ (a : Option Addr) (cap : Nat), cap < xs.length + m → (Builtin.firstCells i.size xs.length (.slice a xs.length cap)).run P w.drew = .ok xs.toArray w.drew → v = .slice a xs.length cap →
      ∃ v' w', (Builtin.append_ #[t, tx] ty #[v, x]).run P w = .ok v' w' ∧ OB base w' v' (xs ++ news) ∧ w.grownBy w' v.ownBlock ∧ (v'.ownBlock = v.ownBlock ∨ v'.ownBlock = some w.heap.size) := by
    intro a cap hc hold e
    have hr := run_append_grow_src (P := P) w t tx ty T i z ht hi hz a xs.length cap xs hold x m news hs' hc (by omega) (growslice_fits hc (by
      have := Nat.mul_le_mul hf hby; omega))
    have hge := grownCap_ge w (xs.length + m) cap T
    have hle := grownCap_le_maxLen w (xs.length + m) cap T (by unfold maxLen; omega)
    have hsz : ((xs ++ news).toArray ++ Builtin.zeroCells z.cells (grownCap w (xs.length + m) cap T - (xs.length + m))).size = grownCap w (xs.length + m) cap T := by
      simp only [Array.size_append, List.size_toArray, List.length_append, size_zeroCells, hzs, hn]; omega
    have hob := OB.new (base := base) w.drew (xs ++ news) (Builtin.zeroCells z.cells (grownCap w (xs.length + m) cap T - (xs.length + m))).toList ((xs ++ news).toArray ++ Builtin.zeroCells z.cells (grownCap w (xs.length + m) cap T - (xs.length + m))) T (by simp) hbase (by rw [hsz]; exact hle)
    rw [hsz] at hob
    rw [List.length_append, hn] at hob
    rw [e]
    exact ⟨_, _, hr, hob, ⟨rfl, rfl, rfl, by simp, fun k hk _ => Below.heap_alloc w.drew _ k hk⟩, .inr rfl⟩
  rcases h with ⟨rfl, rfl⟩ | ⟨g, cap, rfl, hb, hg, hl, hm, hc, hfz, hx⟩
  · exact grow none 0 (by simp; omega) (run_firstCells_none w.drew i.size 0 0 0) rfl
  · by_cases room : xs.length + m ≤ cap
    · have hr := run_append_room_src (P := P) w t tx ty T i ht hi g 0 xs.length cap x m news hs' room (fun j hj => by rw [h1, Nat.mul_one, Nat.zero_add]; exact hc _ (by omega)) (fun j hj => hfz _)
      rw [h1, Nat.mul_one, Nat.zero_add] at hr
      refine ⟨_, _, hr, .inr ⟨g, cap, by rw [List.length_append, hn], hb, by rw [size_setC]; exact hg, by rw [List.length_append, hn]; exact room, hm, fun j hj => ?_, fun j => (World.frozen?_setCells g news xs.length w _).trans (hfz j), fun j u hj => ?_⟩, grown_setCells g news _ w, .inl rfl⟩
      · by_cases c : xs.length ≤ j ∧ j < xs.length + m
        · have := World.cell?_setCells_in g news xs.length w (fun k hk => hc _ (by omega)) (j - xs.length) (by omega)
          rw [show xs.length + (j - xs.length) = j by omega] at this
          rw [this]; rfl
        · rw [World.cell?_setCells_out g news xs.length w _ (fun _ _ => by show j < _ ∨ _ ≤ j; omega)]
          exact hc j hj
      · rcases Nat.lt_or_ge j xs.length with l | l
        · rw [World.cell?_setCells_out g news xs.length w _ (fun _ _ => by show j < _ ∨ _ ≤ j; omega)]
          rw [List.getElem?_append_left l] at hj
          exact hx j u hj
        · rw [List.getElem?_append_right l] at hj
          have hjl : j - xs.length < news.length := by
            rcases Nat.lt_or_ge (j - xs.length) news.length with k | k
            · exact k
            · rw [List.getElem?_eq_none k] at hj; cases hj
          have := World.cell?_setCells_in g news xs.length w (fun k hk => hc _ (by omega)) (j - xs.length) hjl
          rw [show xs.length + (j - xs.length) = j by omega] at this
          rw [this, ← hj, List.getElem?_eq_getElem hjl]
    · exact grow _ cap (by omega) (run_firstCells_some w.drew i.size xs.length ⟨g, 0, none⟩ xs.length cap xs (by rw [h1, Nat.mul_one]) (fun j u hj => by rw [show (⟨g, 0, none⟩ : Addr).add j = ⟨g, j, none⟩ by unfold Addr.add; split <;> simp_all]; exact hx j u hj)) rfl
end Go.Proofs.Ytbpmbdnhfkfkhaa
namespace Go.Proofs.Ytbpmbdnhfkfkhaa
open Go.RowKit
set_option linter.unusedVariables false
set_option linter.unusedSimpArgs false

/-- append at an operation of a plain region -/
theorem wpList_ob {P : Program} {ops : Array Oper} {rest : List Oper} {o : Oper} {a : Act} {Q : Exit → Act → World → Prop} {w : World} (hgd : o.guard = none) (s x : Operand) (t tx : TypeId)
    (ho : o.op = .call { callee := .builtin .append, args := #[s, x], argTypes := #[t, tx] })
    {base : Nat} {v : Value} {xs : List Value} (T : TypeId) (i : TypeInfo) (z : Value) (ht : P.underlying t = some (.slice T)) (hi : P.info? T = some i) (hz : i.zero = some z)
    (hzs : z.cells.size = 1) (h1 : i.size = 1) (hby : i.bytes ≤ 8) (h : OB base w v xs) (hv : a.eval s = v) (xv : Value) (m : Nat) (news : List Value) (hx : a.eval x = xv) (hs : Src P 1 tx xv m news w) (hf : xs.length + m ≤ 1000000000) (hbase : base ≤ w.heap.size)
    (hK : ∀ v' w', OB base w' v' (xs ++ news) → w.grownBy w' v.ownBlock → (v'.ownBlock = v.ownBlock ∨ v'.ownBlock = some w.heap.size) → wpList P ops Q rest (a.put o.dst v') w') : wpList P ops Q (o :: rest) a w := by
  refine wpList_plain hgd fun K hK' => ?_
  obtain ⟨v', w', hrun, r1, r2, r3⟩ := ob_append (P := P) t tx o.type T i z ht hi hz hzs h1 hby h xv m news hs hf hbase
  unfold Oper.wp
  simp [execOp, ho, resolve, invoke, builtin, hv, hx, hrun, Result.andThen]
  exact hK' _ _ (hK v' w' r1 r2 r3)
/-- a block that was just made yields its elements -/
theorem src_new {P : Program} {tx e' : TypeId} (hk : P.underlying tx = some (.slice e')) (w : World) (l : List Value) (T : TypeId) (n : Nat) (hn : l.length = n) (h1 : ∀ u ∈ l, u.oneCell' = true) : Src P 1 tx (.slice (some ⟨w.heap.size, 0, none⟩) n n) n l (w.alloc (.cells l.toArray T)) :=
  Src.ofSlice _ hk ⟨w.heap.size, 0, none⟩ n n l (by omega) (fun j u hj => by
    rw [show (⟨w.heap.size, 0, none⟩ : Addr).add j = ⟨w.heap.size, j, none⟩ by unfold Addr.add; split <;> simp_all, World.cell?_alloc_new w l.toArray T j]
    simpa using hj) h1
/-- a list of the call's own yields its elements -/
theorem src_own {P : Program} {tx e' : TypeId} (hk : P.underlying tx = some (.slice e')) {base : Nat} {w : World} {v : Value} {xs : List Value} (h : OB base w v xs) (h1 : ∀ u ∈ xs, u.oneCell' = true) : Src P 1 tx v xs.length xs w := by
  rcases h with ⟨rfl, rfl⟩ | ⟨g, cap, rfl, hb, hg, hl, hm, hc, hf, hx⟩
  · exact Src.ofNil _ hk 0
  · exact Src.ofSlice _ hk ⟨g, 0, none⟩ xs.length cap xs (by omega) (fun j u hj => by
      rw [show (⟨g, 0, none⟩ : Addr).add j = ⟨g, j, none⟩ by unfold Addr.add; split <;> simp_all]
      exact hx j u hj) h1
theorem one_ints (k : IntKind) (l : List Int) : ∀ u ∈ l.map (Value.int k), u.oneCell' = true := by
  intro u hu
  obtain ⟨x, _, rfl⟩ := List.mem_map.1 hu
  rfl
def byC (l : List Int) : List Value := l.map (Value.int .u8)
theorem byC_append (a b : List Int) : byC (a ++ b) = byC a ++ byC b := by simp [byC]
theorem byC_length (a : List Int) : (byC a).length = a.length := by simp [byC]
theorem OB.up {base : Nat} {W W' : World} {v : Value} {xs : List Value} (k : OB base W v xs) (h : W.grownBy W' v.ownBlock) (hb : base ≤ W.heap.size) : Below base W W' := by
  refine ⟨h.os, h.tape, h.output, h.size, fun j hj => h.block j (by omega) (fun e => ?_)⟩
  rcases k with ⟨rfl, _⟩ | ⟨g, cap, rfl, hg, _⟩
  · cases e
  · have : j = g := by simpa [Value.ownBlock] using e
    omega
/-- a number's digits of 256 -/
def dvB (u : Int) : Nat → Int
  | 0 => u
  | i + 1 => dvB u i / 256
def numB (u : Int) (n : Nat) : List Int := (List.range n).map fun i => dvB u i % 256
theorem numB_succ (u : Int) (n : Nat) : numB u (n + 1) = numB u n ++ [dvB u n % 256] := by simp [numB, List.range_succ]
theorem numB_length (u : Int) (n : Nat) : (numB u n).length = n := by simp [numB]
theorem dvB_in {u : Int} (h0 : 0 ≤ u) (h1 : u ≤ 18446744073709551615) : ∀ i, 0 ≤ dvB u i ∧ dvB u i ≤ 18446744073709551615
  | 0 => ⟨h0, h1⟩
  | i + 1 => by
    have := dvB_in h0 h1 i
    show 0 ≤ dvB u i / 256 ∧ dvB u i / 256 ≤ _
    omega
def tw64 (n : Int) : Int := n % 18446744073709551616
def u16B (n : Int) : List Int := [tw64 n % 256, tw64 n / 256 % 256]
def flagB (b : Bool) : List Int := [if b then 1 else 0]
/-- the bytes of a mark: zeros in place of missing ones -/
def chB (s : ByteArray) (i : Nat) : Int := if h : i < s.size then (s[i].toNat : Int) else 0
def markB (s : ByteArray) (n : Nat) : List Int := (List.range n).map (chB s)
theorem markB_succ (s : ByteArray) (n : Nat) : markB s (n + 1) = markB s n ++ [chB s n] := by simp [markB, List.range_succ]
set_option maxRecDepth 100000 in
theorem markB_length (s : ByteArray) (n : Nat) : (markB s n).length = n := by simp [markB]
end Go.Proofs.Ytbpmbdnhfkfkhaa
namespace Go.Proofs.Ytbpmbdnhfkfkhaa
open Go.RowKit
set_option linter.unusedVariables false
set_option linter.unusedSimpArgs false

/-- n numbers lie at a slice's address -/
def Lie (w : World) (a : Option Addr) (n : Nat) (v : Nat → Int) : Prop := 0 < n → ∃ b off, a = some ⟨b, off, none⟩ ∧ b < w.heap.size ∧ ∀ i, i < n → w.cell? ⟨b, off + i, none⟩ = some (.int .i64 (v i))
theorem Lie.one {w : World} {b : Nat} {x : Int} (h : w.cell? ⟨b, 0, none⟩ = some (.int .i64 x)) (hb : b < w.heap.size) : Lie w (some ⟨b, 0, none⟩) 1 (fun _ => x) :=
  fun _ => ⟨b, 0, rfl, hb, fun i hi => by rw [show 0 + i = 0 by omega]; exact h⟩
theorem Lie.two {w : World} {b : Nat} {x y : Int} (h : w.cell? ⟨b, 0, none⟩ = some (.int .i64 x)) (k : w.cell? ⟨b, 1, none⟩ = some (.int .i64 y)) (hb : b < w.heap.size) : Lie w (some ⟨b, 0, none⟩) 2 (fun i => if i = 0 then x else y) :=
  fun _ => ⟨b, 0, rfl, hb, fun i hi => by
    rcases (show i = 0 ∨ i = 1 by omega) with e | e
    · subst e; exact h
    · subst e; exact k⟩
def allW (v : Nat → Int) (n : Nat) (l h : Int) : Prop := ∀ i, i < n → l ≤ v i ∧ v i ≤ h
instance (v : Nat → Int) (n : Nat) (l h : Int) : Decidable (allW v n l h) := by unfold allW; exact inferInstance
theorem allW_one (x l h : Int) : decide (allW (fun _ => x) 1 l h) = decide (l ≤ x ∧ x ≤ h) := by
  rw [decide_eq_decide]
  exact ⟨fun k => k 0 (by omega), fun k i _ => k⟩
theorem allW_two (x y l h : Int) : decide (allW (fun i => if i = 0 then x else y) 2 l h) = decide ((l ≤ x ∧ x ≤ h) ∧ l ≤ y ∧ y ≤ h) := by
  rw [decide_eq_decide]
  refine ⟨fun k => ⟨k 0 (by omega), k 1 (by omega)⟩, fun k i hi => ?_⟩
  rcases (show i = 0 ∨ i = 1 by omega) with e | e
  · subst e; exact k.1
  · subst e; exact k.2
theorem fall_next {P : Nat → Prop} {j : Nat} (h : ∀ k, k < j → P k) (p : P j) : ∀ k, k < j + 1 → P k := fun k hk => by
  rcases Nat.lt_or_ge k j with l | l
  · exact h k l
  · have e : k = j := by omega
    subst e; exact p
/-- n numbers in a block of the call's own -/
def OwnN (base : Nat) (W : World) (u : Value) (n : Nat) (v : Nat → Int) : Prop := ∃ g cap, u = .slice (some ⟨g, 0, none⟩) n cap ∧ base ≤ g ∧ g < W.heap.size ∧ ∀ i, i < n → W.cell? ⟨g, i, none⟩ = some (.int .i64 (v i))
def vals (v : Nat → Int) (n : Nat) : List Value := (List.range n).map (fun i => Value.int .i64 (v i))
theorem vals_len (v : Nat → Int) (n : Nat) : (vals v n).length = n := by simp [vals]
theorem vals_at {v : Nat → Int} {n i : Nat} (h : i < n) : (vals v n)[i]? = some (.int .i64 (v i)) := by
  unfold vals; rw [List.getElem?_map, List.getElem?_range h]; rfl
theorem OwnN.of {base : Nat} {W : World} {u : Value} {n : Nat} {v : Nat → Int} (h : OB base W u (vals v n)) (hn : 0 < n) : OwnN base W u n v := by
  rcases h with ⟨_, h0⟩ | ⟨g, cap, rfl, hb, hg, hl, hm, hc, hf, hx⟩
  · have := congrArg List.length h0
    rw [vals_len] at this
    exact absurd this (by simp; omega)
  · rw [vals_len] at *
    exact ⟨g, cap, rfl, hb, hg, fun i hi => hx i _ (vals_at hi)⟩
theorem vals_one (v : Nat → Int) (n : Nat) : ∀ u ∈ vals v n, u.oneCell' = true := by
  intro u hu
  obtain ⟨x, _, rfl⟩ := List.mem_map.1 hu
  rfl
theorem src_lie {P : Program} {tx e' : TypeId} (hk : P.underlying tx = some (.slice e')) {w : World} {b off n c : Nat} {v : Nat → Int} (h : ∀ i, i < n → w.cell? ⟨b, off + i, none⟩ = some (.int .i64 (v i))) : Src P 1 tx (.slice (some ⟨b, off, none⟩) n c) n (vals v n) w :=
  Src.ofSlice _ hk ⟨b, off, none⟩ n c (vals v n) (by rw [vals_len]; omega) (fun j u hj => by
    have hjn : j < n := by
      rcases Nat.lt_or_ge j n with l | l
      · exact l
      · rw [List.getElem?_eq_none (by rw [vals_len]; exact l)] at hj; cases hj
    rw [vals_at hjn] at hj
    cases hj
    rw [show (⟨b, off, none⟩ : Addr).add j = ⟨b, off + j, none⟩ by unfold Addr.add; split <;> simp_all]
    exact h j hjn) (vals_one v n)
end Go.Proofs.Ytbpmbdnhfkfkhaa
