/- append in a walk; the document's words: Num, Count, Flag, Mark. -/
import Derived.Test.YtinahmhiopgcnaaGreatYa
import Derived.Below
import Derived.Lib.Hide
import Derived.ProofKit
namespace Go.Proofs.YtinahmhiopgcnaaGreat
open Go.RowKit
set_option linter.unusedVariables false
set_option linter.unusedSimpArgs false

/-- append at an operation of a plain region -/
theorem wpList_ob {P : Program} {ops : Array Oper} {rest : List Oper} {o : Oper} {a : Act} {Q : Exit → Act → World → Prop} {w : World} (hgd : o.guard = none) (s x : Operand) (t tx : TypeId)
    (ho : o.op = .call { callee := .builtin .append, args := #[s, x], argTypes := #[t, tx] })
    {base : Nat} {v : Value} {xs : List Value} (T : TypeId) (i : TypeInfo) (z : Value) (ht : P.underlying t = some (.slice T)) (hi : P.info? T = some i) (hz : i.zero = some z)
    (hzs : z.cells.size = 1) (h1 : i.size = 1) (hby : i.bytes ≤ 8) (h : OB base w v xs) (hv : a.eval s = v) (xv : Value) (m : Nat) (news : List Value) (hx : a.eval x = xv) (hs : Src P 1 tx xv m news w) (hf : xs.length + m ≤ 1000000000) (hbase : base ≤ w.heap.size)
    (hK : ∀ v' w', OB base w' v' (xs ++ news) → w.grownBy w' v.ownBlock → (v'.ownBlock = v.ownBlock ∨ v'.ownBlock = some w.heap.size) → wpList P ops Q rest (a.put o.dst v') w') : wpList P ops Q (o :: rest) a w := by
  refine wpList_plain hgd fun K hK' => ?_
  obtain ⟨v', w', hrun, r1, r2, r3⟩ := ob_append (P := P) t tx o.type T i z ht hi hz hzs h1 hby h xv m news hs hf hbase
  unfold Oper.wp
  simp [execOp, ho, resolve, invoke, builtin, hv, hx, hrun, Result.andThen]
  exact hK' _ _ (hK v' w' r1 r2 r3)
/-- a block that was just made yields its elements -/
theorem src_new {P : Program} {tx e' : TypeId} (hk : P.underlying tx = some (.slice e')) (w : World) (l : List Value) (T : TypeId) (n : Nat) (hn : l.length = n) (h1 : ∀ u ∈ l, u.oneCell' = true) : Src P 1 tx (.slice (some ⟨w.heap.size, 0, none⟩) n n) n l (w.alloc (.cells l.toArray T)) :=
  Src.ofSlice _ hk ⟨w.heap.size, 0, none⟩ n n l (by omega) (fun j u hj => by
    rw [show (⟨w.heap.size, 0, none⟩ : Addr).add j = ⟨w.heap.size, j, none⟩ by unfold Addr.add; split <;> simp_all, World.cell?_alloc_new w l.toArray T j]
    simpa using hj) h1
/-- a list of the call's own yields its elements -/
theorem src_own {P : Program} {tx e' : TypeId} (hk : P.underlying tx = some (.slice e')) {base : Nat} {w : World} {v : Value} {xs : List Value} (h : OB base w v xs) (h1 : ∀ u ∈ xs, u.oneCell' = true) : Src P 1 tx v xs.length xs w := by
  rcases h with ⟨rfl, rfl⟩ | ⟨g, cap, rfl, hb, hg, hl, hm, hc, hf, hx⟩
  · exact Src.ofNil _ hk 0
  · exact Src.ofSlice _ hk ⟨g, 0, none⟩ xs.length cap xs (by omega) (fun j u hj => by
      rw [show (⟨g, 0, none⟩ : Addr).add j = ⟨g, j, none⟩ by unfold Addr.add; split <;> simp_all]
      exact hx j u hj) h1
theorem one_ints (k : IntKind) (l : List Int) : ∀ u ∈ l.map (Value.int k), u.oneCell' = true := by
  intro u hu
  obtain ⟨x, _, rfl⟩ := List.mem_map.1 hu
  rfl
def byC (l : List Int) : List Value := l.map (Value.int .u8)
theorem byC_append (a b : List Int) : byC (a ++ b) = byC a ++ byC b := by simp [byC]
theorem byC_length (a : List Int) : (byC a).length = a.length := by simp [byC]
theorem OB.up {base : Nat} {W W' : World} {v : Value} {xs : List Value} (k : OB base W v xs) (h : W.grownBy W' v.ownBlock) (hb : base ≤ W.heap.size) : Below base W W' := by
  refine ⟨h.os, h.tape, h.output, h.size, fun j hj => h.block j (by omega) (fun e => ?_)⟩
  rcases k with ⟨rfl, _⟩ | ⟨g, cap, rfl, hg, _⟩
  · cases e
  · have : j = g := by simpa [Value.ownBlock] using e
    omega
/-- a number's digits of 256 -/
def dvB (u : Int) : Nat → Int
  | 0 => u
  | i + 1 => dvB u i / 256
def numB (u : Int) (n : Nat) : List Int := (List.range n).map fun i => dvB u i % 256
theorem numB_succ (u : Int) (n : Nat) : numB u (n + 1) = numB u n ++ [dvB u n % 256] := by simp [numB, List.range_succ]
theorem numB_length (u : Int) (n : Nat) : (numB u n).length = n := by simp [numB]
theorem dvB_in {u : Int} (h0 : 0 ≤ u) (h1 : u ≤ 18446744073709551615) : ∀ i, 0 ≤ dvB u i ∧ dvB u i ≤ 18446744073709551615
  | 0 => ⟨h0, h1⟩
  | i + 1 => by
    have := dvB_in h0 h1 i
    show 0 ≤ dvB u i / 256 ∧ dvB u i / 256 ≤ _
    omega
def tw64 (n : Int) : Int := n % 18446744073709551616
def u16B (n : Int) : List Int := [tw64 n % 256, tw64 n / 256 % 256]
def flagB (b : Bool) : List Int := [if b then 1 else 0]
/-- the bytes of a mark: zeros in place of missing ones -/
def chB (s : ByteArray) (i : Nat) : Int := if h : i < s.size then (s[i].toNat : Int) else 0
def markB (s : ByteArray) (n : Nat) : List Int := (List.range n).map (chB s)
theorem markB_succ (s : ByteArray) (n : Nat) : markB s (n + 1) = markB s n ++ [chB s n] := by simp [markB, List.range_succ]
set_option maxRecDepth 100000 in
theorem markB_length (s : ByteArray) (n : Nat) : (markB s n).length = n := by simp [markB]
end Go.Proofs.YtinahmhiopgcnaaGreat
