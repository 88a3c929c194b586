/- The program's plane: Crosses; what plane tells. -/
import Derived.Test.YtllkhgcokbpggaaBl
import Derived.Test.YtllkhgcokbpggaaBi
import Derived.Test.YtllkhgcokbpggaaNl
import Derived.Test.YtllkhgcokbpggaaB5
namespace Go.Proofs.Ytllkhgcokbpggaa
open Go.RowKit
set_option linter.unusedVariables false
set_option linter.unusedSimpArgs false

/-- both areas lie in blocks of their own -/
def PcCut (w : World) (s t : Int) (L : List (Nat × List Value)) (u v : Value) (W : World) : Prop := ∃ n1 n2 : Nat, u = .pointer (some ⟨n1, 0, none⟩) ∧ v = .pointer (some ⟨n2, 0, none⟩) ∧ St w W ((n1, [.int .i64 (hiW s), .int .u64 (loW s)]) :: (n2, [.int .i64 (hiW t), .int .u64 (loW t)]) :: L)
theorem all_of {l : List Nat} {P : Nat → Bool} {i : Nat} (h : l.all P = true) (hi : i ∈ l) : P i = true := List.all_eq_true.mp h i hi
/-- what the region of both areas has made so far -/
def PcA (w : World) (ax ay bx by' px py qx qy : Int) (x10 x11 x24 x28 : Value) : Act := ⟨#[.agg #[.int .i64 ax, .int .i64 ay], .agg #[.int .i64 bx, .int .i64 by'], .agg #[.int .i64 px, .int .i64 py], .agg #[.int .i64 qx, .int .i64 qy], .pointer (some ⟨w.heap.size, 0, none⟩), .pointer (some ⟨w.heap.size + 1, 0, none⟩), .pointer (some ⟨w.heap.size + 1 + 1, 0, none⟩), .pointer (some ⟨w.heap.size + 1 + 1 + 1, 0, none⟩), .int .u32 0, .bool false, x10, x11, undef, undef, .agg #[.int .i64 ax, .int .i64 ay], .agg #[.int .i64 bx, .int .i64 by'], .agg #[.int .i64 px, .int .i64 py], .agg #[.int .i64 qx, .int .i64 qy], .slice (some ⟨w.heap.size + 1 + 1 + 1 + 1, 0, none⟩) 4 4, .bool true, .bool false, .agg #[.int .i64 ax, .int .i64 ay], .agg #[.int .i64 bx, .int .i64 by'], .agg #[.int .i64 px, .int .i64 py], x24, .agg #[.int .i64 ax, .int .i64 ay], .agg #[.int .i64 bx, .int .i64 by'], .agg #[.int .i64 qx, .int .i64 qy], x28, undef, undef, undef, undef, undef, undef, undef, undef, undef, undef, undef, undef, undef, undef, undef, undef, undef, undef, undef, undef, undef, undef, undef, undef, undef, undef, undef, undef, undef, undef, undef, undef, undef], []⟩
/-- of which operations have come up: c1 c2 both calls, p q both blocks, s1 s2 both stores -/
def PcI (w : World) (ax ay bx by' px py qx qy s t : Int) (n : Nat) (listed : Array Bool) (a : Act) (W : World) : Prop :=
  ∃ (c1 c2 p q s1 s2 : Bool) (x10 x11 x24 x28 : Value), n = (!c1).toNat + (!c2).toNat + (!p).toNat + (!q).toNat + (!s1).toNat + (!s2).toNat ∧ listed = #[true, true, true, c1, true, true, true, c2, p, q, s1, s2] ∧ a = PcA w ax ay bx by' px py qx qy x10 x11 x24 x28 ∧
    St w W (PbL w ax ay bx by' px py qx qy) ∧ (s1 = true → p = true) ∧ (s2 = true → q = true) ∧ (c1 = true → x24 = .agg #[.int .i64 (hiW s), .int .u64 (loW s)]) ∧ (c2 = true → x28 = .agg #[.int .i64 (hiW t), .int .u64 (loW t)]) ∧
    (p = true → ∃ m, x10 = .pointer (some ⟨m, 0, none⟩) ∧ w.heap.size + 1 + 1 + 1 < m ∧ BW W m (bif s1 then [.int .i64 (hiW s), .int .u64 (loW s)] else [.int .i64 0, .int .u64 0])) ∧
    (q = true → ∃ m, x11 = .pointer (some ⟨m, 0, none⟩) ∧ w.heap.size + 1 + 1 + 1 < m ∧ BW W m (bif s2 then [.int .i64 (hiW t), .int .u64 (loW t)] else [.int .i64 0, .int .u64 0])) ∧
    (p = true → q = true → x10 ≠ x11)
theorem pb_lt {w W : World} {ax ay bx by' px py qx qy : Int} (k : St w W (PbL w ax ay bx by' px py qx qy)) : w.heap.size + 1 + 1 + 1 < W.heap.size := (k.b (w.heap.size + 1 + 1 + 1) [.int .i64 qx, .int .i64 qy] (by unfold PbL; simp)).lt
theorem pb_far {w W : World} {ax ay bx by' px py qx qy : Int} (k : St w W (PbL w ax ay bx by' px py qx qy)) {r : Nat} (h : w.heap.size + 1 + 1 + 1 < r) (u0 u1 : Value) : St w ((W.setCell ⟨r, 0, none⟩ u0).setCell ⟨r, 1, none⟩ u1) (PbL w ax ay bx by' px py qx qy) := by
  have n : ∀ m q, (m, q) ∈ PbL w ax ay bx by' px py qx qy → r ≠ m := fun m q e => by
    unfold PbL at e; simp at e; rcases e with e | e | e | e <;> (have := e.1; omega)
  exact (k.far (by omega) n 0 u0).far (by omega) n 1 u1
theorem bw_far2 {W : World} {n r : Nat} {l : List Value} (k : BW W n l) (e : r ≠ n) (u0 u1 : Value) : BW ((W.setCell ⟨r, 0, none⟩ u0).setCell ⟨r, 1, none⟩ u1) n l := (k.far e 0 u0).far e 1 u1
theorem pc_two {w W : World} {n1 n2 : Nat} {a b c d : Value} {L : List (Nat × List Value)} (k : St w W ((n1, [a, b]) :: (n2, [c, d]) :: L)) : (W.cell? ⟨n1, 0, none⟩ = some a ∧ W.cell? ⟨n1, 1, none⟩ = some b) ∧ (W.cell? ⟨n2, 0, none⟩ = some c ∧ W.cell? ⟨n2, 1, none⟩ = some d) :=
  ⟨(k.b n1 [a, b] (by simp)).h2', (k.b n2 [c, d] (by simp)).h2'⟩
end Go.Proofs.Ytllkhgcokbpggaa
