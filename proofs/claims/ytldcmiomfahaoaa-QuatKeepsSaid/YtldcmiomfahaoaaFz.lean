/- The contract of the document's Div. -/
import Derived.Test.YtldcmiomfahaoaaFy
import Derived.Test.YtldcmiomfahaoaaBw
namespace Go.Proofs.Ytldcmiomfahaoaa
open Go.RowKit

/-- what lies in memory while a quotient is made: the number, the divisor, quotient, rest -/
theorem rnd_mul (m d : Int) (h : d < 2 * (m % d)) : rndN m d = m / d + 1 := (rnd_up (.inl h)).symm
theorem dig_high {q : Int} (q0 : 0 ≤ q) (q1 : q < 340282366920938463463374607431768211456) : (d2 q = 0 ∧ d3 q = 0 ↔ q ≤ 18446744073709551615) ∧ (q ≤ 18446744073709551615 → d1 q * 4294967296 + d0 q = q) := by
  unfold d0 d1 d2 d3; omega
theorem digs_eq (x0 x1 x2 x3 y0 y1 y2 y3 : Int) (w : World) :
    (Op.equalIn 10000 87 (.agg #[.int .u64 x0, .int .u64 x1, .int .u64 x2, .int .u64 x3]) (.agg #[.int .u64 y0, .int .u64 y1, .int .u64 y2, .int .u64 y3])).run Try.prog w = .ok (x0 == y0 && x1 == y1 && x2 == y2 && x3 == y3) w := by
  have u3 := Try.underlying73
  have a3' := Try.isAgg73
  have z3 := Try.sizeOf73
  rw [show (10000 : Nat) = 9999 + 1 from rfl, Op.equalIn]
  simp only [Sem.run_bind, run_underlying Try.underlying87, Result.andThen_ok]
  simp only [Std.Legacy.Range.forIn_eq_forIn_range', Std.Legacy.Range.size, Nat.sub_zero, Nat.add_sub_cancel, Nat.div_one, List.range'_succ, List.range'_zero, List.forIn_cons, List.forIn_nil]
  go_simp
  by_cases h0 : x0 = y0 <;> by_cases h1 : x1 = y1 <;> by_cases h2 : x2 = y2 <;> by_cases h3 : x3 = y3 <;> simp [h0, h1, h2, h3]
structure DivM (w : World) (n b q : Int) (n1 n2 : Nat) (W : World) : Prop where
  a : CellN W w.heap.size (decide (n < 0)) n.natAbs
  d : CellN W n1 (decide (b < 0)) b.natAbs
  q : CellQ W n2 (d0 q) (d1 q) (d2 q) (d3 q)
  za : w.heap.size < n1
  zd : n1 < n2
  zq : n2 < W.heap.size
  bl : Below w.heap.size w W
theorem DivM.more {w W W' : World} {n b q : Int} {n1 n2 : Nat} (M : DivM w n b q n1 n2 W) (h : Below W.heap.size W W') : DivM w n b q n1 n2 W' := by
  have := M.za; have := M.zd; have := M.zq; have := h.size
  exact ⟨M.a.below h (by omega), M.d.below h (by omega), M.q.below h (by omega), by omega, by omega, by omega, M.bl.trans (h.mono M.bl.size)⟩
theorem DivM.alloc {w W : World} {n b q : Int} {n1 n2 : Nat} (M : DivM w n b q n1 n2 W) (o : Obj) : DivM w n b q n1 n2 (W.alloc o) := M.more ((Below.refl _ _).alloc (Nat.le_refl _) o)
theorem CellN.far' {w : World} {n m : Nat} {b : Bool} {x : Int} (k : CellN w n b x) (h : m ≠ n) (i : Nat) (v : Value) : CellN (w.setCell ⟨m, i, none⟩ v) n b x :=
  ⟨(World.cell?_setCell_other _ _ _ _ (addr_b h)).trans k.c0, (World.cell?_setCell_other _ _ _ _ (addr_b h)).trans k.c1, (World.cell?_setCell_other _ _ _ _ (addr_b h)).trans k.c2, (World.cell?_setCell_other _ _ _ _ (addr_b h)).trans k.c3, (World.cell?_setCell_other _ _ _ _ (addr_b h)).trans k.c4⟩
theorem DivM.put {w W : World} {n b q : Int} {n1 n2 : Nat} (M : DivM w n b q n1 n2 W) (v : Int) : DivM w n b v n1 n2 (put4 W n2 v) := by
  have := M.za; have := M.zd
  exact ⟨(((M.a.far' (by omega) 0 _).far' (by omega) 1 _).far' (by omega) 2 _).far' (by omega) 3 _, (((M.d.far' (by omega) 0 _).far' (by omega) 1 _).far' (by omega) 2 _).far' (by omega) 3 _, put4_at M.q v, M.za, M.zd, by rw [put4_size]; exact M.zq, put4_below M.bl (by omega) v⟩
end Go.Proofs.Ytldcmiomfahaoaa
