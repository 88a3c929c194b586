/- Contracts of the document's answers: low, Size, Of, From, Zero, Words. -/
import Derived.Test.YtbpmbdnhfkfkhaaBw
import Derived.Test.YtbpmbdnhfkfkhaaBn
import Derived.LoopN
namespace Go.Proofs.Ytbpmbdnhfkfkhaa
open Go.RowKit

theorem retN {b b' : Bool} {x0 x1 x2 x3 y0 y1 y2 y3 : Int} (h : b = b') (h0 : x0 = y0) (h1 : x1 = y1) (h2 : x2 = y2) (h3 : x3 = y3) : Ending.returned (.agg #[.bool b, .int .u64 x0, .int .u64 x1, .int .u64 x2, .int .u64 x3]) = .returned (.agg #[.bool b', .int .u64 y0, .int .u64 y1, .int .u64 y2, .int .u64 y3]) := by rw [h, h0, h1, h2, h3]
theorem from_pos {h l n : Int} (k : IsW h l n) (p : ¬ h < 0) : h * 18446744073709551616 + l = n.natAbs := by
  obtain ⟨_, _, _, _, _⟩ := k
  omega
theorem from_neg0 {h l n x y z u : Int} (k : IsW h l n) (p : h < 0) (q : l = 0) (hx : x = h + 18446744073709551616) (hy : y = 18446744073709551615 - x) (_hz : z = 18446744073709551615 - l) (hu : u = y + 1) :
    0 ≤ u ∧ u ≤ 18446744073709551615 ∧ u * 18446744073709551616 + 0 = n.natAbs := by
  obtain ⟨_, _, _, _, _⟩ := k
  omega
theorem from_neg1 {h l n x y z : Int} (k : IsW h l n) (p : h < 0) (_q : ¬ l = 0) (hx : x = h + 18446744073709551616) (hy : y = 18446744073709551615 - x) (hz : z = 18446744073709551615 - l) :
    y * 18446744073709551616 + (z + 1) = n.natAbs := by
  obtain ⟨_, _, _, _, _⟩ := k
  omega
theorem words_no {b : Bool} {m : Int} (m0 : 0 ≤ m) (m1 : m < 340282366920938463463374607431768211456) (h : 9223372036854775808 < m / 18446744073709551616 ∨ m / 18446744073709551616 = 9223372036854775808 ∧ (m % 18446744073709551616 ≠ 0 ∨ b = false)) : 0 = hiW (clipW (sgnW b m)) ∧ 0 = loW (clipW (sgnW b m)) ∧ false = fitW (sgnW b m) := by
  refine clip_no ?_
  unfold In128 sgnW
  cases b
  · simp; omega
  · simp at h ⊢; omega
theorem words_yes {b : Bool} {m : Int} (m0 : 0 ≤ m) (m1 : m < 340282366920938463463374607431768211456) (h : ¬ (9223372036854775808 < m / 18446744073709551616 ∨ m / 18446744073709551616 = 9223372036854775808 ∧ (m % 18446744073709551616 ≠ 0 ∨ b = false))) : In128 (sgnW b m) := by
  unfold In128 sgnW
  cases b
  · simp at h ⊢; omega
  · simp at h ⊢; omega
theorem ret3 {a a' c c' : Int} {x x' : Bool} (h1 : a = a') (h2 : c = c') (h3 : x = x') : Ending.returned (.tuple #[.int .i64 a, .int .u64 c, .bool x]) = .returned (.tuple #[.int .i64 a', .int .u64 c', .bool x']) := by rw [h1, h2, h3]
theorem clip_of {n : Int} (k : In128 n) : clipW n = n ∧ fitW n = true := by
  refine ⟨by unfold clipW; rw [if_pos k], by simp [fitW, k]⟩
theorem words_pos {m H L : Int} (k : In128 (sgnW false m)) (eH : m / 18446744073709551616 = H) (eL : m % 18446744073709551616 = L) (h0 : 0 ≤ H) (h1 : H ≤ 9223372036854775807) :
    Ending.returned (.tuple #[.int .i64 (wrap64 H), .int .u64 L, .bool true]) = .returned (.tuple #[.int .i64 (hiW (clipW (sgnW false m))), .int .u64 (loW (clipW (sgnW false m))), .bool (fitW (sgnW false m))]) := by
  have c := clip_of k
  rw [c.1, c.2]
  exact ret3 (by unfold hiW sgnW wrap64; simp; omega) (by unfold loW sgnW; simp; omega) rfl
theorem words_neg0 {m H L y v : Int} (k : In128 (sgnW true m)) (eH : m / 18446744073709551616 = H) (eL : m % 18446744073709551616 = L) (h0 : 0 ≤ H) (h1 : H ≤ 9223372036854775808) (q : L = 0) (hy : y = 18446744073709551615 - H) (hv : IntKind.u64.wrap (y + 1) = v) :
    Ending.returned (.tuple #[.int .i64 (wrap64 v), .int .u64 0, .bool true]) = .returned (.tuple #[.int .i64 (hiW (clipW (sgnW true m))), .int .u64 (loW (clipW (sgnW true m))), .bool (fitW (sgnW true m))]) := by
  have c := clip_of k
  rw [c.1, c.2]
  rw [IntKind.wrap_u64] at hv
  exact ret3 (by unfold hiW sgnW wrap64; simp; omega) (by unfold loW sgnW; simp; omega) rfl
theorem words_neg1 {m H L y z : Int} (k : In128 (sgnW true m)) (eH : m / 18446744073709551616 = H) (eL : m % 18446744073709551616 = L) (h0 : 0 ≤ H) (h1 : H ≤ 9223372036854775807) (q : ¬ L = 0) (hy : y = 18446744073709551615 - H) (hz : z = 18446744073709551615 - L) :
    Ending.returned (.tuple #[.int .i64 (wrap64 y), .int .u64 (z + 1), .bool true]) = .returned (.tuple #[.int .i64 (hiW (clipW (sgnW true m))), .int .u64 (loW (clipW (sgnW true m))), .bool (fitW (sgnW true m))]) := by
  have c := clip_of k
  rw [c.1, c.2]
  exact ret3 (by unfold hiW sgnW wrap64; simp; omega) (by unfold loW sgnW; simp; omega) rfl
end Go.Proofs.Ytbpmbdnhfkfkhaa
namespace Go.Proofs.Ytbpmbdnhfkfkhaa
open Go.RowKit

end Go.Proofs.Ytbpmbdnhfkfkhaa
namespace Go.Proofs.Ytbpmbdnhfkfkhaa
open Go.RowKit

theorem twice_d {a0 a1 a2 a3 m c : Int} (k : IsD a0 a1 a2 a3 m) : (2 * a0 + c) % 4294967296 = d0 ((2 * m + c) % 340282366920938463463374607431768211456) ∧ (2 * a1 + (2 * a0 + c) / 4294967296) % 4294967296 = d1 ((2 * m + c) % 340282366920938463463374607431768211456) ∧
    (2 * a2 + (2 * a1 + (2 * a0 + c) / 4294967296) / 4294967296) % 4294967296 = d2 ((2 * m + c) % 340282366920938463463374607431768211456) ∧ (2 * a3 + (2 * a2 + (2 * a1 + (2 * a0 + c) / 4294967296) / 4294967296) / 4294967296) % 4294967296 = d3 ((2 * m + c) % 340282366920938463463374607431768211456) := by
  obtain ⟨_, _, _, _, _, _, _, _, _⟩ := k
  unfold d0 d1 d2 d3
  omega
end Go.Proofs.Ytbpmbdnhfkfkhaa
namespace Go.Proofs.Ytbpmbdnhfkfkhaa
open Go.RowKit

theorem abs128 {n : Int} (h : In128 n) : (0 : Int) ≤ n.natAbs ∧ (n.natAbs : Int) < 340282366920938463463374607431768211456 := by
  unfold In128 at h; omega

structure CellN (w : World) (n : Nat) (b : Bool) (m : Int) : Prop where
  c0 : w.cell? ⟨n, 0, none⟩ = some (.bool b)
  c1 : w.cell? ⟨n, 1, none⟩ = some (.int .u64 (d0 m))
  c2 : w.cell? ⟨n, 2, none⟩ = some (.int .u64 (d1 m))
  c3 : w.cell? ⟨n, 3, none⟩ = some (.int .u64 (d2 m))
  c4 : w.cell? ⟨n, 4, none⟩ = some (.int .u64 (d3 m))
theorem CellN.new (w : World) (b : Bool) (m : Int) (t : TypeId) : CellN (w.alloc (.cells #[.bool b, .int .u64 (d0 m), .int .u64 (d1 m), .int .u64 (d2 m), .int .u64 (d3 m)] t)) w.heap.size b m :=
  ⟨World.cell?_alloc_new w _ t 0, World.cell?_alloc_new w _ t 1, World.cell?_alloc_new w _ t 2, World.cell?_alloc_new w _ t 3, World.cell?_alloc_new w _ t 4⟩
theorem CellN.below {B : Nat} {w w' : World} {n : Nat} {b : Bool} {m : Int} (k : CellN w n b m) (hb : Below B w w') (hn : n < B) : CellN w' n b m :=
  ⟨(hb.cell (p := ⟨n, 0, none⟩) hn).trans k.c0, (hb.cell (p := ⟨n, 1, none⟩) hn).trans k.c1, (hb.cell (p := ⟨n, 2, none⟩) hn).trans k.c2, (hb.cell (p := ⟨n, 3, none⟩) hn).trans k.c3, (hb.cell (p := ⟨n, 4, none⟩) hn).trans k.c4⟩
theorem CellN.alloc {w : World} {n : Nat} {b : Bool} {m : Int} (k : CellN w n b m) (hn : n < w.heap.size) (o : Obj) : CellN (w.alloc o) n b m :=
  k.below (B := w.heap.size) ((Below.refl _ _).alloc (Nat.le_refl _) o) hn

theorem startN {B : Nat} {w W : World} {n m : Nat} {b c : Bool} {x y : Int} (A : CellN W n b x) (C : CellN W m c y) (g : n < W.heap.size) (i : m < W.heap.size) (z : B ≤ W.heap.size) (k : Below B w W) :
    (W.cell? ⟨n, 0, none⟩ = some (.bool (b)) ∧ W.cell? ⟨n, 1, none⟩ = some (.int .u64 (d0 (x))) ∧ W.cell? ⟨n, 2, none⟩ = some (.int .u64 (d1 (x))) ∧ W.cell? ⟨n, 3, none⟩ = some (.int .u64 (d2 (x))) ∧ W.cell? ⟨n, 4, none⟩ = some (.int .u64 (d3 (x)))) ∧ (W.cell? ⟨m, 0, none⟩ = some (.bool (c)) ∧ W.cell? ⟨m, 1, none⟩ = some (.int .u64 (d0 (y))) ∧ W.cell? ⟨m, 2, none⟩ = some (.int .u64 (d1 (y))) ∧ W.cell? ⟨m, 3, none⟩ = some (.int .u64 (d2 (y))) ∧ W.cell? ⟨m, 4, none⟩ = some (.int .u64 (d3 (y)))) ∧ n < W.heap.size ∧ m < W.heap.size ∧ B ≤ W.heap.size ∧ Below B w W :=
  ⟨⟨A.c0, A.c1, A.c2, A.c3, A.c4⟩, ⟨C.c0, C.c1, C.c2, C.c3, C.c4⟩, g, i, z, k⟩
theorem keepN {B : Nat} {w W W' : World} {n m : Nat} {b c : Bool} {x y : Int} (hb : Below W.heap.size W W')
    (h : (W.cell? ⟨n, 0, none⟩ = some (.bool (b)) ∧ W.cell? ⟨n, 1, none⟩ = some (.int .u64 (d0 (x))) ∧ W.cell? ⟨n, 2, none⟩ = some (.int .u64 (d1 (x))) ∧ W.cell? ⟨n, 3, none⟩ = some (.int .u64 (d2 (x))) ∧ W.cell? ⟨n, 4, none⟩ = some (.int .u64 (d3 (x)))) ∧ (W.cell? ⟨m, 0, none⟩ = some (.bool (c)) ∧ W.cell? ⟨m, 1, none⟩ = some (.int .u64 (d0 (y))) ∧ W.cell? ⟨m, 2, none⟩ = some (.int .u64 (d1 (y))) ∧ W.cell? ⟨m, 3, none⟩ = some (.int .u64 (d2 (y))) ∧ W.cell? ⟨m, 4, none⟩ = some (.int .u64 (d3 (y)))) ∧ n < W.heap.size ∧ m < W.heap.size ∧ B ≤ W.heap.size ∧ Below B w W) :
    (W'.cell? ⟨n, 0, none⟩ = some (.bool (b)) ∧ W'.cell? ⟨n, 1, none⟩ = some (.int .u64 (d0 (x))) ∧ W'.cell? ⟨n, 2, none⟩ = some (.int .u64 (d1 (x))) ∧ W'.cell? ⟨n, 3, none⟩ = some (.int .u64 (d2 (x))) ∧ W'.cell? ⟨n, 4, none⟩ = some (.int .u64 (d3 (x)))) ∧ (W'.cell? ⟨m, 0, none⟩ = some (.bool (c)) ∧ W'.cell? ⟨m, 1, none⟩ = some (.int .u64 (d0 (y))) ∧ W'.cell? ⟨m, 2, none⟩ = some (.int .u64 (d1 (y))) ∧ W'.cell? ⟨m, 3, none⟩ = some (.int .u64 (d2 (y))) ∧ W'.cell? ⟨m, 4, none⟩ = some (.int .u64 (d3 (y)))) ∧ n < W'.heap.size ∧ m < W'.heap.size ∧ B ≤ W'.heap.size ∧ Below B w W' := by
  obtain ⟨⟨a0, a1, a2, a3, a4⟩, ⟨c0, c1, c2, c3, c4⟩, g, i, z, k⟩ := h
  have A : CellN W n b x := ⟨a0, a1, a2, a3, a4⟩
  have C : CellN W m c y := ⟨c0, c1, c2, c3, c4⟩
  have := hb.size
  exact startN (A.below hb g) (C.below hb i) (by omega) (by omega) (by omega) (k.trans (hb.mono z))
theorem endN {B : Nat} {w W : World} {n m : Nat} {b c : Bool} {x y : Int} (h : (W.cell? ⟨n, 0, none⟩ = some (.bool (b)) ∧ W.cell? ⟨n, 1, none⟩ = some (.int .u64 (d0 (x))) ∧ W.cell? ⟨n, 2, none⟩ = some (.int .u64 (d1 (x))) ∧ W.cell? ⟨n, 3, none⟩ = some (.int .u64 (d2 (x))) ∧ W.cell? ⟨n, 4, none⟩ = some (.int .u64 (d3 (x)))) ∧ (W.cell? ⟨m, 0, none⟩ = some (.bool (c)) ∧ W.cell? ⟨m, 1, none⟩ = some (.int .u64 (d0 (y))) ∧ W.cell? ⟨m, 2, none⟩ = some (.int .u64 (d1 (y))) ∧ W.cell? ⟨m, 3, none⟩ = some (.int .u64 (d2 (y))) ∧ W.cell? ⟨m, 4, none⟩ = some (.int .u64 (d3 (y)))) ∧ n < W.heap.size ∧ m < W.heap.size ∧ B ≤ W.heap.size ∧ Below B w W) : Below B w W := h.2.2.2.2.2

/-- a sign and four digits lie in block n, and may be written -/
structure CellO (w : World) (n : Nat) (b : Bool) (x0 x1 x2 x3 : Int) : Prop where
  c0 : w.cell? ⟨n, 0, none⟩ = some (.bool b)
  c1 : w.cell? ⟨n, 1, none⟩ = some (.int .u64 x0)
  c2 : w.cell? ⟨n, 2, none⟩ = some (.int .u64 x1)
  c3 : w.cell? ⟨n, 3, none⟩ = some (.int .u64 x2)
  c4 : w.cell? ⟨n, 4, none⟩ = some (.int .u64 x3)
  f : ∀ j, w.frozen? ⟨n, j, none⟩ = false
theorem addr_o {n i j : Nat} (h : i ≠ j) : (⟨n, i, none⟩ : Addr) ≠ ⟨n, j, none⟩ := fun e => h (congrArg Addr.off e)
theorem addr_b {n m i j : Nat} (h : n ≠ m) : (⟨n, i, none⟩ : Addr) ≠ ⟨m, j, none⟩ := fun e => h (congrArg Addr.block e)
theorem CellO.set0 {w : World} {n : Nat} {b : Bool} {x0 x1 x2 x3 : Int} (k : CellO w n b x0 x1 x2 x3) (v : Int) : CellO (w.setCell ⟨n, 1, none⟩ (.int .u64 v)) n b v x1 x2 x3 :=
  ⟨(World.cell?_setCell_other _ _ _ _ (addr_o (by decide))).trans k.c0, World.cell?_setCell_same _ _ _ k.c1, (World.cell?_setCell_other _ _ _ _ (addr_o (by decide))).trans k.c2, (World.cell?_setCell_other _ _ _ _ (addr_o (by decide))).trans k.c3, (World.cell?_setCell_other _ _ _ _ (addr_o (by decide))).trans k.c4, fun j => (World.frozen?_setCell _ _ _ _).trans (k.f j)⟩
theorem CellO.set1 {w : World} {n : Nat} {b : Bool} {x0 x1 x2 x3 : Int} (k : CellO w n b x0 x1 x2 x3) (v : Int) : CellO (w.setCell ⟨n, 2, none⟩ (.int .u64 v)) n b x0 v x2 x3 :=
  ⟨(World.cell?_setCell_other _ _ _ _ (addr_o (by decide))).trans k.c0, (World.cell?_setCell_other _ _ _ _ (addr_o (by decide))).trans k.c1, World.cell?_setCell_same _ _ _ k.c2, (World.cell?_setCell_other _ _ _ _ (addr_o (by decide))).trans k.c3, (World.cell?_setCell_other _ _ _ _ (addr_o (by decide))).trans k.c4, fun j => (World.frozen?_setCell _ _ _ _).trans (k.f j)⟩
theorem CellO.set2 {w : World} {n : Nat} {b : Bool} {x0 x1 x2 x3 : Int} (k : CellO w n b x0 x1 x2 x3) (v : Int) : CellO (w.setCell ⟨n, 3, none⟩ (.int .u64 v)) n b x0 x1 v x3 :=
  ⟨(World.cell?_setCell_other _ _ _ _ (addr_o (by decide))).trans k.c0, (World.cell?_setCell_other _ _ _ _ (addr_o (by decide))).trans k.c1, (World.cell?_setCell_other _ _ _ _ (addr_o (by decide))).trans k.c2, World.cell?_setCell_same _ _ _ k.c3, (World.cell?_setCell_other _ _ _ _ (addr_o (by decide))).trans k.c4, fun j => (World.frozen?_setCell _ _ _ _).trans (k.f j)⟩
theorem CellO.set3 {w : World} {n : Nat} {b : Bool} {x0 x1 x2 x3 : Int} (k : CellO w n b x0 x1 x2 x3) (v : Int) : CellO (w.setCell ⟨n, 4, none⟩ (.int .u64 v)) n b x0 x1 x2 v :=
  ⟨(World.cell?_setCell_other _ _ _ _ (addr_o (by decide))).trans k.c0, (World.cell?_setCell_other _ _ _ _ (addr_o (by decide))).trans k.c1, (World.cell?_setCell_other _ _ _ _ (addr_o (by decide))).trans k.c2, (World.cell?_setCell_other _ _ _ _ (addr_o (by decide))).trans k.c3, World.cell?_setCell_same _ _ _ k.c4, fun j => (World.frozen?_setCell _ _ _ _).trans (k.f j)⟩
theorem CellO.drewN {w : World} {n : Nat} {b : Bool} {x0 x1 x2 x3 : Int} (k : CellO w n b x0 x1 x2 x3) (q : Nat) : CellO (w.drewN q) n b x0 x1 x2 x3 := ⟨k.c0, k.c1, k.c2, k.c3, k.c4, k.f⟩
theorem CellO.below {B : Nat} {w w' : World} {n : Nat} {b : Bool} {x0 x1 x2 x3 : Int} (k : CellO w n b x0 x1 x2 x3) (hb : Below B w w') (hn : n < B) : CellO w' n b x0 x1 x2 x3 :=
  ⟨(hb.cell (p := ⟨n, 0, none⟩) hn).trans k.c0, (hb.cell (p := ⟨n, 1, none⟩) hn).trans k.c1, (hb.cell (p := ⟨n, 2, none⟩) hn).trans k.c2, (hb.cell (p := ⟨n, 3, none⟩) hn).trans k.c3, (hb.cell (p := ⟨n, 4, none⟩) hn).trans k.c4, fun j => (hb.frozen (p := ⟨n, j, none⟩) hn).trans (k.f j)⟩
theorem below_some {B : Nat} {w w' : World} {n j : Nat} (hb : Below B w w') (hn : n < B) (k : ∃ v, w.cell? ⟨n, j, none⟩ = some v) : ∃ v, w'.cell? ⟨n, j, none⟩ = some v :=
  k.elim fun v hv => ⟨v, (hb.cell (p := ⟨n, j, none⟩) hn).trans hv⟩
end Go.Proofs.Ytbpmbdnhfkfkhaa
namespace Go.Proofs.Ytbpmbdnhfkfkhaa
open Go.RowKit

end Go.Proofs.Ytbpmbdnhfkfkhaa
namespace Go.Proofs.Ytbpmbdnhfkfkhaa
open Go.RowKit

/-- four digits lie in block n, and may be written -/
structure CellQ (w : World) (n : Nat) (x0 x1 x2 x3 : Int) : Prop where
  c0 : w.cell? ⟨n, 0, none⟩ = some (.int .u64 x0)
  c1 : w.cell? ⟨n, 1, none⟩ = some (.int .u64 x1)
  c2 : w.cell? ⟨n, 2, none⟩ = some (.int .u64 x2)
  c3 : w.cell? ⟨n, 3, none⟩ = some (.int .u64 x3)
  f : ∀ j, w.frozen? ⟨n, j, none⟩ = false
theorem CellQ.set0 {w : World} {n : Nat} {x0 x1 x2 x3 : Int} (k : CellQ w n x0 x1 x2 x3) (v : Int) : CellQ (w.setCell ⟨n, 0, none⟩ (.int .u64 v)) n v x1 x2 x3 :=
  ⟨World.cell?_setCell_same _ _ _ k.c0, (World.cell?_setCell_other _ _ _ _ (addr_o (by decide))).trans k.c1, (World.cell?_setCell_other _ _ _ _ (addr_o (by decide))).trans k.c2, (World.cell?_setCell_other _ _ _ _ (addr_o (by decide))).trans k.c3, fun j => (World.frozen?_setCell _ _ _ _).trans (k.f j)⟩
theorem CellQ.set1 {w : World} {n : Nat} {x0 x1 x2 x3 : Int} (k : CellQ w n x0 x1 x2 x3) (v : Int) : CellQ (w.setCell ⟨n, 1, none⟩ (.int .u64 v)) n x0 v x2 x3 :=
  ⟨(World.cell?_setCell_other _ _ _ _ (addr_o (by decide))).trans k.c0, World.cell?_setCell_same _ _ _ k.c1, (World.cell?_setCell_other _ _ _ _ (addr_o (by decide))).trans k.c2, (World.cell?_setCell_other _ _ _ _ (addr_o (by decide))).trans k.c3, fun j => (World.frozen?_setCell _ _ _ _).trans (k.f j)⟩
theorem CellQ.set2 {w : World} {n : Nat} {x0 x1 x2 x3 : Int} (k : CellQ w n x0 x1 x2 x3) (v : Int) : CellQ (w.setCell ⟨n, 2, none⟩ (.int .u64 v)) n x0 x1 v x3 :=
  ⟨(World.cell?_setCell_other _ _ _ _ (addr_o (by decide))).trans k.c0, (World.cell?_setCell_other _ _ _ _ (addr_o (by decide))).trans k.c1, World.cell?_setCell_same _ _ _ k.c2, (World.cell?_setCell_other _ _ _ _ (addr_o (by decide))).trans k.c3, fun j => (World.frozen?_setCell _ _ _ _).trans (k.f j)⟩
theorem CellQ.set3 {w : World} {n : Nat} {x0 x1 x2 x3 : Int} (k : CellQ w n x0 x1 x2 x3) (v : Int) : CellQ (w.setCell ⟨n, 3, none⟩ (.int .u64 v)) n x0 x1 x2 v :=
  ⟨(World.cell?_setCell_other _ _ _ _ (addr_o (by decide))).trans k.c0, (World.cell?_setCell_other _ _ _ _ (addr_o (by decide))).trans k.c1, (World.cell?_setCell_other _ _ _ _ (addr_o (by decide))).trans k.c2, World.cell?_setCell_same _ _ _ k.c3, fun j => (World.frozen?_setCell _ _ _ _).trans (k.f j)⟩
theorem CellQ.drewN {w : World} {n : Nat} {x0 x1 x2 x3 : Int} (k : CellQ w n x0 x1 x2 x3) (q : Nat) : CellQ (w.drewN q) n x0 x1 x2 x3 := ⟨k.c0, k.c1, k.c2, k.c3, k.f⟩
theorem CellQ.below {B : Nat} {w w' : World} {n : Nat} {x0 x1 x2 x3 : Int} (k : CellQ w n x0 x1 x2 x3) (hb : Below B w w') (hn : n < B) : CellQ w' n x0 x1 x2 x3 :=
  ⟨(hb.cell (p := ⟨n, 0, none⟩) hn).trans k.c0, (hb.cell (p := ⟨n, 1, none⟩) hn).trans k.c1, (hb.cell (p := ⟨n, 2, none⟩) hn).trans k.c2, (hb.cell (p := ⟨n, 3, none⟩) hn).trans k.c3, fun j => (hb.frozen (p := ⟨n, j, none⟩) hn).trans (k.f j)⟩
theorem CellQ.all {w : World} {n : Nat} {x0 x1 x2 x3 : Int} (k : CellQ w n x0 x1 x2 x3) (v0 v1 v2 v3 : Int) :
    CellQ ((((w.setCell ⟨n, 0, none⟩ (.int .u64 v0)).setCell ⟨n, 1, none⟩ (.int .u64 v1)).setCell ⟨n, 2, none⟩ (.int .u64 v2)).setCell ⟨n, 3, none⟩ (.int .u64 v3)) n v0 v1 v2 v3 :=
  (((k.set0 v0).set1 v1).set2 v2).set3 v3
end Go.Proofs.Ytbpmbdnhfkfkhaa
namespace Go.Proofs.Ytbpmbdnhfkfkhaa
open Go.RowKit

theorem plus_d {a0 a1 a2 a3 m b0 b1 b2 b3 k : Int} (A : IsD a0 a1 a2 a3 m) (B : IsD b0 b1 b2 b3 k) :
    ((a0 + b0) % 4294967296 = d0 ((m + k) % 340282366920938463463374607431768211456) ∧ (a1 + b1 + (a0 + b0) / 4294967296) % 4294967296 = d1 ((m + k) % 340282366920938463463374607431768211456) ∧
    (a2 + b2 + (a1 + b1 + (a0 + b0) / 4294967296) / 4294967296) % 4294967296 = d2 ((m + k) % 340282366920938463463374607431768211456) ∧ (a3 + b3 + (a2 + b2 + (a1 + b1 + (a0 + b0) / 4294967296) / 4294967296) / 4294967296) % 4294967296 = d3 ((m + k) % 340282366920938463463374607431768211456)) ∧
    (a3 + b3 + (a2 + b2 + (a1 + b1 + (a0 + b0) / 4294967296) / 4294967296) / 4294967296) / 4294967296 = (m + k) / 340282366920938463463374607431768211456 := by
  obtain ⟨_, _, _, _, _, _, _, _, _⟩ := A
  obtain ⟨_, _, _, _, _, _, _, _, _⟩ := B
  unfold d0 d1 d2 d3
  omega
theorem minus_d {a0 a1 a2 a3 m b0 b1 b2 b3 k c1 c2 c3 : Int} (A : IsD a0 a1 a2 a3 m) (B : IsD b0 b1 b2 b3 k)
    (h1 : c1 = 1 - (a0 + 4294967296 - b0) / 4294967296) (h2 : c2 = 1 - (a1 + 4294967296 - b1 - c1) / 4294967296) (h3 : c3 = 1 - (a2 + 4294967296 - b2 - c2) / 4294967296) :
    (a0 + 4294967296 - b0) % 4294967296 = d0 ((m - k) % 340282366920938463463374607431768211456) ∧ (a1 + 4294967296 - b1 - c1) % 4294967296 = d1 ((m - k) % 340282366920938463463374607431768211456) ∧
    (a2 + 4294967296 - b2 - c2) % 4294967296 = d2 ((m - k) % 340282366920938463463374607431768211456) ∧ (a3 + 4294967296 - b3 - c3) % 4294967296 = d3 ((m - k) % 340282366920938463463374607431768211456) := by
  obtain ⟨_, _, _, _, _, _, _, _, _⟩ := A
  obtain ⟨_, _, _, _, _, _, _, _, _⟩ := B
  unfold d0 d1 d2 d3
  omega
end Go.Proofs.Ytbpmbdnhfkfkhaa
namespace Go.Proofs.Ytbpmbdnhfkfkhaa
open Go.RowKit

theorem bit_low (x r : Nat) (h : r < 32) : x % 4294967296 / 2 ^ r % 2 = x / 2 ^ r % 2 := by
  have h1 := Nat.testBit_mod_two_pow x 32 r
  rw [Nat.testBit_eq_decide_div_mod_eq, Nat.testBit_eq_decide_div_mod_eq] at h1
  simp only [h, decide_true, Bool.true_and] at h1
  have h2 := decide_eq_decide.1 h1
  have : x % 2 ^ 32 = x % 4294967296 := rfl
  rw [this] at h2
  omega
/-- bit i of a size lies in its digit i / 32 -/
theorem bit_d (m : Int) (m0 : 0 ≤ m) (j r : Nat) (hr : r < 32) (q : Int) (hq : q = m / ((4294967296 ^ j : Nat) : Int)) : q % 4294967296 / 2 ^ r % 2 = m / 2 ^ (32 * j + r) % 2 := by
  obtain ⟨M, rfl⟩ := Int.eq_ofNat_of_zero_le m0
  have e1 : q = ((M / 4294967296 ^ j : Nat) : Int) := by rw [hq]; exact (Int.natCast_ediv _ _).symm
  have h := bit_low (M / 4294967296 ^ j) r hr
  have e2 : M / 4294967296 ^ j / 2 ^ r = M / 2 ^ (32 * j + r) := by
    rw [Nat.div_div_eq_div_mul, Nat.pow_add, Nat.pow_mul]
  rw [e2] at h
  have c1 : ((2 : Int) ^ r) = ((2 ^ r : Nat) : Int) := by simp
  have c2 : ((2 : Int) ^ (32 * j + r)) = ((2 ^ (32 * j + r) : Nat) : Int) := by simp
  rw [e1, c1, c2]
  have h2 := congrArg (fun n : Nat => (n : Int)) h
  simp only [Int.natCast_ediv, Int.natCast_emod] at h2
  simp only [Int.natCast_ediv]
  exact h2
end Go.Proofs.Ytbpmbdnhfkfkhaa
