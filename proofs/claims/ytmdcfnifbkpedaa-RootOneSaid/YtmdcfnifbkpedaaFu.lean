/- Blocks that hold the document's numbers. -/
import Derived.Test.YtmdcfnifbkpedaaFm
import Derived.Test.YtmdcfnifbkpedaaWc
namespace Go.Proofs.Ytmdcfnifbkpedaa
open Go.RowKit

theorem abs128 {n : Int} (h : In128 n) : (0 : Int) ≤ n.natAbs ∧ (n.natAbs : Int) < 340282366920938463463374607431768211456 := by
  unfold In128 at h; omega

structure CellN (w : World) (n : Nat) (b : Bool) (m : Int) : Prop where
  c0 : w.cell? ⟨n, 0, none⟩ = some (.bool b)
  c1 : w.cell? ⟨n, 1, none⟩ = some (.int .u64 (d0 m))
  c2 : w.cell? ⟨n, 2, none⟩ = some (.int .u64 (d1 m))
  c3 : w.cell? ⟨n, 3, none⟩ = some (.int .u64 (d2 m))
  c4 : w.cell? ⟨n, 4, none⟩ = some (.int .u64 (d3 m))
theorem CellN.new (w : World) (b : Bool) (m : Int) (t : TypeId) : CellN (w.alloc (.cells #[.bool b, .int .u64 (d0 m), .int .u64 (d1 m), .int .u64 (d2 m), .int .u64 (d3 m)] t)) w.heap.size b m :=
  ⟨World.cell?_alloc_new w _ t 0, World.cell?_alloc_new w _ t 1, World.cell?_alloc_new w _ t 2, World.cell?_alloc_new w _ t 3, World.cell?_alloc_new w _ t 4⟩
theorem CellN.below {B : Nat} {w w' : World} {n : Nat} {b : Bool} {m : Int} (k : CellN w n b m) (hb : Below B w w') (hn : n < B) : CellN w' n b m :=
  ⟨(hb.cell (p := ⟨n, 0, none⟩) hn).trans k.c0, (hb.cell (p := ⟨n, 1, none⟩) hn).trans k.c1, (hb.cell (p := ⟨n, 2, none⟩) hn).trans k.c2, (hb.cell (p := ⟨n, 3, none⟩) hn).trans k.c3, (hb.cell (p := ⟨n, 4, none⟩) hn).trans k.c4⟩
theorem CellN.alloc {w : World} {n : Nat} {b : Bool} {m : Int} (k : CellN w n b m) (hn : n < w.heap.size) (o : Obj) : CellN (w.alloc o) n b m :=
  k.below (B := w.heap.size) ((Below.refl _ _).alloc (Nat.le_refl _) o) hn

theorem startN {B : Nat} {w W : World} {n m : Nat} {b c : Bool} {x y : Int} (A : CellN W n b x) (C : CellN W m c y) (g : n < W.heap.size) (i : m < W.heap.size) (z : B ≤ W.heap.size) (k : Below B w W) :
    (W.cell? ⟨n, 0, none⟩ = some (.bool (b)) ∧ W.cell? ⟨n, 1, none⟩ = some (.int .u64 (d0 (x))) ∧ W.cell? ⟨n, 2, none⟩ = some (.int .u64 (d1 (x))) ∧ W.cell? ⟨n, 3, none⟩ = some (.int .u64 (d2 (x))) ∧ W.cell? ⟨n, 4, none⟩ = some (.int .u64 (d3 (x)))) ∧ (W.cell? ⟨m, 0, none⟩ = some (.bool (c)) ∧ W.cell? ⟨m, 1, none⟩ = some (.int .u64 (d0 (y))) ∧ W.cell? ⟨m, 2, none⟩ = some (.int .u64 (d1 (y))) ∧ W.cell? ⟨m, 3, none⟩ = some (.int .u64 (d2 (y))) ∧ W.cell? ⟨m, 4, none⟩ = some (.int .u64 (d3 (y)))) ∧ n < W.heap.size ∧ m < W.heap.size ∧ B ≤ W.heap.size ∧ Below B w W :=
  ⟨⟨A.c0, A.c1, A.c2, A.c3, A.c4⟩, ⟨C.c0, C.c1, C.c2, C.c3, C.c4⟩, g, i, z, k⟩
theorem keepN {B : Nat} {w W W' : World} {n m : Nat} {b c : Bool} {x y : Int} (hb : Below W.heap.size W W')
    (h : (W.cell? ⟨n, 0, none⟩ = some (.bool (b)) ∧ W.cell? ⟨n, 1, none⟩ = some (.int .u64 (d0 (x))) ∧ W.cell? ⟨n, 2, none⟩ = some (.int .u64 (d1 (x))) ∧ W.cell? ⟨n, 3, none⟩ = some (.int .u64 (d2 (x))) ∧ W.cell? ⟨n, 4, none⟩ = some (.int .u64 (d3 (x)))) ∧ (W.cell? ⟨m, 0, none⟩ = some (.bool (c)) ∧ W.cell? ⟨m, 1, none⟩ = some (.int .u64 (d0 (y))) ∧ W.cell? ⟨m, 2, none⟩ = some (.int .u64 (d1 (y))) ∧ W.cell? ⟨m, 3, none⟩ = some (.int .u64 (d2 (y))) ∧ W.cell? ⟨m, 4, none⟩ = some (.int .u64 (d3 (y)))) ∧ n < W.heap.size ∧ m < W.heap.size ∧ B ≤ W.heap.size ∧ Below B w W) :
    (W'.cell? ⟨n, 0, none⟩ = some (.bool (b)) ∧ W'.cell? ⟨n, 1, none⟩ = some (.int .u64 (d0 (x))) ∧ W'.cell? ⟨n, 2, none⟩ = some (.int .u64 (d1 (x))) ∧ W'.cell? ⟨n, 3, none⟩ = some (.int .u64 (d2 (x))) ∧ W'.cell? ⟨n, 4, none⟩ = some (.int .u64 (d3 (x)))) ∧ (W'.cell? ⟨m, 0, none⟩ = some (.bool (c)) ∧ W'.cell? ⟨m, 1, none⟩ = some (.int .u64 (d0 (y))) ∧ W'.cell? ⟨m, 2, none⟩ = some (.int .u64 (d1 (y))) ∧ W'.cell? ⟨m, 3, none⟩ = some (.int .u64 (d2 (y))) ∧ W'.cell? ⟨m, 4, none⟩ = some (.int .u64 (d3 (y)))) ∧ n < W'.heap.size ∧ m < W'.heap.size ∧ B ≤ W'.heap.size ∧ Below B w W' := by
  obtain ⟨⟨a0, a1, a2, a3, a4⟩, ⟨c0, c1, c2, c3, c4⟩, g, i, z, k⟩ := h
  have A : CellN W n b x := ⟨a0, a1, a2, a3, a4⟩
  have C : CellN W m c y := ⟨c0, c1, c2, c3, c4⟩
  have := hb.size
  exact startN (A.below hb g) (C.below hb i) (by omega) (by omega) (by omega) (k.trans (hb.mono z))
theorem endN {B : Nat} {w W : World} {n m : Nat} {b c : Bool} {x y : Int} (h : (W.cell? ⟨n, 0, none⟩ = some (.bool (b)) ∧ W.cell? ⟨n, 1, none⟩ = some (.int .u64 (d0 (x))) ∧ W.cell? ⟨n, 2, none⟩ = some (.int .u64 (d1 (x))) ∧ W.cell? ⟨n, 3, none⟩ = some (.int .u64 (d2 (x))) ∧ W.cell? ⟨n, 4, none⟩ = some (.int .u64 (d3 (x)))) ∧ (W.cell? ⟨m, 0, none⟩ = some (.bool (c)) ∧ W.cell? ⟨m, 1, none⟩ = some (.int .u64 (d0 (y))) ∧ W.cell? ⟨m, 2, none⟩ = some (.int .u64 (d1 (y))) ∧ W.cell? ⟨m, 3, none⟩ = some (.int .u64 (d2 (y))) ∧ W.cell? ⟨m, 4, none⟩ = some (.int .u64 (d3 (y)))) ∧ n < W.heap.size ∧ m < W.heap.size ∧ B ≤ W.heap.size ∧ Below B w W) : Below B w W := h.2.2.2.2.2

/-- a sign and four digits lie in block n, and may be written -/
structure CellO (w : World) (n : Nat) (b : Bool) (x0 x1 x2 x3 : Int) : Prop where
  c0 : w.cell? ⟨n, 0, none⟩ = some (.bool b)
  c1 : w.cell? ⟨n, 1, none⟩ = some (.int .u64 x0)
  c2 : w.cell? ⟨n, 2, none⟩ = some (.int .u64 x1)
  c3 : w.cell? ⟨n, 3, none⟩ = some (.int .u64 x2)
  c4 : w.cell? ⟨n, 4, none⟩ = some (.int .u64 x3)
  f : ∀ j, w.frozen? ⟨n, j, none⟩ = false
theorem addr_o {n i j : Nat} (h : i ≠ j) : (⟨n, i, none⟩ : Addr) ≠ ⟨n, j, none⟩ := fun e => h (congrArg Addr.off e)
theorem addr_b {n m i j : Nat} (h : n ≠ m) : (⟨n, i, none⟩ : Addr) ≠ ⟨m, j, none⟩ := fun e => h (congrArg Addr.block e)
theorem CellO.set0 {w : World} {n : Nat} {b : Bool} {x0 x1 x2 x3 : Int} (k : CellO w n b x0 x1 x2 x3) (v : Int) : CellO (w.setCell ⟨n, 1, none⟩ (.int .u64 v)) n b v x1 x2 x3 :=
  ⟨(World.cell?_setCell_other _ _ _ _ (addr_o (by decide))).trans k.c0, World.cell?_setCell_same _ _ _ k.c1, (World.cell?_setCell_other _ _ _ _ (addr_o (by decide))).trans k.c2, (World.cell?_setCell_other _ _ _ _ (addr_o (by decide))).trans k.c3, (World.cell?_setCell_other _ _ _ _ (addr_o (by decide))).trans k.c4, fun j => (World.frozen?_setCell _ _ _ _).trans (k.f j)⟩
theorem CellO.set1 {w : World} {n : Nat} {b : Bool} {x0 x1 x2 x3 : Int} (k : CellO w n b x0 x1 x2 x3) (v : Int) : CellO (w.setCell ⟨n, 2, none⟩ (.int .u64 v)) n b x0 v x2 x3 :=
  ⟨(World.cell?_setCell_other _ _ _ _ (addr_o (by decide))).trans k.c0, (World.cell?_setCell_other _ _ _ _ (addr_o (by decide))).trans k.c1, World.cell?_setCell_same _ _ _ k.c2, (World.cell?_setCell_other _ _ _ _ (addr_o (by decide))).trans k.c3, (World.cell?_setCell_other _ _ _ _ (addr_o (by decide))).trans k.c4, fun j => (World.frozen?_setCell _ _ _ _).trans (k.f j)⟩
theorem CellO.set2 {w : World} {n : Nat} {b : Bool} {x0 x1 x2 x3 : Int} (k : CellO w n b x0 x1 x2 x3) (v : Int) : CellO (w.setCell ⟨n, 3, none⟩ (.int .u64 v)) n b x0 x1 v x3 :=
  ⟨(World.cell?_setCell_other _ _ _ _ (addr_o (by decide))).trans k.c0, (World.cell?_setCell_other _ _ _ _ (addr_o (by decide))).trans k.c1, (World.cell?_setCell_other _ _ _ _ (addr_o (by decide))).trans k.c2, World.cell?_setCell_same _ _ _ k.c3, (World.cell?_setCell_other _ _ _ _ (addr_o (by decide))).trans k.c4, fun j => (World.frozen?_setCell _ _ _ _).trans (k.f j)⟩
theorem CellO.set3 {w : World} {n : Nat} {b : Bool} {x0 x1 x2 x3 : Int} (k : CellO w n b x0 x1 x2 x3) (v : Int) : CellO (w.setCell ⟨n, 4, none⟩ (.int .u64 v)) n b x0 x1 x2 v :=
  ⟨(World.cell?_setCell_other _ _ _ _ (addr_o (by decide))).trans k.c0, (World.cell?_setCell_other _ _ _ _ (addr_o (by decide))).trans k.c1, (World.cell?_setCell_other _ _ _ _ (addr_o (by decide))).trans k.c2, (World.cell?_setCell_other _ _ _ _ (addr_o (by decide))).trans k.c3, World.cell?_setCell_same _ _ _ k.c4, fun j => (World.frozen?_setCell _ _ _ _).trans (k.f j)⟩
theorem CellO.drewN {w : World} {n : Nat} {b : Bool} {x0 x1 x2 x3 : Int} (k : CellO w n b x0 x1 x2 x3) (q : Nat) : CellO (w.drewN q) n b x0 x1 x2 x3 := ⟨k.c0, k.c1, k.c2, k.c3, k.c4, k.f⟩
theorem CellO.below {B : Nat} {w w' : World} {n : Nat} {b : Bool} {x0 x1 x2 x3 : Int} (k : CellO w n b x0 x1 x2 x3) (hb : Below B w w') (hn : n < B) : CellO w' n b x0 x1 x2 x3 :=
  ⟨(hb.cell (p := ⟨n, 0, none⟩) hn).trans k.c0, (hb.cell (p := ⟨n, 1, none⟩) hn).trans k.c1, (hb.cell (p := ⟨n, 2, none⟩) hn).trans k.c2, (hb.cell (p := ⟨n, 3, none⟩) hn).trans k.c3, (hb.cell (p := ⟨n, 4, none⟩) hn).trans k.c4, fun j => (hb.frozen (p := ⟨n, j, none⟩) hn).trans (k.f j)⟩
theorem below_some {B : Nat} {w w' : World} {n j : Nat} (hb : Below B w w') (hn : n < B) (k : ∃ v, w.cell? ⟨n, j, none⟩ = some v) : ∃ v, w'.cell? ⟨n, j, none⟩ = some v :=
  k.elim fun v hv => ⟨v, (hb.cell (p := ⟨n, j, none⟩) hn).trans hv⟩
end Go.Proofs.Ytmdcfnifbkpedaa
