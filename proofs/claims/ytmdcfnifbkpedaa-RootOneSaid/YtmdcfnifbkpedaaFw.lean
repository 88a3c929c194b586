/- Blocks that hold four digits. -/
import Derived.Test.YtmdcfnifbkpedaaFu
namespace Go.Proofs.Ytmdcfnifbkpedaa
open Go.RowKit

/-- four digits lie in block n, and may be written -/
structure CellQ (w : World) (n : Nat) (x0 x1 x2 x3 : Int) : Prop where
  c0 : w.cell? ⟨n, 0, none⟩ = some (.int .u64 x0)
  c1 : w.cell? ⟨n, 1, none⟩ = some (.int .u64 x1)
  c2 : w.cell? ⟨n, 2, none⟩ = some (.int .u64 x2)
  c3 : w.cell? ⟨n, 3, none⟩ = some (.int .u64 x3)
  f : ∀ j, w.frozen? ⟨n, j, none⟩ = false
theorem CellQ.set0 {w : World} {n : Nat} {x0 x1 x2 x3 : Int} (k : CellQ w n x0 x1 x2 x3) (v : Int) : CellQ (w.setCell ⟨n, 0, none⟩ (.int .u64 v)) n v x1 x2 x3 :=
  ⟨World.cell?_setCell_same _ _ _ k.c0, (World.cell?_setCell_other _ _ _ _ (addr_o (by decide))).trans k.c1, (World.cell?_setCell_other _ _ _ _ (addr_o (by decide))).trans k.c2, (World.cell?_setCell_other _ _ _ _ (addr_o (by decide))).trans k.c3, fun j => (World.frozen?_setCell _ _ _ _).trans (k.f j)⟩
theorem CellQ.set1 {w : World} {n : Nat} {x0 x1 x2 x3 : Int} (k : CellQ w n x0 x1 x2 x3) (v : Int) : CellQ (w.setCell ⟨n, 1, none⟩ (.int .u64 v)) n x0 v x2 x3 :=
  ⟨(World.cell?_setCell_other _ _ _ _ (addr_o (by decide))).trans k.c0, World.cell?_setCell_same _ _ _ k.c1, (World.cell?_setCell_other _ _ _ _ (addr_o (by decide))).trans k.c2, (World.cell?_setCell_other _ _ _ _ (addr_o (by decide))).trans k.c3, fun j => (World.frozen?_setCell _ _ _ _).trans (k.f j)⟩
theorem CellQ.set2 {w : World} {n : Nat} {x0 x1 x2 x3 : Int} (k : CellQ w n x0 x1 x2 x3) (v : Int) : CellQ (w.setCell ⟨n, 2, none⟩ (.int .u64 v)) n x0 x1 v x3 :=
  ⟨(World.cell?_setCell_other _ _ _ _ (addr_o (by decide))).trans k.c0, (World.cell?_setCell_other _ _ _ _ (addr_o (by decide))).trans k.c1, World.cell?_setCell_same _ _ _ k.c2, (World.cell?_setCell_other _ _ _ _ (addr_o (by decide))).trans k.c3, fun j => (World.frozen?_setCell _ _ _ _).trans (k.f j)⟩
theorem CellQ.set3 {w : World} {n : Nat} {x0 x1 x2 x3 : Int} (k : CellQ w n x0 x1 x2 x3) (v : Int) : CellQ (w.setCell ⟨n, 3, none⟩ (.int .u64 v)) n x0 x1 x2 v :=
  ⟨(World.cell?_setCell_other _ _ _ _ (addr_o (by decide))).trans k.c0, (World.cell?_setCell_other _ _ _ _ (addr_o (by decide))).trans k.c1, (World.cell?_setCell_other _ _ _ _ (addr_o (by decide))).trans k.c2, World.cell?_setCell_same _ _ _ k.c3, fun j => (World.frozen?_setCell _ _ _ _).trans (k.f j)⟩
theorem CellQ.drewN {w : World} {n : Nat} {x0 x1 x2 x3 : Int} (k : CellQ w n x0 x1 x2 x3) (q : Nat) : CellQ (w.drewN q) n x0 x1 x2 x3 := ⟨k.c0, k.c1, k.c2, k.c3, k.f⟩
theorem CellQ.below {B : Nat} {w w' : World} {n : Nat} {x0 x1 x2 x3 : Int} (k : CellQ w n x0 x1 x2 x3) (hb : Below B w w') (hn : n < B) : CellQ w' n x0 x1 x2 x3 :=
  ⟨(hb.cell (p := ⟨n, 0, none⟩) hn).trans k.c0, (hb.cell (p := ⟨n, 1, none⟩) hn).trans k.c1, (hb.cell (p := ⟨n, 2, none⟩) hn).trans k.c2, (hb.cell (p := ⟨n, 3, none⟩) hn).trans k.c3, fun j => (hb.frozen (p := ⟨n, j, none⟩) hn).trans (k.f j)⟩
theorem CellQ.all {w : World} {n : Nat} {x0 x1 x2 x3 : Int} (k : CellQ w n x0 x1 x2 x3) (v0 v1 v2 v3 : Int) :
    CellQ ((((w.setCell ⟨n, 0, none⟩ (.int .u64 v0)).setCell ⟨n, 1, none⟩ (.int .u64 v1)).setCell ⟨n, 2, none⟩ (.int .u64 v2)).setCell ⟨n, 3, none⟩ (.int .u64 v3)) n v0 v1 v2 v3 :=
  (((k.set0 v0).set1 v1).set2 v2).set3 v3
end Go.Proofs.Ytmdcfnifbkpedaa
