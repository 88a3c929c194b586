/- Blocks that hold a wide number. -/
import Derived.Test.YtmdcfnifbkpedaaWc
namespace Go.Proofs.Ytmdcfnifbkpedaa
open Go.RowKit

/-- a number lies in the two cells of block n -/
structure CellW (w : World) (n : Nat) (h l : Int) : Prop where
  c0 : w.cell? ⟨n, 0, none⟩ = some (.int .i64 h)
  c1 : w.cell? ⟨n, 1, none⟩ = some (.int .u64 l)
  f0 : w.frozen? ⟨n, 0, none⟩ = false
  f1 : w.frozen? ⟨n, 1, none⟩ = false
theorem CellW.new (w : World) (h l : Int) (t : TypeId) : CellW (w.alloc (.cells #[.int .i64 h, .int .u64 l] t)) w.heap.size h l :=
  ⟨World.cell?_alloc_new w _ t 0, World.cell?_alloc_new w _ t 1, by go_simp, by go_simp⟩
theorem CellW.below {B : Nat} {w w' : World} {n : Nat} {h l : Int} (k : CellW w n h l) (hb : Below B w w') (hn : n < B) : CellW w' n h l :=
  ⟨(hb.cell (p := ⟨n, 0, none⟩) hn).trans k.c0, (hb.cell (p := ⟨n, 1, none⟩) hn).trans k.c1, (hb.frozen (p := ⟨n, 0, none⟩) hn).trans k.f0, (hb.frozen (p := ⟨n, 1, none⟩) hn).trans k.f1⟩
theorem CellW.alloc {w : World} {n : Nat} {h l : Int} (k : CellW w n h l) (hn : n < w.heap.size) (o : Obj) : CellW (w.alloc o) n h l :=
  k.below (B := w.heap.size) ((Below.refl _ _).alloc (Nat.le_refl _) o) hn
theorem CellW.far {w : World} {n m : Nat} {h l : Int} (k : CellW w n h l) (hn : m ≠ n) (i : Nat) (v : Value) : CellW (w.setCell ⟨m, i, none⟩ v) n h l := by
  have e : ∀ j, (⟨m, i, none⟩ : Addr) ≠ ⟨n, j, none⟩ := fun j e => hn (congrArg Addr.block e)
  exact ⟨(World.cell?_setCell_other _ _ _ _ (e 0)).trans k.c0, (World.cell?_setCell_other _ _ _ _ (e 1)).trans k.c1, (World.frozen?_setCell _ _ _ _).trans k.f0, (World.frozen?_setCell _ _ _ _).trans k.f1⟩
theorem CellW.set {w : World} {n : Nat} {h l : Int} (k : CellW w n h l) (h' l' : Int) : CellW ((w.setCell ⟨n, 0, none⟩ (.int .i64 h')).setCell ⟨n, 1, none⟩ (.int .u64 l')) n h' l' := by
  have e : (⟨n, 1, none⟩ : Addr) ≠ ⟨n, 0, none⟩ := fun e => by have := congrArg Addr.off e; simp at this
  have e' : (⟨n, 0, none⟩ : Addr) ≠ ⟨n, 1, none⟩ := fun e => by have := congrArg Addr.off e; simp at this
  refine ⟨(World.cell?_setCell_other _ _ _ _ e).trans (World.cell?_setCell_same _ _ _ k.c0), World.cell?_setCell_same _ _ _ ((World.cell?_setCell_other _ _ _ _ e').trans k.c1), ?_, ?_⟩
  · exact (World.frozen?_setCell _ _ _ _).trans ((World.frozen?_setCell _ _ _ _).trans k.f0)
  · exact (World.frozen?_setCell _ _ _ _).trans ((World.frozen?_setCell _ _ _ _).trans k.f1)

end Go.Proofs.Ytmdcfnifbkpedaa
