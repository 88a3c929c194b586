/- Vectors in memory; contracts of the document's vec. -/
import Derived.Test.YtjdhjabbojceeaaBy
import Derived.Test.YtjdhjabbojceeaaBz
import Derived.Test.YtjdhjabbojceeaaBk
import Derived.Test.YtjdhjabbojceeaaJb
namespace Go.Proofs.Ytjdhjabbojceeaa
open Go.RowKit
set_option linter.unusedVariables false
set_option linter.unusedSimpArgs false

/-- a vector lies in the three cells of block n, which may be written -/
structure VW (W : World) (n : Nat) (x y z : Int) : Prop where
  c0 : W.cell? ⟨n, 0, none⟩ = some (.int .i64 x)
  c1 : W.cell? ⟨n, 1, none⟩ = some (.int .i64 y)
  c2 : W.cell? ⟨n, 2, none⟩ = some (.int .i64 z)
  f : ∀ j, W.frozen? ⟨n, j, none⟩ = false
  lt : n < W.heap.size
theorem VW.new (w : World) (n : Nat) (x y z : Int) (t : TypeId) (e : n = w.heap.size) : VW (w.alloc (.cells #[.int .i64 x, .int .i64 y, .int .i64 z] t)) n x y z := by
  subst e
  exact ⟨World.cell?_alloc_new w _ t 0, World.cell?_alloc_new w _ t 1, World.cell?_alloc_new w _ t 2, fun j => by go_simp, by simp⟩
theorem VW.below {B : Nat} {w w' : World} {n : Nat} {x y z : Int} (k : VW w n x y z) (h : Below B w w') (hn : n < B) : VW w' n x y z :=
  ⟨(h.cell (p := ⟨n, 0, none⟩) hn).trans k.c0, (h.cell (p := ⟨n, 1, none⟩) hn).trans k.c1, (h.cell (p := ⟨n, 2, none⟩) hn).trans k.c2, fun j => (h.frozen (p := ⟨n, j, none⟩) hn).trans (k.f j), by have := h.size; have := k.lt; omega⟩
theorem VW.alloc {w : World} {n : Nat} {x y z : Int} (k : VW w n x y z) (o : Obj) : VW (w.alloc o) n x y z := k.below ((Below.refl w.heap.size w).alloc (Nat.le_refl _) o) k.lt
theorem VW.drew {w : World} {n : Nat} {x y z : Int} (k : VW w n x y z) : VW w.drew n x y z := ⟨k.c0, k.c1, k.c2, k.f, k.lt⟩
theorem VW.fx {W W' : World} {n b j : Nat} {q : Bool} {x y z : Int} (k : VW W n x y z) (h : FxW W.heap.size W b j q W') (e : b ≠ n) : VW W' n x y z :=
  ⟨(h.cell k.lt e).trans k.c0, (h.cell k.lt e).trans k.c1, (h.cell k.lt e).trans k.c2, fun i => (h.frozen k.lt).trans (k.f i), by have := h.size; have := k.lt; omega⟩
theorem VW.held {W : World} {n : Nat} {x y z : Int} (k : VW W n x y z) : (W.cell? ⟨n, 0, none⟩ = some (.int .i64 (x)) ∧ W.cell? ⟨n, 1, none⟩ = some (.int .i64 (y)) ∧ W.cell? ⟨n, 2, none⟩ = some (.int .i64 (z))) := ⟨k.c0, k.c1, k.c2⟩
/-- a vector whose parts fit -/
structure In3 (x y z : Int) : Prop where
  x0 : -9223372036854775808 ≤ x
  x1 : x ≤ 9223372036854775807
  y0 : -9223372036854775808 ≤ y
  y1 : y ≤ 9223372036854775807
  z0 : -9223372036854775808 ≤ z
  z1 : z ≤ 9223372036854775807

/-- the state of a walk that reckons by a receiver: what lies below the old size is as it was but for the flag -/
structure Flag (w W : World) (b k : Nat) (o : Bool) : Prop where
  m : MAt W b k o
  f : FxW w.heap.size w b k o W
  lt : b < w.heap.size
theorem Flag.start {w W : World} {b k : Nat} {o : Bool} (m : MAt w b k o) (h : Below w.heap.size w W) : Flag w W b k o :=
  ⟨m.below h m.lt, (FxW.refl m).then h (Nat.le_refl _), m.lt⟩
theorem Flag.fx {w W W' : World} {b k : Nat} {o q : Bool} (t : Flag w W b k o) (h : FxW W.heap.size W b k q W') : Flag w W' b k q :=
  ⟨h.at t.m t.m.lt, t.f.trans (h.mono t.f.size), t.lt⟩
theorem Flag.more {w W W' : World} {b k : Nat} {o : Bool} (t : Flag w W b k o) (h : Below W.heap.size W W') : Flag w W' b k o :=
  ⟨t.m.below h t.m.lt, t.f.then h t.f.size, t.lt⟩

theorem VW.far {W : World} {n r : Nat} {x y z : Int} (k : VW W n x y z) (e : r ≠ n) (i : Nat) (v : Value) : VW (W.setCell ⟨r, i, none⟩ v) n x y z := by
  have a : ∀ j, (⟨r, i, none⟩ : Addr) ≠ ⟨n, j, none⟩ := fun j h => e (congrArg Addr.block h)
  exact ⟨(World.cell?_setCell_other _ _ _ _ (a 0)).trans k.c0, (World.cell?_setCell_other _ _ _ _ (a 1)).trans k.c1, (World.cell?_setCell_other _ _ _ _ (a 2)).trans k.c2, fun j => (World.frozen?_setCell _ _ _ _).trans (k.f j), by rw [set_size]; exact k.lt⟩
theorem Flag.put3 {w W : World} {b k : Nat} {o : Bool} (t : Flag w W b k o) {r : Nat} (h : w.heap.size ≤ r) (u v z : Value) :
    FxW w.heap.size w b k o (((W.setCell ⟨r, 0, none⟩ u).setCell ⟨r, 1, none⟩ v).setCell ⟨r, 2, none⟩ z) :=
  t.f.then ((((Below.refl w.heap.size W).setCell (p := ⟨r, 0, none⟩) h u).setCell (p := ⟨r, 1, none⟩) h v).setCell (p := ⟨r, 2, none⟩) h z) (Nat.le_refl _)

end Go.Proofs.Ytjdhjabbojceeaa
