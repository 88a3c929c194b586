/- Blocks in memory by lists of values; a call's world by a name. -/
import Derived.Test.YtjdhjabbojceeaaJa
namespace Go.Proofs.Ytjdhjabbojceeaa
open Go.RowKit
set_option linter.unusedVariables false
set_option linter.unusedSimpArgs false

/-- a call's world by a name, with what is known of it -/
theorem calls_gen {P : Program} {f : Nat} {args : Array Value} {W : World} {K : Ending → World → Prop} (S : World → Prop) (h : S W) (k : ∀ W', S W' → Calls P f args W' K) : Calls P f args W K := k W h
/-- a walk's world by a name, with what is known of it -/
theorem wp_gen {P : Program} {c : Code} {Q : Exit → Act → World → Prop} {a : Act} {W : World} (S : World → Prop) (h : S W) (k : ∀ W', S W' → Code.wp P c Q a W') : Code.wp P c Q a W := k W h
/-- a block holds a list of values, and may be written -/
structure BW (W : World) (n : Nat) (l : List Value) : Prop where
  c : ∀ i v, l[i]? = some v → W.cell? ⟨n, i, none⟩ = some v
  f : ∀ j, W.frozen? ⟨n, j, none⟩ = false
  lt : n < W.heap.size
theorem BW.new (w : World) (n : Nat) (l : List Value) (t : TypeId) (e : n = w.heap.size) : BW (w.alloc (.cells l.toArray t)) n l := by
  subst e
  exact ⟨fun i v h => by rw [World.cell?_alloc_new]; simpa using h, fun j => by go_simp, by simp⟩
theorem BW.below {B : Nat} {w w' : World} {n : Nat} {l : List Value} (k : BW w n l) (h : Below B w w') (hn : n < B) : BW w' n l :=
  ⟨fun i v e => (h.cell (p := ⟨n, i, none⟩) hn).trans (k.c i v e), fun j => (h.frozen (p := ⟨n, j, none⟩) hn).trans (k.f j), by have := h.size; have := k.lt; omega⟩
theorem BW.alloc {w : World} {n : Nat} {l : List Value} (k : BW w n l) (o : Obj) : BW (w.alloc o) n l := k.below ((Below.refl w.heap.size w).alloc (Nat.le_refl _) o) k.lt
theorem BW.drew {w : World} {n : Nat} {l : List Value} (k : BW w n l) : BW w.drew n l := ⟨k.c, k.f, k.lt⟩
theorem BW.fx {W W' : World} {n b j : Nat} {q : Bool} {l : List Value} (k : BW W n l) (h : FxW W.heap.size W b j q W') (e : b ≠ n) : BW W' n l :=
  ⟨fun i v g => (h.cell k.lt e).trans (k.c i v g), fun i => (h.frozen k.lt).trans (k.f i), by have := h.size; have := k.lt; omega⟩
theorem BW.far {W : World} {n r : Nat} {l : List Value} (k : BW W n l) (e : r ≠ n) (i : Nat) (v : Value) : BW (W.setCell ⟨r, i, none⟩ v) n l := by
  have a : ∀ j, (⟨r, i, none⟩ : Addr) ≠ ⟨n, j, none⟩ := fun j h => e (congrArg Addr.block h)
  exact ⟨fun j u g => (World.cell?_setCell_other _ _ _ _ (a j)).trans (k.c j u g), fun j => (World.frozen?_setCell _ _ _ _).trans (k.f j), by rw [set_size]; exact k.lt⟩
theorem BW.h3 {W : World} {n : Nat} {a b c : Value} (k : BW W n [a, b, c]) : W.cell? ⟨n, 0, none⟩ = some a ∧ W.cell? ⟨n, 1, none⟩ = some b ∧ W.cell? ⟨n, 2, none⟩ = some c := ⟨k.c 0 _ rfl, k.c 1 _ rfl, k.c 2 _ rfl⟩
theorem BW.h4 {W : World} {n : Nat} {a b c d : Value} (k : BW W n [a, b, c, d]) : W.cell? ⟨n, 0, none⟩ = some a ∧ W.cell? ⟨n, 1, none⟩ = some b ∧ W.cell? ⟨n, 2, none⟩ = some c ∧ W.cell? ⟨n, 3, none⟩ = some d := ⟨k.c 0 _ rfl, k.c 1 _ rfl, k.c 2 _ rfl, k.c 3 _ rfl⟩
theorem BW.h9 {W : World} {n : Nat} {a b c d e f g h i : Value} (k : BW W n [a, b, c, d, e, f, g, h, i]) : W.cell? ⟨n, 0, none⟩ = some a ∧ W.cell? ⟨n, 1, none⟩ = some b ∧ W.cell? ⟨n, 2, none⟩ = some c ∧ W.cell? ⟨n, 3, none⟩ = some d ∧ W.cell? ⟨n, 4, none⟩ = some e ∧ W.cell? ⟨n, 5, none⟩ = some f ∧ W.cell? ⟨n, 6, none⟩ = some g ∧ W.cell? ⟨n, 7, none⟩ = some h ∧ W.cell? ⟨n, 8, none⟩ = some i :=
  ⟨k.c 0 _ rfl, k.c 1 _ rfl, k.c 2 _ rfl, k.c 3 _ rfl, k.c 4 _ rfl, k.c 5 _ rfl, k.c 6 _ rfl, k.c 7 _ rfl, k.c 8 _ rfl⟩
theorem Flag.set {w W : World} {b k : Nat} {o : Bool} (t : FxW w.heap.size w b k o W) {r : Nat} (h : w.heap.size ≤ r) (i : Nat) (u : Value) : FxW w.heap.size w b k o (W.setCell ⟨r, i, none⟩ u) :=
  FxW.then t ((Below.refl w.heap.size W).setCell (p := ⟨r, i, none⟩) h u) (Nat.le_refl _)
end Go.Proofs.Ytjdhjabbojceeaa
