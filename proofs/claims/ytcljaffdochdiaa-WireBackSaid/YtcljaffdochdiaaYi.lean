/- What package wire is to tell of what is put; both lists side by side. -/
import Derived.Test.YtcljaffdochdiaaYh
namespace Go.Proofs.Ytcljaffdochdiaa
open Go.RowKit
set_option linter.unusedVariables false
set_option linter.unusedSimpArgs false

/-- only block nb and the row have turned -/
structure TwoB (W W' : World) (nb : Nat) (row : Option Nat) : Prop where
  os : W'.os = W.os
  tape : W'.tape = W.tape
  output : W'.output = W.output
  size : W.heap.size ≤ W'.heap.size
  block : ∀ k, k < W.heap.size → k ≠ nb → some k ≠ row → W'.heap[k]? = W.heap[k]?
theorem OB.two {base : Nat} {W W' : World} {u : Value} {xs : List Value} {nb : Nat} {row : Option Nat} (h : OB base W u xs) (k : TwoB W W' nb row) (h1 : u.ownBlock ≠ some nb) (h2 : u.ownBlock = row → row = none) : OB base W' u xs := by
  rcases h with h | ⟨g, cap, rfl, hb, hg, hl, hm, hc, hf, hx⟩
  · exact .inl h
  · have n1 : g ≠ nb := fun e => h1 (by rw [← e]; rfl)
    have n2 : some g ≠ row := fun e => by have := h2 (by rw [← e]; rfl); rw [this] at e; cases e
    have B := k.block g hg n1 n2
    have C : ∀ j, W'.cell? ⟨g, j, none⟩ = W.cell? ⟨g, j, none⟩ := fun j => World.cell?_of_block (a := ⟨g, j, none⟩) B
    have F : ∀ j, W'.frozen? ⟨g, j, none⟩ = W.frozen? ⟨g, j, none⟩ := fun j => World.frozen?_of_block (a := ⟨g, j, none⟩) B
    exact .inr ⟨g, cap, rfl, hb, Nat.lt_of_lt_of_le hg k.size, hl, hm, fun j hj => by rw [C]; exact hc j hj, fun j => by rw [F]; exact hf j, fun j u hj => by rw [C]; exact hx j u hj⟩
theorem OB.row_lt {base : Nat} {W : World} {u : Value} {xs : List Value} (h : OB base W u xs) {g : Nat} (e : u.ownBlock = some g) : base ≤ g ∧ g < W.heap.size := by
  rcases h with ⟨rfl, _⟩ | ⟨g', cap, rfl, hb, hg, _⟩
  · cases e
  · have : g' = g := by simpa [Value.ownBlock] using e
    subst this; exact ⟨hb, hg⟩
/-- what is put: base, world, block, its list's value, its bytes -/
structure OutT where
  P : Nat → World → Nat → Value → List Int → Prop
  lo : ∀ {base W nb v l}, P base W nb v l → base ≤ nb ∧ nb < W.heap.size
  row : ∀ {base W nb v l g}, P base W nb v l → v.ownBlock = some g → base ≤ g ∧ g < W.heap.size ∧ g ≠ nb
  keep : ∀ {base W W' nb v l}, P base W nb v l → W.heap.size ≤ W'.heap.size → W'.heap[nb]? = W.heap[nb]? → (∀ g, v.ownBlock = some g → W'.heap[g]? = W.heap[g]?) → P base W' nb v l
theorem OutT.keepG (C : OutT) {base : Nat} {W W' : World} {nb : Nat} {v : Value} {l : List Int} {row : Option Nat} (h : C.P base W nb v l) (k : W.grownBy W' row) (h1 : row ≠ some nb) (h2 : v.ownBlock = row → row = none) : C.P base W' nb v l :=
  C.keep h k.size (k.block nb (C.lo h).2 (fun e => h1 e.symm)) (fun g e => k.block g (C.row h e).2.1 (fun e2 => by have := h2 (e.trans e2); rw [this] at e2; cases e2))
/-- what a put does -/
def OutT.puts (C : OutT) (f : Nat) (args : Array Value) (new : List Int) : Prop :=
  ∀ base W nb v l, C.P base W nb v l → base ≤ W.heap.size → l.length + new.length ≤ 100000 → Calls Try.prog f (#[.pointer (some ⟨nb, 0, none⟩)] ++ args) W fun e W' =>
    e = .returned (.tuple #[]) ∧ ∃ v', C.P base W' nb v' (l ++ new) ∧ TwoB W W' nb v.ownBlock ∧ (v'.ownBlock = v.ownBlock ∨ ∃ g, v'.ownBlock = some g ∧ W.heap.size ≤ g)
/-- both lists: what was put (lo), what is wanted (lu) -/
structure PS (C : OutT) (w W : World) (nb : Nat) (v u : Value) (lo lu : List Int) : Prop where
  p : C.P w.heap.size W nb v lo
  o : OB w.heap.size W u (byC lu)
  b : Below w.heap.size w W
  a1 : u.ownBlock ≠ some nb
  a2 : v.ownBlock = u.ownBlock → u.ownBlock = none
theorem TwoB.below {B : Nat} {w W W' : World} {nb : Nat} {row : Option Nat} (h : Below B w W) (k : TwoB W W' nb row) (hn : B ≤ nb) (hr : ∀ g, row = some g → B ≤ g) (hB : B ≤ W.heap.size) : Below B w W' :=
  h.trans ⟨k.os, k.tape, k.output, k.size, fun j hj => k.block j (by omega) (by omega) (fun e => by have := hr j e.symm; omega)⟩
theorem PS.put {C : OutT} {w W W' : World} {nb : Nat} {v v' u : Value} {lo lu new : List Int} (s : PS C w W nb v u lo lu) (hp : C.P w.heap.size W' nb v' (lo ++ new)) (k : TwoB W W' nb v.ownBlock) (hv : v'.ownBlock = v.ownBlock ∨ ∃ g, v'.ownBlock = some g ∧ W.heap.size ≤ g) : PS C w W' nb v' u (lo ++ new) lu := by
  have l0 := C.lo s.p
  refine ⟨hp, s.o.two k s.a1 (fun e => e.symm.trans (s.a2 e.symm)), TwoB.below s.b k l0.1 (fun g e => (C.row s.p e).1) s.b.size, s.a1, fun e => ?_⟩
  rcases hv with h | ⟨g, h, hg⟩
  · exact s.a2 (h.symm.trans e)
  · rw [h] at e
    have := (s.o.row_lt e.symm).2
    omega
theorem PS.step {C : OutT} {w W W' : World} {nb : Nat} {v u : Value} {lo lu : List Int} (s : PS C w W nb v u lo lu) (h : Below W.heap.size W W') : PS C w W' nb v u lo lu :=
  ⟨C.keepG s.p (grown_below h none) (by simp) (fun _ => rfl), s.o.below h, s.b.trans (h.mono s.b.size), s.a1, s.a2⟩
theorem PS.want {C : OutT} {w W W' : World} {nb : Nat} {v u u' : Value} {lo lu new : List Int} (s : PS C w W nb v u lo lu) (ho : OB w.heap.size W' u' (byC lu ++ byC new)) (k : W.grownBy W' u.ownBlock) (hu : u'.ownBlock = u.ownBlock ∨ u'.ownBlock = some W.heap.size) : PS C w W' nb v u' lo (lu ++ new) := by
  have l0 := C.lo s.p
  refine ⟨C.keepG s.p k s.a1 s.a2, by rw [byC_append]; exact ho, s.b.trans (s.o.up k s.b.size), ?_, fun e => ?_⟩
  · rcases hu with h | h
    · rw [h]; exact s.a1
    · rw [h]; intro e; injection e; omega
  · rcases hu with h | h
    · rw [h] at e ⊢; exact s.a2 e
    · rw [h] at e; have := (C.row s.p e).2.1; omega
end Go.Proofs.Ytcljaffdochdiaa
