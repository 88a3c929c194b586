/- The document's reader: its memory; fail, word. -/
import Derived.Test.YtcljaffdochdiaaYb
import Derived.BigQuiet
namespace Go.Proofs.Ytcljaffdochdiaa
open Go.RowKit
set_option linter.unusedVariables false
set_option linter.unusedSimpArgs false

/-- bytes that lie in memory -/
structure BL (W : World) (a : Option Addr) (n : Nat) (l : List Int) : Prop where
  hn : l.length = n
  u : ∀ x ∈ l, 0 ≤ x ∧ x ≤ 255
  c : 0 < n → ∃ b off, a = some ⟨b, off, none⟩ ∧ b < W.heap.size ∧ ∀ i x, l[i]? = some x → W.cell? ⟨b, off + i, none⟩ = some (.int .u8 x)
theorem BL.grown {W W' : World} {a : Option Addr} {n : Nat} {l : List Int} {nb : Nat} (h : BL W a n l) (k : W.grownBy W' (some nb)) (hne : 0 < n → ∀ p, a = some p → p.block ≠ nb) : BL W' a n l :=
  ⟨h.hn, h.u, fun h0 => by
    obtain ⟨b, off, rfl, hb, hc⟩ := h.c h0
    have ne : some b ≠ some nb := fun e => hne h0 _ rfl (Option.some.inj e)
    exact ⟨b, off, rfl, Nat.lt_of_lt_of_le hb k.size, fun i x hx => by rw [k.cell_far ⟨b, off + i, none⟩ hb ne]; exact hc i x hx⟩⟩
theorem BL.below {W W' : World} {a : Option Addr} {n : Nat} {l : List Int} (h : BL W a n l) (k : Below W.heap.size W W') : BL W' a n l :=
  ⟨h.hn, h.u, fun h0 => by
    obtain ⟨b, off, rfl, hb, hc⟩ := h.c h0
    exact ⟨b, off, rfl, Nat.lt_of_lt_of_le hb k.size, fun i x hx => by rw [k.cell (p := ⟨b, off + i, none⟩) hb]; exact hc i x hx⟩⟩
/-- where a reader stands -/
structure IS where
  pos : Nat
  last : Nat
  err : Int
  place : Int
/-- a reader in memory -/
structure IN (W : World) (nb : Nat) (a : Option Addr) (n c : Nat) (l : List Int) (s : IS) : Prop where
  c0 : W.cell? ⟨nb, 0, none⟩ = some (.slice a n c)
  c1 : W.cell? ⟨nb, 1, none⟩ = some (.int .i64 s.pos)
  c2 : W.cell? ⟨nb, 2, none⟩ = some (.int .i64 s.last)
  c3 : W.cell? ⟨nb, 3, none⟩ = some (.int .i64 s.err)
  c4 : W.cell? ⟨nb, 4, none⟩ = some (.int .i64 s.place)
  f : ∀ j, W.frozen? ⟨nb, j, none⟩ = false
  lt : nb < W.heap.size
  bl : BL W a n l
  ne : 0 < n → ∀ p, a = some p → p.block ≠ nb
  nc : n ≤ c
  cm : c ≤ maxLen
  nm : n ≤ 1000000000
  le : s.pos ≤ n
  ll : s.last ≤ s.pos
theorem grown_cell (W : World) (g j : Nat) (v : Value) : W.grownBy (W.setCell ⟨g, j, none⟩ v) (some g) := grown_setCells g [v] j W
/-- a store of a reader's own cell -/
theorem IN.put3 {W : World} {nb : Nat} {a : Option Addr} {n c : Nat} {l : List Int} {s : IS} (h : IN W nb a n c l s) (e p : Int) : IN ((W.setCell ⟨nb, 3, none⟩ (.int .i64 e)).setCell ⟨nb, 4, none⟩ (.int .i64 p)) nb a n c l { s with err := e, place := p } := by
  have o : ∀ (W : World) (i j : Nat) (v : Value), i ≠ j → (W.setCell ⟨nb, i, none⟩ v).cell? ⟨nb, j, none⟩ = W.cell? ⟨nb, j, none⟩ := fun W i j v k => World.cell?_setCell_other _ _ _ _ (by intro e; injection e; omega)
  refine ⟨?_, ?_, ?_, ?_, ?_, fun j => by rw [World.frozen?_setCell, World.frozen?_setCell]; exact h.f j, by simp [World.setCell]; exact h.lt, (h.bl.grown (grown_cell W nb 3 _) h.ne).grown (grown_cell _ nb 4 _) h.ne, h.ne, h.nc, h.cm, h.nm, h.le, h.ll⟩
  · rw [o _ 4 0 _ (by omega), o _ 3 0 _ (by omega)]; exact h.c0
  · rw [o _ 4 1 _ (by omega), o _ 3 1 _ (by omega)]; exact h.c1
  · rw [o _ 4 2 _ (by omega), o _ 3 2 _ (by omega)]; exact h.c2
  · rw [o _ 4 3 _ (by omega)]; exact World.cell?_setCell_same _ _ _ h.c3
  · exact World.cell?_setCell_same _ _ _ (by rw [o _ 3 4 _ (by omega)]; exact h.c4)
theorem IN.put12 {W : World} {nb : Nat} {a : Option Addr} {n c : Nat} {l : List Int} {s : IS} (h : IN W nb a n c l s) (q p : Nat) (hq : q ≤ p) (hp : p ≤ n) : IN ((W.setCell ⟨nb, 2, none⟩ (.int .i64 q)).setCell ⟨nb, 1, none⟩ (.int .i64 p)) nb a n c l { s with pos := p, last := q } := by
  have o : ∀ (W : World) (i j : Nat) (v : Value), i ≠ j → (W.setCell ⟨nb, i, none⟩ v).cell? ⟨nb, j, none⟩ = W.cell? ⟨nb, j, none⟩ := fun W i j v k => World.cell?_setCell_other _ _ _ _ (by intro e; injection e; omega)
  refine ⟨?_, ?_, ?_, ?_, ?_, fun j => by rw [World.frozen?_setCell, World.frozen?_setCell]; exact h.f j, by simp [World.setCell]; exact h.lt, (h.bl.grown (grown_cell W nb 2 _) h.ne).grown (grown_cell _ nb 1 _) h.ne, h.ne, h.nc, h.cm, h.nm, hp, hq⟩
  · rw [o _ 1 0 _ (by omega), o _ 2 0 _ (by omega)]; exact h.c0
  · exact World.cell?_setCell_same _ _ _ (by rw [o _ 2 1 _ (by omega)]; exact h.c1)
  · rw [o _ 1 2 _ (by omega)]; exact World.cell?_setCell_same _ _ _ h.c2
  · rw [o _ 1 3 _ (by omega), o _ 2 3 _ (by omega)]; exact h.c3
  · rw [o _ 1 4 _ (by omega), o _ 2 4 _ (by omega)]; exact h.c4
theorem IN.drew {W : World} {nb : Nat} {a : Option Addr} {n c : Nat} {l : List Int} {s : IS} (h : IN W nb a n c l s) : IN W.drew nb a n c l s :=
  ⟨h.c0, h.c1, h.c2, h.c3, h.c4, h.f, h.lt, h.bl.below ((Below.refl _ _).drew), h.ne, h.nc, h.cm, h.nm, h.le, h.ll⟩
theorem IN.grown {W W' : World} {nb : Nat} {a : Option Addr} {n c : Nat} {l : List Int} {s : IS} (h : IN W nb a n c l s) {row : Option Nat} (k : W.grownBy W' row) (hr : ∀ j, row = some j → j ≠ nb ∧ (0 < n → ∀ p, a = some p → p.block ≠ j)) : IN W' nb a n c l s := by
  have ne : some nb ≠ row := fun e => (hr nb e.symm).1 rfl
  have g : ∀ j, W'.cell? ⟨nb, j, none⟩ = W.cell? ⟨nb, j, none⟩ := fun j => k.cell_far ⟨nb, j, none⟩ h.lt ne
  refine ⟨(g 0).trans h.c0, (g 1).trans h.c1, (g 2).trans h.c2, (g 3).trans h.c3, (g 4).trans h.c4, fun j => (k.frozen_far ⟨nb, j, none⟩ h.lt ne).trans (h.f j), Nat.lt_of_lt_of_le h.lt k.size, ?_, h.ne, h.nc, h.cm, h.nm, h.le, h.ll⟩
  cases row with
  | none => exact h.bl.below ⟨k.os, k.tape, k.output, k.size, fun i hi => k.block i hi (by simp)⟩
  | some j => exact h.bl.grown k (hr j rfl).2
theorem grown_below {W W' : World} (k : Below W.heap.size W W') (row : Option Nat) : W.grownBy W' row := ⟨k.os, k.tape, k.output, k.size, fun i hi _ => k.block i hi⟩
def failS (e p : Int) (s : IS) : IS := if s.err = 0 then { s with err := e, place := p } else s
end Go.Proofs.Ytcljaffdochdiaa
