/- Contracts of the program's pane: Row, places (lists made whole, then filled). -/
import Derived.Test.YtbpmbdnhfkfkhaaPt
import Derived.OwnWalk
namespace Go.Proofs.Ytbpmbdnhfkfkhaa
open Go.RowKit
set_option linter.unusedVariables false
set_option linter.unusedSimpArgs false

/-- n points in a block of the call's own, and what they hold -/
structure MkD (base : Nat) (W : World) (g n : Nat) (X Y : Nat → Int) : Prop where
  b : base ≤ g
  lt : g < W.heap.size
  f : ∀ j, W.frozen? ⟨g, j, none⟩ = false
  c : ∀ i, i < n → W.cell? ⟨g, i * 2, none⟩ = some (.int .i64 (X i)) ∧ W.cell? ⟨g, i * 2 + 1, none⟩ = some (.int .i64 (Y i))
theorem MkD.below {base : Nat} {W W' : World} {g n : Nat} {X Y : Nat → Int} (h : MkD base W g n X Y) (k : Below W.heap.size W W') : MkD base W' g n X Y :=
  ⟨h.b, by have := h.lt; have := k.size; omega, fun j => (k.frozen (p := ⟨g, j, none⟩) h.lt).trans (h.f j), fun i hi => ⟨(k.cell (p := ⟨g, i * 2, none⟩) h.lt).trans (h.c i hi).1, (k.cell (p := ⟨g, i * 2 + 1, none⟩) h.lt).trans (h.c i hi).2⟩⟩
theorem MkD.congr {base : Nat} {W : World} {g n : Nat} {X Y X' Y' : Nat → Int} (h : MkD base W g n X Y) (k : ∀ i, i < n → X i = X' i ∧ Y i = Y' i) : MkD base W g n X' Y' :=
  ⟨h.b, h.lt, h.f, fun i hi => by rw [← (k i hi).1, ← (k i hi).2]; exact h.c i hi⟩
theorem MkD.setX {base : Nat} {W : World} {g n : Nat} {X Y : Nat → Int} (h : MkD base W g n X Y) {k : Nat} (hk : k < n) (x : Int) : MkD base (W.setCell ⟨g, k * 2, none⟩ (.int .i64 x)) g n (fun i => if i = k then x else X i) Y :=
  ⟨h.b, by rw [set_size]; exact h.lt, fun j => (World.frozen?_setCell _ _ _ _).trans (h.f j), fun i hi => by
    constructor
    · by_cases e : i = k
      · subst e; rw [if_pos rfl]; exact World.cell?_setCell_same _ _ _ (h.c i hi).1
      · rw [if_neg e]; exact (World.cell?_setCell_other _ _ _ _ (fun q => e (by have := congrArg Addr.off q; simp at this; omega))).trans (h.c i hi).1
    · exact (World.cell?_setCell_other _ _ _ _ (fun q => by have := congrArg Addr.off q; simp at this; omega)).trans (h.c i hi).2⟩
theorem MkD.setY {base : Nat} {W : World} {g n : Nat} {X Y : Nat → Int} (h : MkD base W g n X Y) {k : Nat} (hk : k < n) (x : Int) : MkD base (W.setCell ⟨g, k * 2 + 1, none⟩ (.int .i64 x)) g n X (fun i => if i = k then x else Y i) :=
  ⟨h.b, by rw [set_size]; exact h.lt, fun j => (World.frozen?_setCell _ _ _ _).trans (h.f j), fun i hi => by
    constructor
    · exact (World.cell?_setCell_other _ _ _ _ (fun q => by have := congrArg Addr.off q; simp at this; omega)).trans (h.c i hi).1
    · by_cases e : i = k
      · subst e; rw [if_pos rfl]; exact World.cell?_setCell_same _ _ _ (h.c i hi).2
      · rw [if_neg e]; exact (World.cell?_setCell_other _ _ _ _ (fun q => e (by have := congrArg Addr.off q; simp at this; omega))).trans (h.c i hi).2⟩
theorem MkD.dots {base : Nat} {W : World} {g n : Nat} {X Y : Nat → Int} (h : MkD base W g n X Y) (hn : n ≤ maxLen) (wf : ∀ i, i < n → (Lit.int .i64 (X i)).wf = true ∧ (Lit.int .i64 (Y i)).wf = true) : Dots W (some ⟨g, 0, none⟩) n n X Y :=
  ⟨hn, Nat.le_refl _, wf, fun _ => ⟨g, 0, rfl, h.lt, fun i hi => by rw [Nat.zero_add]; exact h.c i hi⟩⟩
/-- the first k of v, behind them zeros -/
def firstK (v : Nat → Int) (k i : Nat) : Int := if i < k then v i else 0
theorem firstK_succ (v : Nat → Int) (k i : Nat) : (if i = k then v k else firstK v k i) = firstK v (k + 1) i := by
  unfold firstK
  by_cases e : i = k
  · subst e; rw [if_pos rfl, if_pos (by omega)]
  · rw [if_neg e]
    by_cases l : i < k
    · rw [if_pos l, if_pos (by omega)]
    · rw [if_neg l, if_neg (by omega)]
theorem made_cells (n : Nat) : ∀ j, j < n * 2 → (madeCells (Value.agg #[.int .i64 0, .int .i64 0]).cells (n * 2)).toList[j]? = some (.int .i64 0) := by
  intro j hj
  have h2 : (Value.agg #[.int .i64 0, .int .i64 0]).cells = #[.int .i64 0, .int .i64 0] := rfl
  rw [h2]
  unfold madeCells
  rw [Array.toList_map, List.getElem?_map, Array.toList_range, List.getElem?_range hj]
  have : j % 2 = 0 ∨ j % 2 = 1 := by omega
  rcases this with e | e <;> simp [e] <;> omega
theorem MkD.new {W : World} {base g n : Nat} {e : TypeId} {cs : List Value} (h : W.ownsRow base e 2 (.slice (some ⟨g, 0, none⟩) n n) n cs) (hc : ∀ j, j < n * 2 → cs[j]? = some (.int .i64 0)) : MkD base W g n (firstK (fun _ => 0) 0) (firstK (fun _ => 0) 0) := by
  have hcs := h.cells (g := g) rfl
  obtain ⟨_, ⟨c, _⟩ | ⟨g2, cap, cur, hv, hb, hg, hn, hm, hs, ht⟩⟩ := h
  · cases c
  · cases hv
    have hlt : g < W.heap.size := by
      rcases Nat.lt_or_ge g W.heap.size with l | l
      · exact l
      · rw [Array.getElem?_eq_none l] at hg; cases hg
    have a0 : ∀ j, (⟨g, 0, none⟩ : Addr).add j = ⟨g, j, none⟩ := fun j => by unfold Addr.add; split <;> simp_all
    refine ⟨hb, hlt, fun j => ?_, fun i hi => ?_⟩
    · unfold World.frozen?; rw [hg]; simp
    · have k0 := hcs _ _ (hc (i * 2) (by omega))
      have k1 := hcs _ _ (hc (i * 2 + 1) (by omega))
      rw [a0] at k0 k1
      have z : firstK (fun _ => 0) 0 i = 0 := by unfold firstK; split <;> rfl
      rw [z]
      exact ⟨k0, k1⟩
/-- the cells that a point of a row is made of -/
def RoS (m bx ox br orr k : Nat) (sx : Value) (x v : Int) (W : World) : Prop :=
  W.cell? ⟨m, 0, none⟩ = some sx ∧ W.cell? ⟨bx, ox + k, none⟩ = some (.int .i64 x) ∧ W.cell? ⟨br, orr + k, none⟩ = some (.int .i64 v)
theorem RoS.keep {m bx ox br orr k : Nat} {sx : Value} {x v : Int} {W W' : World} {C : Nat} (h : Below C W W') (h1 : m < C ∧ bx < C ∧ br < C) (S : RoS m bx ox br orr k sx x v W) : RoS m bx ox br orr k sx x v W' :=
  ⟨(h.cell (p := ⟨m, 0, none⟩) h1.1).trans S.1, (h.cell (p := ⟨bx, _, none⟩) h1.2.1).trans S.2.1, (h.cell (p := ⟨br, _, none⟩) h1.2.2).trans S.2.2⟩
end Go.Proofs.Ytbpmbdnhfkfkhaa
