/- Panes in memory; what lists made by append read as. -/
import Derived.Test.YtjdhjabbojceeaaPa
import Derived.Test.YtjdhjabbojceeaaOe
import Derived.Deep.AppendLies
namespace Go.Proofs.Ytjdhjabbojceeaa
open Go.RowKit
set_option linter.unusedVariables false
set_option linter.unusedSimpArgs false

/-- a slice of numbers, among the blocks below B -/
structure Nums (B : Nat) (w : World) (s : Sl) : Prop where
  hm : s.c ≤ maxLen
  hl : s.n ≤ s.c
  wf : ∀ i, i < s.n → (Lit.int .i64 (s.v i)).wf = true
  at' : 0 < s.n → ∃ b off, s.a = some ⟨b, off, none⟩ ∧ b < B ∧ ∀ i, i < s.n → w.cell? ⟨b, off + i, none⟩ = some (.int .i64 (s.v i))
/-- a pane, among the blocks below B -/
structure Pan (B : Nat) (w : World) (p : Pn) : Prop where
  x : Nums B w p.x
  y : Nums B w p.y
  hm : p.c ≤ maxLen
  hl : p.n ≤ p.c
  at' : 0 < p.n → ∃ b off, p.a = some ⟨b, off, none⟩ ∧ b < B ∧ ∀ i, i < p.n → w.cell? ⟨b, off + i, none⟩ = some (.slice (p.r i).a (p.r i).n (p.r i).c)
  r : ∀ i, i < p.n → Nums B w (p.r i)
theorem Nums.keep {B C : Nat} {w w' : World} {s : Sl} (k : Nums B w s) (h : Below C w w') (hB : B ≤ C) : Nums B w' s :=
  ⟨k.hm, k.hl, k.wf, fun h0 => by
    obtain ⟨b, off, e, hb, hc⟩ := k.at' h0
    exact ⟨b, off, e, hb, fun i hi => (h.cell (p := ⟨b, _, none⟩) (by show b < C; omega)).trans (hc i hi)⟩⟩
theorem Pan.keep {B C : Nat} {w w' : World} {p : Pn} (k : Pan B w p) (h : Below C w w') (hB : B ≤ C) : Pan B w' p :=
  ⟨k.x.keep h hB, k.y.keep h hB, k.hm, k.hl, fun h0 => by
    obtain ⟨b, off, e, hb, hc⟩ := k.at' h0
    exact ⟨b, off, e, hb, fun i hi => (h.cell (p := ⟨b, _, none⟩) (by show b < C; omega)).trans (hc i hi)⟩, fun i hi => (k.r i hi).keep h hB⟩
theorem Pan.fx {B b k : Nat} {q : Bool} {W W' : World} {p : Pn} (K : Pan B W p) (h : FxW W.heap.size W b k q W') (hB : B ≤ b) (hW : B ≤ W.heap.size) : Pan B W' p :=
  K.keep (h.below hW hB) (Nat.le_refl _)
/-- few of all -/
def fewP (p : Pn) : Prop := p.x.n ≤ 40 ∧ p.y.n ≤ 40 ∧ p.n ≤ 40 ∧ ∀ i, i < p.n → (p.r i).n ≤ 40
/-- points one behind the other, as values -/
def dotL (X Y : Nat → Int) : Nat → List Value
  | 0 => []
  | n + 1 => dotL X Y n ++ [.int .i64 (X n), .int .i64 (Y n)]
theorem dotL_len (X Y : Nat → Int) : ∀ n, (dotL X Y n).length = n * 2
  | 0 => rfl
  | n + 1 => by show (dotL X Y n ++ _).length = _; rw [List.length_append, dotL_len X Y n]; simp; omega
theorem dotL_at (X Y : Nat → Int) : ∀ n i, i < n → (dotL X Y n)[i * 2]? = some (.int .i64 (X i)) ∧ (dotL X Y n)[i * 2 + 1]? = some (.int .i64 (Y i))
  | 0, i, h => absurd h (by omega)
  | n + 1, i, h => by
    show (dotL X Y n ++ _)[i * 2]? = _ ∧ (dotL X Y n ++ _)[i * 2 + 1]? = _
    rcases Nat.lt_or_ge i n with l | l
    · have := dotL_len X Y n
      rw [List.getElem?_append_left (by omega), List.getElem?_append_left (by omega)]
      exact dotL_at X Y n i l
    · have e : i = n := by omega
      subst e
      have := dotL_len X Y i
      rw [List.getElem?_append_right (by omega), List.getElem?_append_right (by omega), this]
      rw [show i * 2 - i * 2 = 0 by omega, show i * 2 + 1 - i * 2 = 1 by omega]
      exact ⟨rfl, rfl⟩
theorem dotL_congr {X Y X' Y' : Nat → Int} : ∀ n, (∀ i, i < n → X i = X' i ∧ Y i = Y' i) → dotL X Y n = dotL X' Y' n
  | 0, _ => rfl
  | n + 1, h => by
    show dotL X Y n ++ _ = dotL X' Y' n ++ _
    rw [dotL_congr n (fun i hi => h i (by omega)), (h n (by omega)).1, (h n (by omega)).2]
/-- a list of points made by append reads as those points -/
theorem owned_dots {w : World} {base : Nat} {e : TypeId} {v : Value} {n : Nat} {X Y : Nat → Int} (h : w.ownsRow base e 2 v n (dotL X Y n)) (wf : ∀ i, i < n → (Lit.int .i64 (X i)).wf = true ∧ (Lit.int .i64 (Y i)).wf = true) :
    ∃ a c, v = .slice a n c ∧ Dots w a n c X Y ∧ ∀ p, a = some p → base ≤ p.block := by
  have hc := fun {g : Nat} (hg : v.ownBlock = some g) => h.cells hg
  obtain ⟨_, ⟨rfl, rfl⟩ | ⟨g, cap, cur, rfl, hb, hg, hn, hm, hs, ht⟩⟩ := h
  · exact ⟨none, 0, rfl, ⟨by unfold maxLen; omega, by omega, wf, fun h => absurd h (by omega)⟩, fun p e => by cases e⟩
  · refine ⟨_, cap, rfl, ⟨hm, hn, wf, fun h0 => ⟨g, 0, rfl, ?_, fun i hi => ?_⟩⟩, fun p e => by cases e; exact hb⟩
    · rcases Nat.lt_or_ge g w.heap.size with l | l
      · exact l
      · rw [Array.getElem?_eq_none l] at hg; cases hg
    · obtain ⟨d0, d1⟩ := dotL_at X Y n i hi
      have k0 := hc (g := g) rfl _ _ d0
      have k1 := hc (g := g) rfl _ _ d1
      have a0 : (⟨g, 0, none⟩ : Addr).add (i * 2) = ⟨g, 0 + i * 2, none⟩ := by simp [Addr.add]; omega
      have a1 : (⟨g, 0, none⟩ : Addr).add (i * 2 + 1) = ⟨g, 0 + i * 2 + 1, none⟩ := by simp [Addr.add]
      rw [a0] at k0
      rw [a1] at k1
      exact ⟨k0, k1⟩
theorem wf_in {n : Int} (h : In64 n) : (Lit.int .i64 n).wf = true := by
  unfold In64 at h
  simp [Lit.wf, IntKind.min, IntKind.max, IntKind.signed, IntKind.bits]
  omega
theorem wf_inT {n : Int} (h : inT n) : (Lit.int .i64 n).wf = true := wf_in (by unfold inT at h; unfold In64; omega)
theorem below_grown {w w' : World} (h : Below w.heap.size w w') (row : Option Nat) : w.grownBy w' row := ⟨h.os, h.tape, h.output, h.size, fun k hk _ => h.block k hk⟩
theorem fx_grown {W W' : World} {b k : Nat} {q : Bool} (h : FxW W.heap.size W b k q W') : W.grownBy W' (some b) :=
  ⟨h.os, h.tape, h.output, by have := h.size; exact this, fun g hg e => (h.block g hg).trans (Below.heap_setCell W ⟨b, k, none⟩ _ g (fun c => e (by rw [c])))⟩
theorem own_below {w w' : World} {base : Nat} {e : TypeId} {size : Nat} {v : Value} {n : Nat} {xs : List Value} (h : w.ownsRow base e size v n xs) (hb : Below w.heap.size w w') : w'.ownsRow base e size v n xs :=
  h.kept (below_grown hb none) (by cases v.ownBlock with | none => exact Or.inl rfl | some g => exact Or.inr (by simp))
theorem own_fx {w w' : World} {base : Nat} {e : TypeId} {size : Nat} {v : Value} {n : Nat} {xs : List Value} {b k : Nat} {q : Bool} (h : w.ownsRow base e size v n xs) (hf : FxW w.heap.size w b k q w') (hb : b < base) : w'.ownsRow base e size v n xs :=
  h.kept (fx_grown hf) (Or.inr (fun c => by have := (h.lt b c).1; omega))
def Sl.off (s : Sl) (b : Nat) : Prop := 0 < s.n → ∀ q, s.a = some q → q.block ≠ b
theorem Nums.off {B : Nat} {w : World} {s : Sl} (k : Nums B w s) {b : Nat} (h : B ≤ b) : s.off b := fun h0 q e => by
  obtain ⟨n, o, e2, hb, _⟩ := k.at' h0
  rw [e2] at e; cases e; show n ≠ b; omega
theorem Nums.fxo {B b k : Nat} {q : Bool} {W W' : World} {s : Sl} (K : Nums B W s) (h : FxW W.heap.size W b k q W') (hB : B ≤ W.heap.size) (ho : s.off b) : Nums B W' s :=
  ⟨K.hm, K.hl, K.wf, fun h0 => by
    obtain ⟨n, off, e, hb, hc⟩ := K.at' h0
    exact ⟨n, off, e, hb, fun i hi => (h.cell (by show n < W.heap.size; omega) (fun c => ho h0 _ e c.symm)).trans (hc i hi)⟩⟩
end Go.Proofs.Ytjdhjabbojceeaa
