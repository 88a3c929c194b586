/- Contracts of package fx: what becomes of a receiver; beyond. -/
import Derived.Test.YtllkhgcokbpggaaBv
import Derived.Test.YtllkhgcokbpggaaBw
import Derived.Test.YtllkhgcokbpggaaBn
import Derived.Deep.RegionHeld3
import Derived.Deep.RegionWith
namespace Go.Proofs.Ytllkhgcokbpggaa
open Go.RowKit

/-- a receiver's flag lies at a place, and may be written -/
structure MAt (w : World) (b k : Nat) (o : Bool) : Prop where
  c : w.cell? ⟨b, k, none⟩ = some (.bool o)
  f : w.frozen? ⟨b, k, none⟩ = false
  lt : b < w.heap.size
/-- below B the world is as it was, but that the flag there is o -/
def FxW (B : Nat) (w : World) (b k : Nat) (o : Bool) (w' : World) : Prop := Below B (w.setCell ⟨b, k, none⟩ (.bool o)) w'

theorem set_size (w : World) (a : Addr) (v : Value) : (w.setCell a v).heap.size = w.heap.size := by simp [World.setCell]
theorem setIf_self {c : Array Value} {k : Nat} {v : Value} (hc : c[k]? = some v) : c.setIfInBounds k v = c := by
  apply Array.ext_getElem?
  intro j
  rw [Array.getElem?_setIfInBounds]
  by_cases e : k = j
  · subst e
    rw [if_pos rfl]
    by_cases hk : k < c.size
    · rw [if_pos hk, hc]
    · rw [if_neg hk]; simp; omega
  · rw [if_neg e]
theorem FxW.refl {w : World} {b k : Nat} {o : Bool} (h : MAt w b k o) : FxW w.heap.size w b k o w := by
  unfold FxW
  have e : w.setCell ⟨b, k, none⟩ (.bool o) = w := by
    have hc := h.c
    unfold World.cell? at hc
    unfold World.setCell
    congr 1
    apply Array.ext_getElem?
    intro j
    rw [Array.getElem?_modify]
    by_cases ej : b = j
    · subst ej
      rw [if_pos rfl]
      cases hh : w.heap[b]? with
      | none => rfl
      | some ob =>
        simp only [hh] at hc
        cases ob with
        | cells c t f =>
          simp at hc
          simp [setIf_self hc]
        | _ => rfl
    · rw [if_neg ej]
  rw [e]; exact Below.refl _ _
theorem set_set (w : World) (b k : Nat) (u v : Value) : (w.setCell ⟨b, k, none⟩ u).setCell ⟨b, k, none⟩ v = w.setCell ⟨b, k, none⟩ v := by
  unfold World.setCell
  congr 1
  apply Array.ext_getElem?
  intro j
  simp only [Array.getElem?_modify]
  by_cases ej : b = j
  · subst ej
    rw [if_pos rfl, if_pos rfl, if_pos rfl]
    cases w.heap[b]? with
    | none => rfl
    | some ob => cases ob <;> simp
  · rw [if_neg ej, if_neg ej, if_neg ej]
theorem below_set {B : Nat} {w w' : World} (h : Below B w w') (a : Addr) (v : Value) : Below B (w.setCell a v) (w'.setCell a v) := by
  refine ⟨h.os, h.tape, h.output, ?_, fun j hj => ?_⟩
  · rw [set_size, set_size]; exact h.size
  · unfold World.setCell
    simp only [Array.getElem?_modify]
    by_cases e : a.block = j
    · subst e; rw [if_pos rfl, if_pos rfl, h.block _ hj]
    · rw [if_neg e, if_neg e]; exact h.block j hj
theorem FxW.trans {B : Nat} {w w1 w2 : World} {b k : Nat} {o p : Bool} (h : FxW B w b k o w1) (g : FxW B w1 b k p w2) : FxW B w b k p w2 := by
  have := below_set h ⟨b, k, none⟩ (.bool p)
  rw [set_set] at this
  exact this.trans g
theorem FxW.mono {B C : Nat} {w w' : World} {b k : Nat} {o : Bool} (h : FxW B w b k o w') (hB : C ≤ B) : FxW C w b k o w' := Below.mono h hB
theorem FxW.size {B : Nat} {w w' : World} {b k : Nat} {o : Bool} (h : FxW B w b k o w') : w.heap.size ≤ w'.heap.size := by
  have := Below.size h; rw [set_size] at this; exact this
theorem FxW.at {B : Nat} {w w' : World} {b k : Nat} {o p : Bool} (m : MAt w b k p) (h : FxW B w b k o w') (hb : b < B) : MAt w' b k o :=
  ⟨(Below.cell h (p := ⟨b, k, none⟩) hb).trans (World.cell?_setCell_same _ _ _ m.c), (Below.frozen h (p := ⟨b, k, none⟩) hb).trans ((World.frozen?_setCell _ _ _ _).trans m.f), by have := h.size; have := m.lt; omega⟩
/-- whatever lies elsewhere reads as it did -/
theorem FxW.cell {B : Nat} {w w' : World} {b k : Nat} {o : Bool} (h : FxW B w b k o w') {n j : Nat} (hn : n < B) (e : b ≠ n) : w'.cell? ⟨n, j, none⟩ = w.cell? ⟨n, j, none⟩ :=
  (Below.cell h (p := ⟨n, j, none⟩) hn).trans (World.cell?_setCell_other _ _ _ _ (fun e' => e (congrArg Addr.block e')))
theorem FxW.frozen {B : Nat} {w w' : World} {b k : Nat} {o : Bool} (h : FxW B w b k o w') {n j : Nat} (hn : n < B) : w'.frozen? ⟨n, j, none⟩ = w.frozen? ⟨n, j, none⟩ :=
  (Below.frozen h (p := ⟨n, j, none⟩) hn).trans (World.frozen?_setCell _ _ _ _)
theorem FxW.far {B : Nat} {w w' : World} {b k n j : Nat} {o p : Bool} (m : MAt w n j p) (h : FxW B w b k o w') (hn : n < B) (e : b ≠ n) : MAt w' n j p :=
  ⟨(h.cell hn e).trans m.c, (h.frozen hn).trans m.f, by have := h.size; have := m.lt; omega⟩
theorem FxW.below {B C : Nat} {w w' : World} {b k : Nat} {o : Bool} (h : FxW B w b k o w') (hC : C ≤ B) (hb : C ≤ b) : Below C w w' :=
  ((Below.refl C w).setCell (p := ⟨b, k, none⟩) hb _).trans (Below.mono h hC)
/-- a call of its own blocks ahead of one that writes the flag -/
theorem FxW.behind {B C : Nat} {w w1 w2 : World} {b k : Nat} {o : Bool} (h : Below B w w1) (g : FxW C w1 b k o w2) (hC : B ≤ C) : FxW B w b k o w2 :=
  (below_set h _ _).trans (Below.mono g hC)
theorem FxW.then {B C : Nat} {w w1 w2 : World} {b k : Nat} {o : Bool} (h : FxW B w b k o w1) (g : Below C w1 w2) (hC : B ≤ C) : FxW B w b k o w2 :=
  Below.trans h (g.mono hC)
theorem MAt.below {B : Nat} {w w' : World} {b k : Nat} {o : Bool} (m : MAt w b k o) (h : Below B w w') (hb : b < B) : MAt w' b k o :=
  ⟨(h.cell (p := ⟨b, k, none⟩) hb).trans m.c, (h.frozen (p := ⟨b, k, none⟩) hb).trans m.f, by have := h.size; have := m.lt; omega⟩
theorem MAt.new (w : World) (o : Bool) (t : TypeId) : MAt (w.alloc (.cells #[.bool o] t)) w.heap.size 0 o :=
  ⟨World.cell?_alloc_new w _ t 0, by go_simp, by simp⟩
theorem MAt.alloc {w : World} {b k : Nat} {o : Bool} (m : MAt w b k o) (ob : Obj) : MAt (w.alloc ob) b k o :=
  m.below ((Below.refl w.heap.size w).alloc (Nat.le_refl _) ob) m.lt
theorem MAt.drew {w : World} {b k : Nat} {o : Bool} (m : MAt w b k o) : MAt w.drew b k o := ⟨m.c, m.f, m.lt⟩

end Go.Proofs.Ytllkhgcokbpggaa
namespace Go.Proofs.Ytllkhgcokbpggaa
open Go.RowKit

theorem FxW.put {B : Nat} {w w' : World} {b k : Nat} {o : Bool} (h : Below B w w') : FxW B w b k o (w'.setCell ⟨b, k, none⟩ (.bool o)) := below_set h _ _
end Go.Proofs.Ytllkhgcokbpggaa
namespace Go.Proofs.Ytllkhgcokbpggaa
open Go.RowKit

theorem cmpI_bd (a b : Int) : -1 ≤ cmpI a b ∧ cmpI a b ≤ 1 := by
  unfold cmpI; split <;> (try split) <;> omega
end Go.Proofs.Ytllkhgcokbpggaa
namespace Go.Proofs.Ytllkhgcokbpggaa
open Go.RowKit

theorem add_128 {a b : Int} (a0 : -9223372036854775808 ≤ a) (a1 : a ≤ 9223372036854775807) (b0 : -9223372036854775808 ≤ b) (b1 : b ≤ 9223372036854775807) : In128 (a + b) ∧ In128 (a - b) ∧ In128 a ∧ In128 b ∧ In128 (-b) := by
  unfold In128; omega
theorem mul_128 {a b : Int} (a0 : -9223372036854775808 ≤ a) (a1 : a ≤ 9223372036854775807) (b0 : -9223372036854775808 ≤ b) (b1 : b ≤ 9223372036854775807) : In128 (a * b) := by
  have := mul_bound a0 (by omega) b0 (by omega)
  unfold In128; omega
end Go.Proofs.Ytllkhgcokbpggaa
namespace Go.Proofs.Ytllkhgcokbpggaa
open Go.RowKit

end Go.Proofs.Ytllkhgcokbpggaa
namespace Go.Proofs.Ytllkhgcokbpggaa
open Go.RowKit

def clampF (a l h : Int) : Int := if a < l then l else if h < a then h else a
theorem clampF_in {a l h : Int} (ha : In64 a) (hl : In64 l) (hh : In64 h) : In64 (clampF a l h) := by
  unfold clampF
  by_cases p : a < l
  · rw [if_pos p]; exact hl
  · rw [if_neg p]
    by_cases q : h < a
    · rw [if_pos q]; exact hh
    · rw [if_neg q]; exact ha
/-- what a call by a receiver leaves, laid open for the walk -/
theorem fx_open {w w1 : World} {b k : Nat} {o p : Bool} (m : MAt w b k o) (h : FxW w.heap.size w b k p w1) :
    Hid (MAt w1 b k p) ∧ w1.cell? ⟨b, k, none⟩ = some (.bool p) ∧ w.heap.size ≤ w1.heap.size := ⟨h.at m m.lt, (h.at m m.lt).c, h.size⟩
theorem ev1 : mulF 2147483648 1 = 0 ∧ mulO 2147483648 1 = false := by decide +kernel
theorem ev2 : mulF 6442450944 1 = 2 ∧ mulO 6442450944 1 = false := by decide +kernel
theorem ev3 : divF 4294967296 12884901888 = 1431655765 ∧ divO 4294967296 12884901888 = false := by decide +kernel
theorem ev4 : mulF 4611686018427387904 4611686018427387904 = 9223372036854775807 ∧ mulO 4611686018427387904 4611686018427387904 = true := by decide +kernel
end Go.Proofs.Ytllkhgcokbpggaa
namespace Go.Proofs.Ytllkhgcokbpggaa
open Go.RowKit

end Go.Proofs.Ytllkhgcokbpggaa
