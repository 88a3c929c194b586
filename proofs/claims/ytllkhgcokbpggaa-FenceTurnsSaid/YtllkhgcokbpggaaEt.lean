/- The program's field: New, Cells, Side; a nil field. -/
import Derived.Test.YtllkhgcokbpggaaE8
import Derived.Test.YtllkhgcokbpggaaBu
namespace Go.Proofs.Ytllkhgcokbpggaa
open Go.RowKit
set_option linter.unusedVariables false
set_option linter.unusedSimpArgs false

/-- a copy of the call's own: still there, and what it holds -/
structure CpN (base : Nat) (W : World) (g n : Nat) (v : Nat → Int) : Prop where
  b : base ≤ g
  lt : g < W.heap.size
  c : ∀ i, i < n → W.cell? ⟨g, i, none⟩ = some (.int .i64 (v i))
theorem CpN.step {base : Nat} {W W' : World} {g n : Nat} {v : Nat → Int} (k : CpN base W g n v) (h : Below W.heap.size W W') : CpN base W' g n v :=
  ⟨k.b, by have := k.lt; have := h.size; omega, fun i hi => (h.cell (p := ⟨g, i, none⟩) k.lt).trans (k.c i hi)⟩
theorem CpN.mono {base base' : Nat} {W : World} {g n : Nat} {v : Nat → Int} (k : CpN base W g n v) (h : base' ≤ base) : CpN base' W g n v := ⟨by have := k.b; omega, k.lt, k.c⟩
/-- the field's list of right ground is not empty -/
theorem right_pos {t : Trk} (h : cntP t) : 0 < t.H.n ∧ 0 < t.G.n ∧ t.H.n ≤ 4225 ∧ t.G.n ≤ 4225 := by
  obtain ⟨⟨m1, m2⟩, hn, hg, -, -⟩ := h
  have g4 := mul_64 (a := t.cols) (b := t.rows) (by omega) (by omega) (by omega) (by omega)
  have h4 := mul_64 (a := t.cols + 1) (b := t.rows + 1) (by omega) (by omega) (by omega) (by omega)
  omega
theorem field_new {w w5 : World} {B lo hb gb hc gc : Nat} {t : Trk} (Q : PT w w5 B w.heap.size t) (L : lo ≤ w.heap.size) (h : CpN w.heap.size w5 hb t.H.n t.H.v) (g : CpN w.heap.size w5 gb t.G.n t.G.v) (r : cntP t ∧ frP t) (T : TypeId) :
    FX lo (w5.alloc (.cells #[.int .i64 t.cell, .int .i64 t.cols, .int .i64 t.rows, .int .i64 t.cx, .int .i64 t.cy, .slice (some ⟨hb, 0, none⟩) t.H.n hc, .slice (some ⟨gb, 0, none⟩) t.G.n gc] T)).heap.size (w5.alloc (.cells #[.int .i64 t.cell, .int .i64 t.cols, .int .i64 t.rows, .int .i64 t.cx, .int .i64 t.cy, .slice (some ⟨hb, 0, none⟩) t.H.n hc, .slice (some ⟨gb, 0, none⟩) t.G.n gc] T)) w5.heap.size hb gb hc gc t := by
  have hl := h.lt
  have gl := g.lt
  have hs := h.b
  have gs := g.b
  have ql := Q.l.size
  have k1 := h.step ((Below.refl w5.heap.size w5).alloc (Nat.le_refl _) (.cells #[.int .i64 t.cell, .int .i64 t.cols, .int .i64 t.rows, .int .i64 t.cx, .int .i64 t.cy, .slice (some ⟨hb, 0, none⟩) t.H.n hc, .slice (some ⟨gb, 0, none⟩) t.G.n gc] T))
  have k2 := g.step ((Below.refl w5.heap.size w5).alloc (Nat.le_refl _) (.cells #[.int .i64 t.cell, .int .i64 t.cols, .int .i64 t.rows, .int .i64 t.cx, .int .i64 t.cy, .slice (some ⟨hb, 0, none⟩) t.H.n hc, .slice (some ⟨gb, 0, none⟩) t.G.n gc] T))
  exact ⟨BW.new w5 _ [_, _, _, _, _, _, _] T rfl, ⟨by omega, by simp, Nat.le_refl _⟩, ⟨by omega, by simp; omega⟩, ⟨by omega, by simp; omega⟩, k1.c, k2.c, r⟩
end Go.Proofs.Ytllkhgcokbpggaa
