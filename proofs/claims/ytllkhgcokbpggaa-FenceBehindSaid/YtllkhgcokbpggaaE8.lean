/- The program's field: all of a track within its bounds. -/
import Derived.Test.YtllkhgcokbpggaaBu
import Derived.Test.YtllkhgcokbpggaaBk
import Derived.Test.YtllkhgcokbpggaaBj
namespace Go.Proofs.Ytllkhgcokbpggaa
open Go.RowKit
set_option linter.unusedVariables false
set_option linter.unusedSimpArgs false

/-- the cells of a track's copy -/
def TKe (n : Nat) (t : Trk) (W : World) : Prop :=
  W.cell? ⟨n, 0, none⟩ = some (.int .i64 t.rate) ∧ W.cell? ⟨n, 1, none⟩ = some (.int .i64 t.cell) ∧ W.cell? ⟨n, 2, none⟩ = some (.int .i64 t.cols) ∧ W.cell? ⟨n, 3, none⟩ = some (.int .i64 t.rows) ∧ W.cell? ⟨n, 4, none⟩ = some (.int .i64 t.cx) ∧ W.cell? ⟨n, 5, none⟩ = some (.int .i64 t.cy) ∧ W.cell? ⟨n, 6, none⟩ = some (.slice t.H.a t.H.n t.H.c) ∧ W.cell? ⟨n, 7, none⟩ = some (.slice t.G.a t.G.n t.G.c) ∧ W.cell? ⟨n, 8, none⟩ = some (.slice t.ka t.kn t.kc) ∧ W.cell? ⟨n, 9, none⟩ = some (.slice t.la t.ln t.lc) ∧ W.cell? ⟨n, 10, none⟩ = some (.slice t.ra t.rn t.rc) ∧ W.cell? ⟨n, 11, none⟩ = some (.slice t.ga t.gn t.gc) ∧ W.cell? ⟨n, 12, none⟩ = some (.int .i64 t.sx) ∧ W.cell? ⟨n, 13, none⟩ = some (.int .i64 t.sy) ∧ W.cell? ⟨n, 14, none⟩ = some (.int .u32 t.head) ∧ W.cell? ⟨n, 15, none⟩ = some (.int .i64 t.laps)
theorem PT.ke {w W : World} {B m : Nat} {t : Trk} (Q : PT w W B m t) : TKe m t W := Q.all
theorem lie_new1 (W : World) (x : Int) (T : TypeId) : Lie (W.alloc (.cells #[.int .i64 x] T)) (some ⟨W.heap.size, 0, none⟩) 1 (fun _ => x) := Lie.one (World.cell?_alloc_new _ _ _ 0) (by simp)
theorem lie_new2 (W : World) (x y : Int) (T : TypeId) : Lie (W.alloc (.cells #[.int .i64 x, .int .i64 y] T)) (some ⟨W.heap.size, 0, none⟩) 2 (fun i => if i = 0 then x else y) := Lie.two (World.cell?_alloc_new _ _ _ 0) (World.cell?_alloc_new _ _ _ 1) (by simp)
theorem lie_nums {B : Nat} {W : World} {s : Sl} (N : Nums B W s) (h : B ≤ W.heap.size) : Lie W s.a s.n s.v := fun h0 => by
  obtain ⟨b, off, e, hb, hc⟩ := N.at' h0
  exact ⟨b, off, e, by omega, hc⟩
end Go.Proofs.Ytllkhgcokbpggaa
