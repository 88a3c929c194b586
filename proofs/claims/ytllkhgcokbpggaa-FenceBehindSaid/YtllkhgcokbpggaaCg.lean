/- The contract of the document's Right of tracks. -/
import Derived.Test.YtllkhgcokbpggaaBo
import Derived.Test.YtllkhgcokbpggaaBi
namespace Go.Proofs.Ytllkhgcokbpggaa
open Go.RowKit
set_option linter.unusedVariables false
set_option linter.unusedSimpArgs false

/-- how far behind bar j the start is -/
noncomputable def behN (k : Tk) (j : Nat) : Int := beyondN ⟨(barG k j).ax, (barG k j).ay⟩ ⟨(barG k j).bx, (barG k j).by'⟩ ⟨k.t.sx, k.t.sy⟩
def behP (k : Tk) (j : Nat) : Prop := 0 < behN k j ∧ behN k j < 17179869184
noncomputable instance (k : Tk) (j : Nat) : Decidable (behP k j) := by unfold behP; exact inferInstance
def rectP (t : Trk) : Prop := (t.cx ≤ t.sx ∧ t.sx ≤ t.cx + t.cols * t.cell) ∧ t.cy ≤ t.sy ∧ t.sy ≤ t.cy + t.rows * t.cell
instance (t : Trk) : Decidable (rectP t) := by unfold rectP; exact inferInstance
/-- what is wrong first with a track, and where -/
noncomputable def rgtK (k : Tk) : Int × Int :=
  if k.t.rate < 60 ∨ 1024 < k.t.rate then (40, 0)
  else if rightFd k.t ≠ 0 then (rightFd k.t, 0)
  else if lineR k.line.n k.line.x k.line.y ≠ 0 then (lineR k.line.n k.line.x k.line.y, 0)
  else if ¬ hlfN k.line.n k.line.x k.line.y then (40, 0)
  else if (waysE k).1 ≠ 0 then waysE k
  else if ¬ rectP k.t then (40, 0)
  else if ¬ (∀ j, j < barN k k.t.rn → ¬ behP k j) then (43, 0)
  else if k.t.laps < 1 ∨ 100 < k.t.laps then (40, 0)
  else (0, 0)
/-- the cells of a track's copy -/
def TKc (n : Nat) (t : Trk) (W : World) : Prop :=
  W.cell? ⟨n, 0, none⟩ = some (.int .i64 t.rate) ∧ W.cell? ⟨n, 1, none⟩ = some (.int .i64 t.cell) ∧ W.cell? ⟨n, 2, none⟩ = some (.int .i64 t.cols) ∧ W.cell? ⟨n, 3, none⟩ = some (.int .i64 t.rows) ∧ W.cell? ⟨n, 4, none⟩ = some (.int .i64 t.cx) ∧ W.cell? ⟨n, 5, none⟩ = some (.int .i64 t.cy) ∧ W.cell? ⟨n, 6, none⟩ = some (.slice t.H.a t.H.n t.H.c) ∧ W.cell? ⟨n, 7, none⟩ = some (.slice t.G.a t.G.n t.G.c) ∧ W.cell? ⟨n, 8, none⟩ = some (.slice t.ka t.kn t.kc) ∧ W.cell? ⟨n, 9, none⟩ = some (.slice t.la t.ln t.lc) ∧ W.cell? ⟨n, 10, none⟩ = some (.slice t.ra t.rn t.rc) ∧ W.cell? ⟨n, 11, none⟩ = some (.slice t.ga t.gn t.gc) ∧ W.cell? ⟨n, 12, none⟩ = some (.int .i64 t.sx) ∧ W.cell? ⟨n, 13, none⟩ = some (.int .i64 t.sy) ∧ W.cell? ⟨n, 14, none⟩ = some (.int .u32 t.head) ∧ W.cell? ⟨n, 15, none⟩ = some (.int .i64 t.laps)
theorem tk_of {W : World} {n : Nat} {t : Trk} (c : BW W n (trkL t)) : TKc n t W :=
  ⟨c.c 0 _ rfl, c.c 1 _ rfl, c.c 2 _ rfl, c.c 3 _ rfl, c.c 4 _ rfl, c.c 5 _ rfl, c.c 6 _ rfl, c.c 7 _ rfl, c.c 8 _ rfl, c.c 9 _ rfl, c.c 10 _ rfl, c.c 11 _ rfl, c.c 12 _ rfl, c.c 13 _ rfl, c.c 14 _ rfl, c.c 15 _ rfl⟩
/-- the cells that a bar and the start are read from -/
def BhS (m bb o : Nat) (sx sy ax ay bx by' : Int) (W : World) : Prop :=
  (W.cell? ⟨m, 12, none⟩ = some (.int .i64 sx) ∧ W.cell? ⟨m, 13, none⟩ = some (.int .i64 sy)) ∧ (W.cell? ⟨bb, o, none⟩ = some (.int .i64 ax) ∧ W.cell? ⟨bb, o + 1, none⟩ = some (.int .i64 ay)) ∧ W.cell? ⟨bb, o + 2, none⟩ = some (.int .i64 bx) ∧ W.cell? ⟨bb, o + 3, none⟩ = some (.int .i64 by')
theorem BhS.keep {m bb o C : Nat} {sx sy ax ay bx by' : Int} {W W' : World} (h : Below C W W') (e : m < C ∧ bb < C) (S : BhS m bb o sx sy ax ay bx by' W) : BhS m bb o sx sy ax ay bx by' W' :=
  ⟨⟨(h.cell (p := ⟨m, _, none⟩) e.1).trans S.1.1, (h.cell (p := ⟨m, _, none⟩) e.1).trans S.1.2⟩, ⟨(h.cell (p := ⟨bb, _, none⟩) e.2).trans S.2.1.1, (h.cell (p := ⟨bb, _, none⟩) e.2).trans S.2.1.2⟩, (h.cell (p := ⟨bb, _, none⟩) e.2).trans S.2.2.1, (h.cell (p := ⟨bb, _, none⟩) e.2).trans S.2.2.2⟩
theorem right_two {t : Trk} (h : rightFd t = 0) : cntP t ∧ frP t := by
  unfold rightFd at h
  split at h
  · rename_i c
    split at h
    · rename_i a; exact ⟨c, a.1⟩
    · omega
  · omega
theorem rect_fit {t : Trk} (h : rightFd t = 0) : (0 ≤ t.cols * t.cell ∧ t.cols * t.cell ≤ 17592186044416) ∧ (0 ≤ t.rows * t.cell ∧ t.rows * t.cell ≤ 17592186044416) ∧ (-140737488355328 ≤ t.cx ∧ t.cx ≤ 140737488355328) ∧ -140737488355328 ≤ t.cy ∧ t.cy ≤ 140737488355328 := by
  obtain ⟨⟨⟨m1, m2⟩, -⟩, f1, f2, f3, -⟩ := right_two h
  have p1 := Int.mul_le_mul (show t.cols ≤ 64 by omega) f1.2 (show 0 ≤ t.cell by omega) (show (0 : Int) ≤ 64 by omega)
  have p2 := Int.mul_le_mul (show t.rows ≤ 64 by omega) f1.2 (show 0 ≤ t.cell by omega) (show (0 : Int) ≤ 64 by omega)
  have q1 := Int.mul_nonneg (show 0 ≤ t.cols by omega) (show 0 ≤ t.cell by omega)
  have q2 := Int.mul_nonneg (show 0 ≤ t.rows by omega) (show 0 ≤ t.cell by omega)
  exact ⟨⟨q1, by omega⟩, ⟨q2, by omega⟩, f2, f3⟩
end Go.Proofs.Ytllkhgcokbpggaa
