/- A track's copy beside a flag; the contract of the document's Slopes of field. -/
import Derived.Test.YtllkhgcokbpggaaBd
import Derived.Test.YtllkhgcokbpggaaBk
import Derived.Test.YtllkhgcokbpggaaBy
import Derived.Test.YtllkhgcokbpggaaBr
import Derived.Test.YtllkhgcokbpggaaBm
namespace Go.Proofs.Ytllkhgcokbpggaa
open Go.RowKit
set_option linter.unusedVariables false
set_option linter.unusedSimpArgs false

/-- a track that came in, its copy in block m, a flag in block b -/
structure PTF (w W : World) (B m b k : Nat) (o : Bool) (t : Trk) : Prop where
  c : BW W m (trkL t)
  f : Flag w W b k o
  t : TrkM B W t
  z : B ≤ b
  e : b < m
theorem PTF.below {w W W' : World} {B C m b k : Nat} {o : Bool} {t : Trk} (Q : PTF w W B m b k o t) (h : Below C W W') (hm : m < C) (hw : w.heap.size ≤ C) : PTF w W' B m b k o t :=
  ⟨Q.c.below h hm, ⟨Q.f.m.below h (by have := Q.e; omega), Q.f.f.then h hw, Q.f.lt⟩, Q.t.keep h (by have := Q.z; have := Q.e; omega), Q.z, Q.e⟩
theorem PTF.step {w W W' : World} {B m b k : Nat} {o : Bool} {t : Trk} (Q : PTF w W B m b k o t) (h : Below W.heap.size W W') : PTF w W' B m b k o t := Q.below h Q.c.lt Q.f.f.size
theorem PTF.drew {w W : World} {B m b k : Nat} {o : Bool} {t : Trk} (Q : PTF w W B m b k o t) : PTF w W.drew B m b k o t := Q.step (Below.refl _ _).drew
theorem TrkM.fx {B b k : Nat} {q : Bool} {W W' : World} {t : Trk} (K : TrkM B W t) (h : FxW W.heap.size W b k q W') (hB : B ≤ b) (hW : B ≤ W.heap.size) : TrkM B W' t :=
  K.keep (h.below hW hB) (Nat.le_refl _)
theorem PTF.bz {w W : World} {B m b k : Nat} {o : Bool} {t : Trk} (Q : PTF w W B m b k o t) : B ≤ W.heap.size := by
  have := Q.z
  have := Q.e
  have := Q.c.lt
  omega
theorem PTF.fx {w W W' : World} {B m b k : Nat} {o q : Bool} {t : Trk} (Q : PTF w W B m b k o t) (h : FxW W.heap.size W b k q W') : PTF w W' B m b k q t :=
  ⟨Q.c.fx h (by have := Q.e; omega), Q.f.fx h, Q.t.fx h Q.z Q.bz, Q.z, Q.e⟩
theorem PTF.new {w : World} {B b k : Nat} {o : Bool} {t : Trk} (ty : TypeId) (h : TrkM B w t) (m : MAt w b k o) (z : B ≤ b) : PTF w (w.alloc (.cells #[.int .i64 t.rate, .int .i64 t.cell, .int .i64 t.cols, .int .i64 t.rows, .int .i64 t.cx, .int .i64 t.cy, .slice t.H.a t.H.n t.H.c, .slice t.G.a t.G.n t.G.c, .slice t.ka t.kn t.kc, .slice t.la t.ln t.lc, .slice t.ra t.rn t.rc, .slice t.ga t.gn t.gc, .int .i64 t.sx, .int .i64 t.sy, .int .u32 t.head, .int .i64 t.laps] ty)) B w.heap.size b k o t :=
  ⟨BW.new w _ (trkL t) ty rfl, Flag.start m ((Below.refl _ _).alloc (Nat.le_refl _) _), h.keep ((Below.refl w.heap.size w).alloc (Nat.le_refl _) _) (by have := m.lt; omega), z, m.lt⟩
theorem PTF.cs {w W : World} {B m b k : Nat} {o : Bool} {t : Trk} (Q : PTF w W B m b k o t) : W.cell? ⟨m, 1, none⟩ = some (.int .i64 t.cell) ∧ W.cell? ⟨m, 2, none⟩ = some (.int .i64 t.cols) ∧ W.cell? ⟨m, 3, none⟩ = some (.int .i64 t.rows) ∧ W.cell? ⟨m, 4, none⟩ = some (.int .i64 t.cx) ∧ W.cell? ⟨m, 5, none⟩ = some (.int .i64 t.cy) ∧ W.cell? ⟨m, 6, none⟩ = some (.slice t.H.a t.H.n t.H.c) ∧ W.cell? ⟨m, 7, none⟩ = some (.slice t.G.a t.G.n t.G.c) ∧ W.cell? ⟨m, 8, none⟩ = some (.slice t.ka t.kn t.kc) :=
  ⟨Q.c.c 1 _ rfl, Q.c.c 2 _ rfl, Q.c.c 3 _ rfl, Q.c.c 4 _ rfl, Q.c.c 5 _ rfl, Q.c.c 6 _ rfl, Q.c.c 7 _ rfl, Q.c.c 8 _ rfl⟩
theorem PTF.all {w W : World} {B m b k : Nat} {o : Bool} {t : Trk} (Q : PTF w W B m b k o t) : W.cell? ⟨m, 0, none⟩ = some (.int .i64 t.rate) ∧ W.cell? ⟨m, 1, none⟩ = some (.int .i64 t.cell) ∧ W.cell? ⟨m, 2, none⟩ = some (.int .i64 t.cols) ∧ W.cell? ⟨m, 3, none⟩ = some (.int .i64 t.rows) ∧ W.cell? ⟨m, 4, none⟩ = some (.int .i64 t.cx) ∧ W.cell? ⟨m, 5, none⟩ = some (.int .i64 t.cy) ∧ W.cell? ⟨m, 6, none⟩ = some (.slice t.H.a t.H.n t.H.c) ∧ W.cell? ⟨m, 7, none⟩ = some (.slice t.G.a t.G.n t.G.c) ∧ W.cell? ⟨m, 8, none⟩ = some (.slice t.ka t.kn t.kc) ∧ W.cell? ⟨m, 9, none⟩ = some (.slice t.la t.ln t.lc) ∧ W.cell? ⟨m, 10, none⟩ = some (.slice t.ra t.rn t.rc) ∧ W.cell? ⟨m, 11, none⟩ = some (.slice t.ga t.gn t.gc) ∧ W.cell? ⟨m, 12, none⟩ = some (.int .i64 t.sx) ∧ W.cell? ⟨m, 13, none⟩ = some (.int .i64 t.sy) ∧ W.cell? ⟨m, 14, none⟩ = some (.int .u32 t.head) ∧ W.cell? ⟨m, 15, none⟩ = some (.int .i64 t.laps) :=
  ⟨Q.c.c 0 _ rfl, Q.c.c 1 _ rfl, Q.c.c 2 _ rfl, Q.c.c 3 _ rfl, Q.c.c 4 _ rfl, Q.c.c 5 _ rfl, Q.c.c 6 _ rfl, Q.c.c 7 _ rfl, Q.c.c 8 _ rfl, Q.c.c 9 _ rfl, Q.c.c 10 _ rfl, Q.c.c 11 _ rfl, Q.c.c 12 _ rfl, Q.c.c 13 _ rfl, Q.c.c 14 _ rfl, Q.c.c 15 _ rfl⟩
/-- a cell's four heights -/
def h00 (t : Trk) (c r : Int) : Int := t.H.v (atC t c r)
def h10 (t : Trk) (c r : Int) : Int := t.H.v (atC t c r + 1)
def h01 (t : Trk) (c r : Int) : Int := t.H.v (atC t c r + t.cols.toNat + 1)
def h11 (t : Trk) (c r : Int) : Int := t.H.v (atC t c r + t.cols.toNat + 2)
theorem mod_of {C c r : Nat} (h : c < C + 1) : (r * (C + 1) + c) % (C + 1) = c ∧ (r * (C + 1) + c) / (C + 1) = r := by
  constructor
  · rw [Nat.mul_comm, Nat.mul_add_mod, Nat.mod_eq_of_lt h]
  · rw [Nat.mul_comm, Nat.mul_add_div (by omega), Nat.div_eq_of_lt h, Nat.add_zero]
theorem cell_right {t : Trk} {c r : Int} (h : cntP t) (f : frP t) (k : okC t c r) : CellR t.cell (h00 t c r) (h10 t c r) (h01 t c r) (h11 t c r) := by
  obtain ⟨-, hN, hl, -⟩ := at_is h k
  obtain ⟨⟨m1, m2⟩, -, -, -, -⟩ := h
  obtain ⟨⟨k1, k2⟩, k3, k4⟩ := k
  obtain ⟨f1, -, -, f2, f3⟩ := f
  unfold h00 h10 h01 h11
  obtain ⟨C, hC⟩ : ∃ C : Nat, t.cols = (C : Int) := ⟨t.cols.toNat, by omega⟩
  obtain ⟨R, hR⟩ : ∃ C : Nat, t.rows = (C : Int) := ⟨t.rows.toNat, by omega⟩
  obtain ⟨c', rfl⟩ : ∃ C : Nat, c = (C : Int) := ⟨c.toNat, by omega⟩
  obtain ⟨r', rfl⟩ : ∃ C : Nat, r = (C : Int) := ⟨r.toNat, by omega⟩
  have eC : t.cols.toNat = C := by omega
  have eR : t.rows.toNat = R := by omega
  have eN : atC t c' r' = r' * (C + 1) + c' := by
    rw [hC] at hN
    exact_mod_cast hN.symm
  have q0 := mod_of (C := C) (c := c') (r := r') (by omega)
  have q1 := mod_of (C := C) (c := c' + 1) (r := r') (by omega)
  have q2 := mod_of (C := C) (c := c') (r := r' + 1) (by omega)
  rw [eC]
  rw [eN] at hl ⊢
  have e2 : (r' + 1) * (C + 1) + c' = r' * (C + 1) + c' + C + 1 := by
    rw [Nat.add_mul, Nat.one_mul]; omega
  rw [e2] at q2
  rw [← Nat.add_assoc] at q1
  have hl2 : r' * (C + 1) + c' + C + 2 < t.H.n := by
    have e : ((r' * (C + 1) + c' : Nat) : Int) + t.cols + 2 = ((r' * (C + 1) + c' + C + 2 : Nat) : Int) := by rw [hC]; push_cast; omega
    rw [e] at hl
    exact_mod_cast hl
  generalize r' * (C + 1) + c' = N at *
  have x0 := (f3 N (by omega)).1
  have x1 := (f3 (N + C + 1) (by omega)).1
  have y0 := (f3 N (by omega)).2
  have y1 := (f3 (N + 1) (by omega)).2
  unfold adjX at x0 x1
  unfold adjY at y0 y1
  rw [eC, q0.1] at x0
  rw [eC, q2.1] at x1
  rw [eC, eR, q0.2] at y0
  rw [eC, eR, q1.2] at y1
  have x0' := x0 (by omega)
  have x1' := x1 (by omega)
  have y0' := y0 (by omega)
  have y1' := y1 (by omega)
  rw [show N + 1 + C + 1 = N + C + 2 by omega] at y1'
  exact ⟨f1.1, f1.2, ⟨f2 _ (by omega), f2 _ (by omega), f2 _ (by omega), f2 _ (by omega)⟩, x0', x1', y0', y1'⟩
def slaF (t : Trk) (c r : Int) (up : Bool) : Int := if okC t c r then slA t.cell (h00 t c r) (h10 t c r) (h01 t c r) (h11 t c r) up else 0
def slbF (t : Trk) (c r : Int) (up : Bool) : Int := if okC t c r then slB t.cell (h00 t c r) (h10 t c r) (h01 t c r) (h11 t c r) up else 0
end Go.Proofs.Ytllkhgcokbpggaa
namespace Go.Proofs.Ytllkhgcokbpggaa
open Go.RowKit
set_option linter.unusedVariables false
set_option linter.unusedSimpArgs false

theorem ax_off {d cell : Int} {many : Nat} (hc : 0 < cell) (h0 : -422212465065984 ≤ d) (h1 : d ≤ 422212465065984) : Off (axD d cell many) := by
  unfold axD axK Off
  split
  · omega
  · have e := Int.ediv_mul_le d (show cell ≠ 0 by omega)
    have p := Int.ediv_nonneg (show 0 ≤ d by omega) (show 0 ≤ cell by omega)
    have q : ((min (d / cell).toNat (many - 1) : Nat) : Int) ≤ d / cell := by omega
    have r := Int.mul_le_mul_of_nonneg_right q (show 0 ≤ cell by omega)
    have s := Int.mul_nonneg (show 0 ≤ ((min (d / cell).toNat (many - 1) : Nat) : Int) by omega) (show 0 ≤ cell by omega)
    generalize ((min (d / cell).toNat (many - 1) : Nat) : Int) * cell = z at *
    generalize d / cell * cell = z2 at *
    omega
theorem wh_offX {t : Trk} (f : frP t) (x : Int) : Off (whX t x) := by
  obtain ⟨f1, f2, f3, -⟩ := f
  have := axF_in (n := x) f2
  exact ax_off (by omega) this.1 this.2
theorem wh_offY {t : Trk} (f : frP t) (y : Int) : Off (whY t y) := by
  obtain ⟨f1, f2, f3, -⟩ := f
  have := axF_in (n := y) f3
  exact ax_off (by omega) this.1 this.2
/-- the height of a place -/
def heightF (t : Trk) (x y : Int) : Int := hgF t.cell (h00 t (whK t x) (whR t y)) (h10 t (whK t x) (whR t y)) (h01 t (whK t x) (whR t y)) (h11 t (whK t x) (whR t y)) (whX t x) (whY t y)
theorem TrkR.of {t : Trk} (hc : cntP t) (hf : frP t) : TrkR t := ⟨hf.1, hf.2.1, hf.2.2.1, hc.1⟩
end Go.Proofs.Ytllkhgcokbpggaa
namespace Go.Proofs.Ytllkhgcokbpggaa
open Go.RowKit
set_option linter.unusedVariables false
set_option linter.unusedSimpArgs false

noncomputable def upX (a b : Int) : Int := divF (subF 0 a) (upN a b)
noncomputable def upY (a b : Int) : Int := divF (subF 0 b) (upN a b)
noncomputable def upZ (a b : Int) : Int := divF 4294967296 (upN a b)
/-- the way up of a place -/
def slpA (t : Trk) (x y : Int) : Int := slaF t (whK t x) (whR t y) (decide (whX t x < whY t y))
def slpB (t : Trk) (x y : Int) : Int := slbF t (whK t x) (whR t y) (decide (whX t x < whY t y))
theorem slp_in {t : Trk} (hc : cntP t) (hf : frP t) (x y : Int) : (-4294967296 ≤ slpA t x y ∧ slpA t x y ≤ 4294967296) ∧ (-4294967296 ≤ slpB t x y ∧ slpB t x y ≤ 4294967296) := by
  have ok := wh_ok hc x y
  obtain ⟨a, b, ea, eb, h1, h2, -⟩ := hg_near (cell_right hc hf ok) (wh_offX hf x) (wh_offY hf y)
  unfold slpA slpB slaF slbF
  rw [if_pos ok, if_pos ok, ← ea, ← eb]
  exact ⟨h1, h2⟩
end Go.Proofs.Ytllkhgcokbpggaa
namespace Go.Proofs.Ytllkhgcokbpggaa
open Go.RowKit
set_option linter.unusedVariables false
set_option linter.unusedSimpArgs false

/-- a track as a value -/
abbrev trkV (t : Trk) : Value := .agg #[.int .i64 t.rate, .int .i64 t.cell, .int .i64 t.cols, .int .i64 t.rows, .int .i64 t.cx, .int .i64 t.cy, .slice t.H.a t.H.n t.H.c, .slice t.G.a t.G.n t.G.c, .slice t.ka t.kn t.kc, .slice t.la t.ln t.lc, .slice t.ra t.rn t.rc, .slice t.ga t.gn t.gc, .int .i64 t.sx, .int .i64 t.sy, .int .u32 t.head, .int .i64 t.laps]
/-- the program's field: it stands as long as the blocks from one number to another do -/
structure FieldT where
  P : Nat → Nat → World → Nat → Trk → Prop
  keep : ∀ {lo top W W' f t}, P lo top W f t → W.heap.size ≤ W'.heap.size → (∀ k, lo ≤ k → k < top → W'.heap[k]? = W.heap[k]?) → P lo top W' f t
  top : ∀ {lo top W f t}, P lo top W f t → top ≤ W.heap.size
/-- a track's slices lie from block lo on -/
def TrkLo (lo : Nat) (t : Trk) : Prop := ∀ p, t.H.a = some p ∨ t.G.a = some p ∨ t.ka = some p ∨ t.la = some p ∨ t.ra = some p ∨ t.ga = some p → lo ≤ p.block
theorem TrkLo.zero (t : Trk) : TrkLo 0 t := fun _ _ => Nat.zero_le _
/-- the example -/
def fsmp (n : Nat) : Trk := ⟨0, 17179869184, 1, 1, 0, 0, ⟨some ⟨n, 0, none⟩, 4, 4, fun i => if i = 3 then 17179869184 else 0⟩, ⟨some ⟨n + 1, 0, none⟩, 1, 1, fun _ => 0⟩, some ⟨n + 1 + 1, 0, none⟩, 1, 1, fun _ => 4294967296, fun _ => 0, fun _ => false, none, 0, 0, none, 0, 0, none, 0, 0, 0, 0, 0, 0⟩
theorem fsmp_right (n : Nat) : rightFd (fsmp n) = 0 := by
  have h : rightFd (fsmp 0) = 0 := by decide +kernel
  exact h
theorem fsmp_hg (n : Nat) : heightF (fsmp n) 8589934592 4294967296 = 4294967296 ∧ heightF (fsmp n) 12884901888 17179869184 = 12884901888 := by
  have h : heightF (fsmp 0) 8589934592 4294967296 = 4294967296 ∧ heightF (fsmp 0) 12884901888 17179869184 = 12884901888 := by decide +kernel
  exact h
theorem fsmp_slp (n : Nat) : slpA (fsmp n) 0 0 = 0 ∧ slpB (fsmp n) 0 0 = 4294967296 := by
  have h : slpA (fsmp 0) 0 0 = 0 ∧ slpB (fsmp 0) 0 0 = 4294967296 := by decide +kernel
  exact h
def fnilT : Trk := ⟨0, 0, 0, 0, 0, 0, ⟨none, 0, 0, fun _ => 0⟩, ⟨none, 0, 0, fun _ => 0⟩, none, 0, 0, fun _ => 0, fun _ => 0, fun _ => false, none, 0, 0, none, 0, 0, none, 0, 0, 0, 0, 0, 0⟩
theorem fnilT_right : rightFd fnilT = 42 := by decide +kernel
theorem nums_nil (B : Nat) (w : World) : Nums B w ⟨none, 0, 0, fun _ => 0⟩ := ⟨by unfold maxLen; simp, Nat.le_refl _, fun i h => absurd h (by simp), fun h => absurd h (by simp)⟩
theorem fnilT_m (B : Nat) (w : World) : TrkM B w fnilT := ⟨nums_nil B w, nums_nil B w, by unfold maxLen fnilT; simp, Nat.le_refl _, fun i h => absurd h (by simp [fnilT]), fun h => absurd h (by simp [fnilT]), by unfold In64 fnilT; simp⟩
theorem up_ex : upX 0 4294967296 = 0 ∧ upY 0 4294967296 < 0 ∧ 2147483648 < upZ 0 4294967296 := by
  have e1 : subF 0 0 * subF 0 0 + subF 0 4294967296 * subF 0 4294967296 + 4294967296 * 4294967296 = 36893488147419103232 := by decide +kernel
  obtain ⟨r0, r1, r2⟩ := root_isq (S := 36893488147419103232) (by omega) (by omega)
  have l := (len_fit (S := 36893488147419103232) (by omega)).2.1
  have i : isq (36893488147419103232 : Int).toNat 36 0 = 6074000999 := by decide +kernel
  have N : upN 0 4294967296 = 6074000999 := by unfold upN; rw [e1, l, r0, i]; rfl
  unfold upX upY upZ
  rw [N]
  decide +kernel
/-- the field and a flag -/
structure GS (F : FieldT) (w W : World) (lo top f m : Nat) (o : Bool) (t : Trk) : Prop where
  p : F.P lo top W f t
  a : MAt W m 0 o
  bl : Below w.heap.size w W
  e : m < lo ∨ top ≤ m
  n : w.heap.size ≤ m
theorem GS.step {F : FieldT} {w W W' : World} {lo top f m : Nat} {o : Bool} {t : Trk} (s : GS F w W lo top f m o t) (h : Below W.heap.size W W') : GS F w W' lo top f m o t :=
  ⟨F.keep s.p h.size (fun j h1 h2 => h.block j (by have := F.top s.p; omega)), s.a.below h s.a.lt, s.bl.trans (h.mono s.bl.size), s.e, s.n⟩
theorem GS.fx {F : FieldT} {w W W' : World} {lo top f m : Nat} {o q : Bool} {t : Trk} (s : GS F w W lo top f m o t) (h : FxW W.heap.size W m 0 q W') : GS F w W' lo top f m q t :=
  ⟨F.keep s.p h.size (fun j h1 h2 => (fx_grown h).block j (by have := F.top s.p; omega) (fun e => by injection e with e; have := s.e; omega)), h.at s.a s.a.lt, s.bl.trans (h.below s.bl.size s.n), s.e, s.n⟩
/-- the field, the program's flag and the document's -/
structure GD (F : FieldT) (w W : World) (lo top f m d : Nat) (o q : Bool) (t : Trk) : Prop where
  g : GS F w W lo top f m o t
  a : MAt W d 0 q
  e : d < lo ∨ top ≤ d
  n : w.heap.size ≤ d
  md : m ≠ d
theorem GD.step {F : FieldT} {w W W' : World} {lo top f m d : Nat} {o q : Bool} {t : Trk} (s : GD F w W lo top f m d o q t) (h : Below W.heap.size W W') : GD F w W' lo top f m d o q t :=
  ⟨s.g.step h, s.a.below h s.a.lt, s.e, s.n, s.md⟩
theorem MAt.far' {W W' : World} {m d k : Nat} {o q : Bool} (a : MAt W m 0 o) (h : FxW W.heap.size W d k q W') (e : d ≠ m) : MAt W' m 0 o :=
  ⟨(h.cell a.lt e).trans a.c, (h.frozen a.lt).trans a.f, by have := h.size; have := a.lt; omega⟩
theorem GD.fx {F : FieldT} {w W W' : World} {lo top f m d : Nat} {o q r : Bool} {t : Trk} (s : GD F w W lo top f m d o q t) (h : FxW W.heap.size W m 0 r W') : GD F w W' lo top f m d r q t :=
  ⟨s.g.fx h, s.a.far' h s.md, s.e, s.n, s.md⟩
theorem GD.dx {F : FieldT} {w W W' : World} {lo top f m d : Nat} {o q r : Bool} {t : Trk} (s : GD F w W lo top f m d o q t) (h : FxW W.heap.size W d 0 r W') : GD F w W' lo top f m d o r t :=
  ⟨⟨F.keep s.g.p h.size (fun j h1 h2 => (fx_grown h).block j (by have := F.top s.g.p; omega) (fun e => by injection e with e; have := s.e; omega)), s.g.a.far' h (fun e => s.md e.symm), s.g.bl.trans (h.below s.g.bl.size s.n), s.g.e, s.g.n⟩, h.at s.a s.a.lt, s.e, s.n, s.md⟩
def fewT (t : Trk) : Prop := t.H.n ≤ 1200 ∧ t.G.n ≤ 1000 ∧ t.kn ≤ 20
instance (t : Trk) : Decidable (fewT t) := by unfold fewT; exact inferInstance
end Go.Proofs.Ytllkhgcokbpggaa
namespace Go.Proofs.Ytllkhgcokbpggaa
open Go.RowKit
set_option linter.unusedVariables false
set_option linter.unusedSimpArgs false

theorem gfew_any (t : Trk) (B : Nat) (w : World) (hB : B ≤ w.heap.size) (K : TrkM B w t) :
    Calls Try.prog 21 #[.agg #[.int .i64 t.rate, .int .i64 t.cell, .int .i64 t.cols, .int .i64 t.rows, .int .i64 t.cx, .int .i64 t.cy, .slice t.H.a t.H.n t.H.c, .slice t.G.a t.G.n t.G.c, .slice t.ka t.kn t.kc, .slice t.la t.ln t.lc, .slice t.ra t.rn t.rc, .slice t.ga t.gn t.gc, .int .i64 t.sx, .int .i64 t.sy, .int .u32 t.head, .int .i64 t.laps]] w fun e w' => e = .returned (.bool (decide (fewT t))) ∧ Below w.heap.size w w' := by
  by_cases h1 : t.H.n ≤ 1200
  · by_cases h2 : t.G.n ≤ 1000
    · by_cases h3 : t.kn ≤ 20
      · have E := Lib.hid (show decide (fewT t) = true from decide_eq_true ⟨h1, h2, h3⟩)
        have g1 : (t.H.n : Int) ≤ 1200 := by omega
        have g2 : (t.G.n : Int) ≤ 1000 := by omega
        have g3 : (t.kn : Int) ≤ 20 := by omega
        rw [E.out]
        go_enter Try.func21, Try.ntmps21
        go_wp2
        go_ret
        exact ⟨rfl, by repeat (first | exact Below.refl _ _ | assumption | refine Below.setCell ?_ (by first | omega | (simp; done) | (simp; omega)) _ | refine Below.alloc ?_ (by first | omega | (simp; done) | (simp; omega)) _ | refine below_drewN ?_ _ | refine Below.drew ?_ | refine Below.trans ?_ (Below.mono (by assumption) (by first | omega | (simp; done) | (simp; omega))))⟩
      · have E := Lib.hid (show decide (fewT t) = false from decide_eq_false (fun h => h3 h.2.2))
        have g1 : (t.H.n : Int) ≤ 1200 := by omega
        have g2 : (t.G.n : Int) ≤ 1000 := by omega
        have g3 : ¬ (t.kn : Int) ≤ 20 := by omega
        rw [E.out]
        go_enter Try.func21, Try.ntmps21
        go_wp2
        go_ret
        exact ⟨rfl, by repeat (first | exact Below.refl _ _ | assumption | refine Below.setCell ?_ (by first | omega | (simp; done) | (simp; omega)) _ | refine Below.alloc ?_ (by first | omega | (simp; done) | (simp; omega)) _ | refine below_drewN ?_ _ | refine Below.drew ?_ | refine Below.trans ?_ (Below.mono (by assumption) (by first | omega | (simp; done) | (simp; omega))))⟩
    · have E := Lib.hid (show decide (fewT t) = false from decide_eq_false (fun h => h2 h.2.1))
      have g1 : (t.H.n : Int) ≤ 1200 := by omega
      have g2 : ¬ (t.G.n : Int) ≤ 1000 := by omega
      rw [E.out]
      go_enter Try.func21, Try.ntmps21
      go_wp2
      go_ret
      exact ⟨rfl, by repeat (first | exact Below.refl _ _ | assumption | refine Below.setCell ?_ (by first | omega | (simp; done) | (simp; omega)) _ | refine Below.alloc ?_ (by first | omega | (simp; done) | (simp; omega)) _ | refine below_drewN ?_ _ | refine Below.drew ?_ | refine Below.trans ?_ (Below.mono (by assumption) (by first | omega | (simp; done) | (simp; omega))))⟩
  · have E := Lib.hid (show decide (fewT t) = false from decide_eq_false (fun h => h1 h.1))
    have g1 : ¬ (t.H.n : Int) ≤ 1200 := by omega
    rw [E.out]
    go_enter Try.func21, Try.ntmps21
    go_wp2
    go_ret
    exact ⟨rfl, by repeat (first | exact Below.refl _ _ | assumption | refine Below.setCell ?_ (by first | omega | (simp; done) | (simp; omega)) _ | refine Below.alloc ?_ (by first | omega | (simp; done) | (simp; omega)) _ | refine below_drewN ?_ _ | refine Below.drew ?_ | refine Below.trans ?_ (Below.mono (by assumption) (by first | omega | (simp; done) | (simp; omega))))⟩
theorem fsmp_m {W : World} {n : Nat} (h : BW W n [.int .i64 0, .int .i64 0, .int .i64 0, .int .i64 17179869184]) (g : BW W (n + 1) [.int .i64 0]) (k : BW W (n + 1 + 1) [.int .i64 4294967296, .int .i64 0, .bool false]) : TrkM W.heap.size W (fsmp n) := by
  refine ⟨⟨by unfold maxLen fsmp; simp, Nat.le_refl _, fun i hi => ?_, fun _ => ⟨n, 0, rfl, h.lt, fun i hi => ?_⟩⟩, ⟨by unfold maxLen fsmp; simp, Nat.le_refl _, fun i hi => ?_, fun _ => ⟨n + 1, 0, rfl, g.lt, fun i hi => ?_⟩⟩, by unfold maxLen fsmp; simp, Nat.le_refl _, fun i hi => ?_, fun _ => ⟨n + 1 + 1, 0, rfl, k.lt, fun i hi => ?_⟩, by unfold In64 fsmp; simp⟩
  · show (Lit.int .i64 (if i = 3 then 17179869184 else 0)).wf = true
    split <;> decide
  · have hi : i < 4 := hi
    match i, hi with
    | 0, _ => exact h.c 0 _ rfl
    | 1, _ => exact h.c 1 _ rfl
    | 2, _ => exact h.c 2 _ rfl
    | 3, _ => exact h.c 3 _ rfl
  · show (Lit.int .i64 0).wf = true
    decide
  · have hi : i < 1 := hi
    obtain rfl : i = 0 := by omega
    exact g.c 0 _ rfl
  · unfold In64 fsmp; simp
  · have hi : i < 1 := hi
    obtain rfl : i = 0 := by omega
    exact ⟨k.c 0 _ rfl, k.c 1 _ rfl, k.c 2 _ rfl⟩
end Go.Proofs.Ytllkhgcokbpggaa
