/- A track in memory; contracts of the document's field: in, axis, Where, counts. -/
import Derived.Test.YtllkhgcokbpggaaBm
import Derived.Test.YtllkhgcokbpggaaBp
import Derived.Test.YtllkhgcokbpggaaBy
import Derived.Test.YtllkhgcokbpggaaBj
import Derived.Deep.QuietTactic
import Derived.BigQuiet
namespace Go.Proofs.Ytllkhgcokbpggaa
open Go.RowKit
set_option linter.unusedVariables false
set_option linter.unusedSimpArgs false

theorem wrap_in' {n : Int} (h : In64 n) : IntKind.i64.wrap n = n ∧ wrap64 n = n := by
  unfold In64 at h
  exact ⟨IntWalk.i64_in _ (by omega), by unfold wrap64; omega⟩
/-- a track: its numbers, and where its slices lie -/
structure Trk where
  rate : Int
  cell : Int
  cols : Int
  rows : Int
  cx : Int
  cy : Int
  H : Sl
  G : Sl
  ka : Option Addr
  kn : Nat
  kc : Nat
  kg : Nat → Int
  kd : Nat → Int
  ko : Nat → Bool
  la : Option Addr
  ln : Nat
  lc : Nat
  ra : Option Addr
  rn : Nat
  rc : Nat
  ga : Option Addr
  gn : Nat
  gc : Nat
  sx : Int
  sy : Int
  head : Int
  laps : Int
def trkL (t : Trk) : List Value := [.int .i64 t.rate, .int .i64 t.cell, .int .i64 t.cols, .int .i64 t.rows, .int .i64 t.cx, .int .i64 t.cy, .slice t.H.a t.H.n t.H.c, .slice t.G.a t.G.n t.G.c, .slice t.ka t.kn t.kc, .slice t.la t.ln t.lc, .slice t.ra t.rn t.rc, .slice t.ga t.gn t.gc, .int .i64 t.sx, .int .i64 t.sy, .int .u32 t.head, .int .i64 t.laps]
/-- a track's slices, among the blocks below B -/
structure TrkM (B : Nat) (w : World) (t : Trk) : Prop where
  H : Nums B w t.H
  G : Nums B w t.G
  km : t.kc ≤ maxLen
  kl : t.kn ≤ t.kc
  kw : ∀ i, i < t.kn → In64 (t.kg i) ∧ In64 (t.kd i)
  k : 0 < t.kn → ∃ b off, t.ka = some ⟨b, off, none⟩ ∧ b < B ∧ ∀ i, i < t.kn → w.cell? ⟨b, off + i * 3, none⟩ = some (.int .i64 (t.kg i)) ∧ w.cell? ⟨b, off + i * 3 + 1, none⟩ = some (.int .i64 (t.kd i)) ∧ w.cell? ⟨b, off + i * 3 + 2, none⟩ = some (.bool (t.ko i))
  n : In64 t.cell ∧ In64 t.cols ∧ In64 t.rows ∧ In64 t.cx ∧ In64 t.cy
theorem TrkM.keep {B C : Nat} {w w' : World} {t : Trk} (K : TrkM B w t) (h : Below C w w') (hB : B ≤ C) : TrkM B w' t :=
  ⟨K.H.keep h hB, K.G.keep h hB, K.km, K.kl, K.kw, fun h0 => by
    obtain ⟨b, off, e, hb, hc⟩ := K.k h0
    exact ⟨b, off, e, hb, fun i hi => ⟨(h.cell (p := ⟨b, _, none⟩) (by show b < C; omega)).trans (hc i hi).1, (h.cell (p := ⟨b, _, none⟩) (by show b < C; omega)).trans (hc i hi).2.1, (h.cell (p := ⟨b, _, none⟩) (by show b < C; omega)).trans (hc i hi).2.2⟩⟩, K.n⟩
/-- a track that came in, and its copy in block m -/
structure PT (w W : World) (B m : Nat) (t : Trk) : Prop where
  c : BW W m (trkL t)
  l : Below w.heap.size w W
  t : TrkM B W t
  z : B ≤ w.heap.size
theorem PT.step {w W W' : World} {B m : Nat} {t : Trk} (Q : PT w W B m t) (h : Below W.heap.size W W') : PT w W' B m t :=
  ⟨Q.c.below h Q.c.lt, Q.l.trans (h.mono Q.l.size), Q.t.keep h (by have := Q.z; have := Q.l.size; omega), Q.z⟩
theorem PT.new {w : World} {B : Nat} {t : Trk} (ty : TypeId) (h : TrkM B w t) (z : B ≤ w.heap.size) : PT w (w.alloc (.cells #[.int .i64 t.rate, .int .i64 t.cell, .int .i64 t.cols, .int .i64 t.rows, .int .i64 t.cx, .int .i64 t.cy, .slice t.H.a t.H.n t.H.c, .slice t.G.a t.G.n t.G.c, .slice t.ka t.kn t.kc, .slice t.la t.ln t.lc, .slice t.ra t.rn t.rc, .slice t.ga t.gn t.gc, .int .i64 t.sx, .int .i64 t.sy, .int .u32 t.head, .int .i64 t.laps] ty)) B w.heap.size t :=
  ⟨BW.new w _ (trkL t) ty rfl, (Below.refl _ _).alloc (Nat.le_refl _) _, h.keep ((Below.refl w.heap.size w).alloc (Nat.le_refl _) _) z, z⟩
/-- the copy's cells that are looked at by themselves -/
theorem PT.cs {w W : World} {B m : Nat} {t : Trk} (Q : PT w W B m t) : W.cell? ⟨m, 1, none⟩ = some (.int .i64 t.cell) ∧ W.cell? ⟨m, 2, none⟩ = some (.int .i64 t.cols) ∧ W.cell? ⟨m, 3, none⟩ = some (.int .i64 t.rows) ∧ W.cell? ⟨m, 4, none⟩ = some (.int .i64 t.cx) ∧ W.cell? ⟨m, 5, none⟩ = some (.int .i64 t.cy) ∧
    W.cell? ⟨m, 6, none⟩ = some (.slice t.H.a t.H.n t.H.c) ∧ W.cell? ⟨m, 7, none⟩ = some (.slice t.G.a t.G.n t.G.c) ∧ W.cell? ⟨m, 8, none⟩ = some (.slice t.ka t.kn t.kc) :=
  ⟨Q.c.c 1 _ rfl, Q.c.c 2 _ rfl, Q.c.c 3 _ rfl, Q.c.c 4 _ rfl, Q.c.c 5 _ rfl, Q.c.c 6 _ rfl, Q.c.c 7 _ rfl, Q.c.c 8 _ rfl⟩
/-- how far a number, held within the bounds, is behind the ground's beginning -/
def axF (n from_ : Int) : Int := clampF n (-281474976710656) 281474976710656 - from_
theorem axF_in {n from_ : Int} (h : -140737488355328 ≤ from_ ∧ from_ ≤ 140737488355328) : -422212465065984 ≤ axF n from_ ∧ axF n from_ ≤ 422212465065984 := by
  unfold axF clampF
  split
  · omega
  · split <;> omega
/-- cells of a place -/
def whK (t : Trk) (x : Int) : Nat := axK (axF x t.cx) t.cell t.cols.toNat
def whR (t : Trk) (y : Int) : Nat := axK (axF y t.cy) t.cell t.rows.toNat
def whX (t : Trk) (x : Int) : Int := axD (axF x t.cx) t.cell t.cols.toNat
def whY (t : Trk) (y : Int) : Int := axD (axF y t.cy) t.cell t.rows.toNat
/-- what each cell's reckoning asks of a track -/
structure TrkR (t : Trk) : Prop where
  c : 17179869184 ≤ t.cell ∧ t.cell ≤ 274877906944
  x : -140737488355328 ≤ t.cx ∧ t.cx ≤ 140737488355328
  y : -140737488355328 ≤ t.cy ∧ t.cy ≤ 140737488355328
  m : (1 ≤ t.cols ∧ t.cols ≤ 64) ∧ 1 ≤ t.rows ∧ t.rows ≤ 64
/-- as many of all as there must be -/
def cntP (t : Trk) : Prop := ((1 ≤ t.cols ∧ t.cols ≤ 64) ∧ 1 ≤ t.rows ∧ t.rows ≤ 64) ∧ (t.H.n : Int) = (t.cols + 1) * (t.rows + 1) ∧ (t.G.n : Int) = t.cols * t.rows ∧ 1 ≤ t.kn ∧ t.kn ≤ 8
instance (t : Trk) : Decidable (cntP t) := by unfold cntP; exact inferInstance
theorem mul_64 {a b : Int} (a0 : 1 ≤ a) (a1 : a ≤ 65) (b0 : 1 ≤ b) (b1 : b ≤ 65) : 1 ≤ a * b ∧ a * b ≤ 4225 := by
  have h1 := Int.mul_le_mul a1 b1 (by omega) (by omega)
  have h2 := Int.mul_pos (show 0 < a by omega) (show 0 < b by omega)
  omega
end Go.Proofs.Ytllkhgcokbpggaa
namespace Go.Proofs.Ytllkhgcokbpggaa
open Go.RowKit
set_option linter.unusedVariables false
set_option linter.unusedSimpArgs false

theorem idx_right {i C R n : Nat} (hn : n = (C + 1) * (R + 1)) (hi : i < n) (h : i % (C + 1) < C) : i + 1 < n := by
  have e := Nat.div_add_mod i (C + 1)
  have hq : i / (C + 1) < R + 1 := Nat.div_lt_of_lt_mul (by omega)
  have h2 := Nat.mul_le_mul_left (C + 1) (show i / (C + 1) + 1 ≤ R + 1 by omega)
  rw [Nat.mul_add, Nat.mul_one] at h2
  omega
theorem idx_up {i C R n : Nat} (hn : n = (C + 1) * (R + 1)) (hi : i < n) (h : i / (C + 1) < R) : i + C + 1 < n := by
  have e := Nat.div_add_mod i (C + 1)
  have hm := Nat.mod_lt i (show C + 1 > 0 by omega)
  have h2 := Nat.mul_le_mul_left (C + 1) (show i / (C + 1) + 1 + 1 ≤ R + 1 by omega)
  rw [Nat.mul_add, Nat.mul_add, Nat.mul_one] at h2
  omega
theorem tdiv_nat (m n : Nat) : Int.tdiv (m : Int) (n : Int) = ((m / n : Nat) : Int) := rfl
theorem tmodn (m n : Nat) : Int.tmod (m : Int) (n : Int) = ((m % n : Nat) : Int) := by
  rw [Int.tmod_eq_emod_of_nonneg (by omega)]; rfl
def inH (n : Int) : Prop := -2199023255552 ≤ n ∧ n ≤ 2199023255552
instance (n : Int) : Decidable (inH n) := by unfold inH; exact inferInstance
def adjX (t : Trk) (C i : Nat) : Prop := i % (C + 1) < C → -t.cell ≤ t.H.v (i + 1) - t.H.v i ∧ t.H.v (i + 1) - t.H.v i ≤ t.cell
def adjY (t : Trk) (C R i : Nat) : Prop := i / (C + 1) < R → -t.cell ≤ t.H.v (i + C + 1) - t.H.v i ∧ t.H.v (i + C + 1) - t.H.v i ≤ t.cell
instance (t : Trk) (C i : Nat) : Decidable (adjX t C i) := by unfold adjX; exact inferInstance
instance (t : Trk) (C R i : Nat) : Decidable (adjY t C R i) := by unfold adjY; exact inferInstance
def hgtP (t : Trk) : Prop := (∀ i, i < t.H.n → inH (t.H.v i)) ∧ ∀ i, i < t.H.n → adjX t t.cols.toNat i ∧ adjY t t.cols.toNat t.rows.toNat i
instance (t : Trk) : Decidable (hgtP t) := by unfold hgtP; exact inferInstance
theorem all_nx {P : Nat → Prop} {j : Nat} (h : ∀ k, k < j → P k) (p : P j) : ∀ k, k < j + 1 → P k := fun k hk => by
  rcases Nat.lt_or_ge k j with l | l
  · exact h k l
  · have e : k = j := by omega
    subst e; exact p
theorem PT.dn {w W : World} {B m : Nat} {t : Trk} (Q : PT w W B m t) (n : Nat) : PT w (W.drewN n) B m t := Q.step (below_drewN (Below.refl _ _) n)
end Go.Proofs.Ytllkhgcokbpggaa
namespace Go.Proofs.Ytllkhgcokbpggaa
open Go.RowKit
set_option linter.unusedVariables false
set_option linter.unusedSimpArgs false

theorem PT.all {w W : World} {B m : Nat} {t : Trk} (Q : PT w W B m t) : W.cell? ⟨m, 0, none⟩ = some (.int .i64 t.rate) ∧ W.cell? ⟨m, 1, none⟩ = some (.int .i64 t.cell) ∧ W.cell? ⟨m, 2, none⟩ = some (.int .i64 t.cols) ∧ W.cell? ⟨m, 3, none⟩ = some (.int .i64 t.rows) ∧ W.cell? ⟨m, 4, none⟩ = some (.int .i64 t.cx) ∧ W.cell? ⟨m, 5, none⟩ = some (.int .i64 t.cy) ∧ W.cell? ⟨m, 6, none⟩ = some (.slice t.H.a t.H.n t.H.c) ∧ W.cell? ⟨m, 7, none⟩ = some (.slice t.G.a t.G.n t.G.c) ∧ W.cell? ⟨m, 8, none⟩ = some (.slice t.ka t.kn t.kc) ∧ W.cell? ⟨m, 9, none⟩ = some (.slice t.la t.ln t.lc) ∧ W.cell? ⟨m, 10, none⟩ = some (.slice t.ra t.rn t.rc) ∧ W.cell? ⟨m, 11, none⟩ = some (.slice t.ga t.gn t.gc) ∧ W.cell? ⟨m, 12, none⟩ = some (.int .i64 t.sx) ∧ W.cell? ⟨m, 13, none⟩ = some (.int .i64 t.sy) ∧ W.cell? ⟨m, 14, none⟩ = some (.int .u32 t.head) ∧ W.cell? ⟨m, 15, none⟩ = some (.int .i64 t.laps) :=
  ⟨Q.c.c 0 _ rfl, Q.c.c 1 _ rfl, Q.c.c 2 _ rfl, Q.c.c 3 _ rfl, Q.c.c 4 _ rfl, Q.c.c 5 _ rfl, Q.c.c 6 _ rfl, Q.c.c 7 _ rfl, Q.c.c 8 _ rfl, Q.c.c 9 _ rfl, Q.c.c 10 _ rfl, Q.c.c 11 _ rfl, Q.c.c 12 _ rfl, Q.c.c 13 _ rfl, Q.c.c 14 _ rfl, Q.c.c 15 _ rfl⟩
theorem PT.bz {w W : World} {B m : Nat} {t : Trk} (Q : PT w W B m t) : B ≤ W.heap.size := by
  have := Q.z
  have := Q.l.size
  omega
def frP (t : Trk) : Prop := (17179869184 ≤ t.cell ∧ t.cell ≤ 274877906944) ∧ (-140737488355328 ≤ t.cx ∧ t.cx ≤ 140737488355328) ∧ (-140737488355328 ≤ t.cy ∧ t.cy ≤ 140737488355328) ∧ hgtP t
instance (t : Trk) : Decidable (frP t) := by unfold frP; exact inferInstance
def grQ (t : Trk) (i : Nat) : Prop := 0 ≤ t.G.v i ∧ t.G.v i < t.kn
instance (t : Trk) (i : Nat) : Decidable (grQ t i) := by unfold grQ; exact inferInstance
def kdQ (t : Trk) (i : Nat) : Prop := (0 ≤ t.kg i ∧ t.kg i ≤ 8589934592) ∧ 0 ≤ t.kd i ∧ t.kd i ≤ 4294967296
instance (t : Trk) (i : Nat) : Decidable (kdQ t i) := by unfold kdQ; exact inferInstance
def allP (t : Trk) : Prop := frP t ∧ (∀ i, i < t.G.n → grQ t i) ∧ ∀ i, i < t.kn → kdQ t i
instance (t : Trk) : Decidable (allP t) := by unfold allP; exact inferInstance
/-- what is wrong first with a track's ground -/
def rightFd (t : Trk) : Int := if cntP t then if allP t then 0 else 40 else 42
end Go.Proofs.Ytllkhgcokbpggaa
namespace Go.Proofs.Ytllkhgcokbpggaa
open Go.RowKit
set_option linter.unusedVariables false
set_option linter.unusedSimpArgs false

/-- is there such a cell? -/
def okC (t : Trk) (c r : Int) : Prop := (0 ≤ c ∧ c < t.cols) ∧ 0 ≤ r ∧ r < t.rows
instance (t : Trk) (c r : Int) : Decidable (okC t c r) := by unfold okC; exact inferInstance
/-- the number of a cell's first height -/
def atC (t : Trk) (c r : Int) : Nat := (r * (t.cols + 1) + c).toNat
def baseFd (t : Trk) (c r : Int) : Int := if okC t c r then t.H.v (atC t c r) else 0
theorem at_is {t : Trk} {c r : Int} (h : cntP t) (k : okC t c r) : (0 ≤ r * (t.cols + 1) ∧ r * (t.cols + 1) ≤ 4225) ∧ r * (t.cols + 1) + c = (atC t c r : Int) ∧ (atC t c r : Int) + t.cols + 2 < (t.H.n : Int) ∧ t.H.n ≤ 4225 := by
  obtain ⟨⟨m1, m2⟩, hn, -, -, -⟩ := h
  obtain ⟨⟨k1, k2⟩, k3, k4⟩ := k
  have p1 := mul_64 (a := t.cols + 1) (b := t.rows + 1) (by omega) (by omega) (by omega) (by omega)
  have p0 := Int.mul_nonneg k3 (show 0 ≤ t.cols + 1 by omega)
  have p2 := Int.mul_le_mul_of_nonneg_right (show r ≤ t.rows - 1 by omega) (show 0 ≤ t.cols + 1 by omega)
  have e : (t.cols + 1) * (t.rows + 1) = (t.rows - 1) * (t.cols + 1) + 2 * (t.cols + 1) := by grind
  unfold atC
  obtain ⟨P, hP⟩ : ∃ P, r * (t.cols + 1) = P := ⟨_, rfl⟩
  obtain ⟨S, hS⟩ : ∃ P, (t.rows - 1) * (t.cols + 1) = P := ⟨_, rfl⟩
  rw [hP] at p0 p2 ⊢
  rw [hS] at p2 e
  rw [e] at hn p1
  refine ⟨by omega, by omega, by omega, by omega⟩
/-- the kind of a place -/
def kindFd (t : Trk) (x y : Int) : Int := t.G.v ((whR t y : Int) * t.cols + whK t x).toNat
theorem wh_ok {t : Trk} (h : cntP t) (x y : Int) : okC t (whK t x) (whR t y) := by
  obtain ⟨⟨m1, m2⟩, -, -, -, -⟩ := h
  have h1 := axK_lt (d := axF x t.cx) (cell := t.cell) (many := t.cols.toNat) (by omega)
  have h2 := axK_lt (d := axF y t.cy) (cell := t.cell) (many := t.rows.toNat) (by omega)
  unfold whK whR
  exact ⟨⟨by omega, by omega⟩, by omega, by omega⟩
theorem kd_is {t : Trk} {c r : Int} (h : cntP t) (k : okC t c r) : (0 ≤ r * t.cols ∧ r * t.cols ≤ 4096) ∧ r * t.cols + c = ((r * t.cols + c).toNat : Int) ∧ ((r * t.cols + c).toNat : Int) < (t.G.n : Int) ∧ t.G.n ≤ 4225 := by
  obtain ⟨⟨m1, m2⟩, -, hn, -, -⟩ := h
  obtain ⟨⟨k1, k2⟩, k3, k4⟩ := k
  have p1 := mul_64 (a := t.cols) (b := t.rows) (by omega) (by omega) (by omega) (by omega)
  have p0 := Int.mul_nonneg k3 (show 0 ≤ t.cols by omega)
  have p2 := Int.mul_le_mul_of_nonneg_right (show r ≤ t.rows - 1 by omega) (show 0 ≤ t.cols by omega)
  have e : t.cols * t.rows = (t.rows - 1) * t.cols + t.cols := by grind
  have p3 := Int.mul_le_mul (show t.rows - 1 ≤ 63 by omega) (show t.cols ≤ 64 by omega) (by omega) (by omega)
  obtain ⟨P, hP⟩ : ∃ P, r * t.cols = P := ⟨_, rfl⟩
  obtain ⟨S, hS⟩ : ∃ P, (t.rows - 1) * t.cols = P := ⟨_, rfl⟩
  rw [hP] at p0 p2 ⊢
  rw [hS] at p2 e p3
  rw [e] at hn p1
  refine ⟨by omega, by omega, by omega, by omega⟩
end Go.Proofs.Ytllkhgcokbpggaa
