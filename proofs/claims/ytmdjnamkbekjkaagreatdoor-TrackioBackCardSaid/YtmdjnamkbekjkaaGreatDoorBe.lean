/- -/
import Derived.Test.YtmdjnamkbekjkaaGreatDoorBd
import Derived.Test.YtmdjnamkbekjkaaGreatDoorBk
import Derived.Test.YtmdjnamkbekjkaaGreatDoorBy
import Derived.Test.YtmdjnamkbekjkaaGreatDoorBr
import Derived.Test.YtmdjnamkbekjkaaGreatDoorBm
namespace Go.Proofs.YtmdjnamkbekjkaaGreatDoor
open Go.RowKit
set_option linter.unusedVariables false
set_option linter.unusedSimpArgs false
structure PTF (w W : World) (B m b k : Nat) (o : Bool) (t : Trk) : Prop where
 c : BW W m (trkL t)
 f : Flag w W b k o
 t : TrkM B W t
 z : B ≤ b
 e : b < m
theorem PTF.below {w W W' : World} {B C m b k : Nat} {o : Bool} {t : Trk} (Q : PTF w W B m b k o t) (h : Below C W W') (hm : m < C) (hw : w.heap.size ≤ C) : PTF w W' B m b k o t :=
 ⟨Q.c.below h hm, ⟨Q.f.m.below h (by have := Q.e; omega), Q.f.f.then h hw, Q.f.lt⟩, Q.t.keep h (by have := Q.z; have := Q.e; omega), Q.z, Q.e⟩
theorem PTF.step {w W W' : World} {B m b k : Nat} {o : Bool} {t : Trk} (Q : PTF w W B m b k o t) (h : Below W.heap.size W W') : PTF w W' B m b k o t := Q.below h Q.c.lt Q.f.f.size
theorem TrkM.fx {B b k : Nat} {q : Bool} {W W' : World} {t : Trk} (K : TrkM B W t) (h : FxW W.heap.size W b k q W') (hB : B ≤ b) (hW : B ≤ W.heap.size) : TrkM B W' t :=
 K.keep (h.below hW hB) (Nat.le_refl _)
theorem PTF.bz {w W : World} {B m b k : Nat} {o : Bool} {t : Trk} (Q : PTF w W B m b k o t) : B ≤ W.heap.size := by
 have := Q.z
 have := Q.e
 have := Q.c.lt
 omega
theorem PTF.fx {w W W' : World} {B m b k : Nat} {o q : Bool} {t : Trk} (Q : PTF w W B m b k o t) (h : FxW W.heap.size W b k q W') : PTF w W' B m b k q t :=
 ⟨Q.c.fx h (by have := Q.e; omega), Q.f.fx h, Q.t.fx h Q.z Q.bz, Q.z, Q.e⟩
theorem PTF.new {w : World} {B b k : Nat} {o : Bool} {t : Trk} (ty : TypeId) (h : TrkM B w t) (m : MAt w b k o) (z : B ≤ b) : PTF w (w.alloc (.cells #[.int .i64 t.rate, .int .i64 t.cell, .int .i64 t.cols, .int .i64 t.rows, .int .i64 t.cx, .int .i64 t.cy, .slice t.H.a t.H.n t.H.c, .slice t.G.a t.G.n t.G.c, .slice t.ka t.kn t.kc, .slice t.la t.ln t.lc, .slice t.ra t.rn t.rc, .slice t.ga t.gn t.gc, .int .i64 t.sx, .int .i64 t.sy, .int .u32 t.head, .int .i64 t.laps] ty)) B w.heap.size b k o t :=
 ⟨BW.new w _ (trkL t) ty rfl, Flag.start m ((Below.refl _ _).alloc (Nat.le_refl _) _), h.keep ((Below.refl w.heap.size w).alloc (Nat.le_refl _) _) (by have := m.lt; omega), z, m.lt⟩
theorem PTF.cs {w W : World} {B m b k : Nat} {o : Bool} {t : Trk} (Q : PTF w W B m b k o t) : W.cell? ⟨m, 1, none⟩ = some (.int .i64 t.cell) ∧ W.cell? ⟨m, 2, none⟩ = some (.int .i64 t.cols) ∧ W.cell? ⟨m, 3, none⟩ = some (.int .i64 t.rows) ∧ W.cell? ⟨m, 4, none⟩ = some (.int .i64 t.cx) ∧ W.cell? ⟨m, 5, none⟩ = some (.int .i64 t.cy) ∧ W.cell? ⟨m, 6, none⟩ = some (.slice t.H.a t.H.n t.H.c) ∧ W.cell? ⟨m, 7, none⟩ = some (.slice t.G.a t.G.n t.G.c) ∧ W.cell? ⟨m, 8, none⟩ = some (.slice t.ka t.kn t.kc) :=
 ⟨Q.c.c 1 _ rfl, Q.c.c 2 _ rfl, Q.c.c 3 _ rfl, Q.c.c 4 _ rfl, Q.c.c 5 _ rfl, Q.c.c 6 _ rfl, Q.c.c 7 _ rfl, Q.c.c 8 _ rfl⟩
theorem PTF.all {w W : World} {B m b k : Nat} {o : Bool} {t : Trk} (Q : PTF w W B m b k o t) : W.cell? ⟨m, 0, none⟩ = some (.int .i64 t.rate) ∧ W.cell? ⟨m, 1, none⟩ = some (.int .i64 t.cell) ∧ W.cell? ⟨m, 2, none⟩ = some (.int .i64 t.cols) ∧ W.cell? ⟨m, 3, none⟩ = some (.int .i64 t.rows) ∧ W.cell? ⟨m, 4, none⟩ = some (.int .i64 t.cx) ∧ W.cell? ⟨m, 5, none⟩ = some (.int .i64 t.cy) ∧ W.cell? ⟨m, 6, none⟩ = some (.slice t.H.a t.H.n t.H.c) ∧ W.cell? ⟨m, 7, none⟩ = some (.slice t.G.a t.G.n t.G.c) ∧ W.cell? ⟨m, 8, none⟩ = some (.slice t.ka t.kn t.kc) ∧ W.cell? ⟨m, 9, none⟩ = some (.slice t.la t.ln t.lc) ∧ W.cell? ⟨m, 10, none⟩ = some (.slice t.ra t.rn t.rc) ∧ W.cell? ⟨m, 11, none⟩ = some (.slice t.ga t.gn t.gc) ∧ W.cell? ⟨m, 12, none⟩ = some (.int .i64 t.sx) ∧ W.cell? ⟨m, 13, none⟩ = some (.int .i64 t.sy) ∧ W.cell? ⟨m, 14, none⟩ = some (.int .u32 t.head) ∧ W.cell? ⟨m, 15, none⟩ = some (.int .i64 t.laps) :=
 ⟨Q.c.c 0 _ rfl, Q.c.c 1 _ rfl, Q.c.c 2 _ rfl, Q.c.c 3 _ rfl, Q.c.c 4 _ rfl, Q.c.c 5 _ rfl, Q.c.c 6 _ rfl, Q.c.c 7 _ rfl, Q.c.c 8 _ rfl, Q.c.c 9 _ rfl, Q.c.c 10 _ rfl, Q.c.c 11 _ rfl, Q.c.c 12 _ rfl, Q.c.c 13 _ rfl, Q.c.c 14 _ rfl, Q.c.c 15 _ rfl⟩
def h00 (t : Trk) (c r : Int) : Int := t.H.v (atC t c r)
def h10 (t : Trk) (c r : Int) : Int := t.H.v (atC t c r + 1)
def h01 (t : Trk) (c r : Int) : Int := t.H.v (atC t c r + t.cols.toNat + 1)
def h11 (t : Trk) (c r : Int) : Int := t.H.v (atC t c r + t.cols.toNat + 2)
def slaF (t : Trk) (c r : Int) (up : Bool) : Int := if okC t c r then slA t.cell (h00 t c r) (h10 t c r) (h01 t c r) (h11 t c r) up else 0
def slbF (t : Trk) (c r : Int) (up : Bool) : Int := if okC t c r then slB t.cell (h00 t c r) (h10 t c r) (h01 t c r) (h11 t c r) up else 0
theorem TrkR.of {t : Trk} (hc : cntP t) (hf : frP t) : TrkR t := ⟨hf.1, hf.2.1, hf.2.2.1, hc.1⟩
noncomputable def upX (a b : Int) : Int := divF (subF 0 a) (upN a b)
noncomputable def upY (a b : Int) : Int := divF (subF 0 b) (upN a b)
noncomputable def upZ (a b : Int) : Int := divF 4294967296 (upN a b)
abbrev trkV (t : Trk) : Value := .agg #[.int .i64 t.rate, .int .i64 t.cell, .int .i64 t.cols, .int .i64 t.rows, .int .i64 t.cx, .int .i64 t.cy, .slice t.H.a t.H.n t.H.c, .slice t.G.a t.G.n t.G.c, .slice t.ka t.kn t.kc, .slice t.la t.ln t.lc, .slice t.ra t.rn t.rc, .slice t.ga t.gn t.gc, .int .i64 t.sx, .int .i64 t.sy, .int .u32 t.head, .int .i64 t.laps]
structure FieldT where
 P : Nat → Nat → World → Nat → Trk → Prop
 keep : ∀ {lo top W W' f t}, P lo top W f t → W.heap.size ≤ W'.heap.size → (∀ k, lo ≤ k → k < top → W'.heap[k]? = W.heap[k]?) → P lo top W' f t
 top : ∀ {lo top W f t}, P lo top W f t → top ≤ W.heap.size
structure GS (F : FieldT) (w W : World) (lo top f m : Nat) (o : Bool) (t : Trk) : Prop where
 p : F.P lo top W f t
 a : MAt W m 0 o
 bl : Below w.heap.size w W
 e : m < lo ∨ top ≤ m
 n : w.heap.size ≤ m
theorem GS.step {F : FieldT} {w W W' : World} {lo top f m : Nat} {o : Bool} {t : Trk} (s : GS F w W lo top f m o t) (h : Below W.heap.size W W') : GS F w W' lo top f m o t :=
 ⟨F.keep s.p h.size (fun j h1 h2 => h.block j (by have := F.top s.p; omega)), s.a.below h s.a.lt, s.bl.trans (h.mono s.bl.size), s.e, s.n⟩
theorem GS.fx {F : FieldT} {w W W' : World} {lo top f m : Nat} {o q : Bool} {t : Trk} (s : GS F w W lo top f m o t) (h : FxW W.heap.size W m 0 q W') : GS F w W' lo top f m q t :=
 ⟨F.keep s.p h.size (fun j h1 h2 => (fx_grown h).block j (by have := F.top s.p; omega) (fun e => by injection e with e; have := s.e; omega)), h.at s.a s.a.lt, s.bl.trans (h.below s.bl.size s.n), s.e, s.n⟩
structure GD (F : FieldT) (w W : World) (lo top f m d : Nat) (o q : Bool) (t : Trk) : Prop where
 g : GS F w W lo top f m o t
 a : MAt W d 0 q
 e : d < lo ∨ top ≤ d
 n : w.heap.size ≤ d
 md : m ≠ d
theorem GD.step {F : FieldT} {w W W' : World} {lo top f m d : Nat} {o q : Bool} {t : Trk} (s : GD F w W lo top f m d o q t) (h : Below W.heap.size W W') : GD F w W' lo top f m d o q t :=
 ⟨s.g.step h, s.a.below h s.a.lt, s.e, s.n, s.md⟩
theorem MAt.far' {W W' : World} {m d k : Nat} {o q : Bool} (a : MAt W m 0 o) (h : FxW W.heap.size W d k q W') (e : d ≠ m) : MAt W' m 0 o :=
 ⟨(h.cell a.lt e).trans a.c, (h.frozen a.lt).trans a.f, by have := h.size; have := a.lt; omega⟩
theorem GD.fx {F : FieldT} {w W W' : World} {lo top f m d : Nat} {o q r : Bool} {t : Trk} (s : GD F w W lo top f m d o q t) (h : FxW W.heap.size W m 0 r W') : GD F w W' lo top f m d r q t :=
 ⟨s.g.fx h, s.a.far' h s.md, s.e, s.n, s.md⟩
theorem GD.dx {F : FieldT} {w W W' : World} {lo top f m d : Nat} {o q r : Bool} {t : Trk} (s : GD F w W lo top f m d o q t) (h : FxW W.heap.size W d 0 r W') : GD F w W' lo top f m d o r t :=
 ⟨⟨F.keep s.g.p h.size (fun j h1 h2 => (fx_grown h).block j (by have := F.top s.g.p; omega) (fun e => by injection e with e; have := s.e; omega)), s.g.a.far' h (fun e => s.md e.symm), s.g.bl.trans (h.below s.g.bl.size s.n), s.g.e, s.g.n⟩, h.at s.a s.a.lt, s.e, s.n, s.md⟩
def fewT (t : Trk) : Prop := t.H.n ≤ 1200 ∧ t.G.n ≤ 1000 ∧ t.kn ≤ 20
instance (t : Trk) : Decidable (fewT t) := by unfold fewT; exact inferInstance
theorem gfew_any (t : Trk) (B : Nat) (w : World) (hB : B ≤ w.heap.size) (K : TrkM B w t) :
  Calls Tryz.prog 15 #[.agg #[.int .i64 t.rate, .int .i64 t.cell, .int .i64 t.cols, .int .i64 t.rows, .int .i64 t.cx, .int .i64 t.cy, .slice t.H.a t.H.n t.H.c, .slice t.G.a t.G.n t.G.c, .slice t.ka t.kn t.kc, .slice t.la t.ln t.lc, .slice t.ra t.rn t.rc, .slice t.ga t.gn t.gc, .int .i64 t.sx, .int .i64 t.sy, .int .u32 t.head, .int .i64 t.laps]] w fun e w' => e = .returned (.bool (decide (fewT t))) ∧ Below w.heap.size w w' := by
 by_cases h1 : t.H.n ≤ 1200
 ·by_cases h2 : t.G.n ≤ 1000
  ·by_cases h3 : t.kn ≤ 20
   ·have E := Lib.hid (show decide (fewT t) = true from decide_eq_true ⟨h1, h2, h3⟩)
    have g1 : (t.H.n : Int) ≤ 1200 := by omega
    have g2 : (t.G.n : Int) ≤ 1000 := by omega
    have g3 : (t.kn : Int) ≤ 20 := by omega
    rw [E.out]
    go_enter Tryz.func15, Tryz.ntmps15
    go_wp2
    go_ret
    exact ⟨rfl, by repeat (first | exact Below.refl _ _ | assumption | refine Below.setCell ?_ (by first | omega | (simp; done) | (simp; omega)) _ | refine Below.alloc ?_ (by first | omega | (simp; done) | (simp; omega)) _ | refine below_drewN ?_ _ | refine Below.drew ?_ | refine Below.trans ?_ (Below.mono (by assumption) (by first | omega | (simp; done) | (simp; omega))))⟩
   ·have E := Lib.hid (show decide (fewT t) = false from decide_eq_false (fun h => h3 h.2.2))
    have g1 : (t.H.n : Int) ≤ 1200 := by omega
    have g2 : (t.G.n : Int) ≤ 1000 := by omega
    have g3 : ¬ (t.kn : Int) ≤ 20 := by omega
    rw [E.out]
    go_enter Tryz.func15, Tryz.ntmps15
    go_wp2
    go_ret
    exact ⟨rfl, by repeat (first | exact Below.refl _ _ | assumption | refine Below.setCell ?_ (by first | omega | (simp; done) | (simp; omega)) _ | refine Below.alloc ?_ (by first | omega | (simp; done) | (simp; omega)) _ | refine below_drewN ?_ _ | refine Below.drew ?_ | refine Below.trans ?_ (Below.mono (by assumption) (by first | omega | (simp; done) | (simp; omega))))⟩
  ·have E := Lib.hid (show decide (fewT t) = false from decide_eq_false (fun h => h2 h.2.1))
   have g1 : (t.H.n : Int) ≤ 1200 := by omega
   have g2 : ¬ (t.G.n : Int) ≤ 1000 := by omega
   rw [E.out]
   go_enter Tryz.func15, Tryz.ntmps15
   go_wp2
   go_ret
   exact ⟨rfl, by repeat (first | exact Below.refl _ _ | assumption | refine Below.setCell ?_ (by first | omega | (simp; done) | (simp; omega)) _ | refine Below.alloc ?_ (by first | omega | (simp; done) | (simp; omega)) _ | refine below_drewN ?_ _ | refine Below.drew ?_ | refine Below.trans ?_ (Below.mono (by assumption) (by first | omega | (simp; done) | (simp; omega))))⟩
 ·have E := Lib.hid (show decide (fewT t) = false from decide_eq_false (fun h => h1 h.1))
  have g1 : ¬ (t.H.n : Int) ≤ 1200 := by omega
  rw [E.out]
  go_enter Tryz.func15, Tryz.ntmps15
  go_wp2
  go_ret
  exact ⟨rfl, by repeat (first | exact Below.refl _ _ | assumption | refine Below.setCell ?_ (by first | omega | (simp; done) | (simp; omega)) _ | refine Below.alloc ?_ (by first | omega | (simp; done) | (simp; omega)) _ | refine below_drewN ?_ _ | refine Below.drew ?_ | refine Below.trans ?_ (Below.mono (by assumption) (by first | omega | (simp; done) | (simp; omega))))⟩
end Go.Proofs.YtmdjnamkbekjkaaGreatDoor
