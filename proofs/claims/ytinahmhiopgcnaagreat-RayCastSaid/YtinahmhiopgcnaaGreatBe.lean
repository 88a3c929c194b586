/- A track's copy beside a flag; the contract of the document's Slopes of field. -/
import Derived.Test.YtinahmhiopgcnaaGreatBd
import Derived.Test.YtinahmhiopgcnaaGreatBk
import Derived.Test.YtinahmhiopgcnaaGreatBz
import Derived.Test.YtinahmhiopgcnaaGreatJc
import Derived.Test.YtinahmhiopgcnaaGreatBm
namespace Go.Proofs.YtinahmhiopgcnaaGreat
open Go.RowKit
set_option linter.unusedVariables false
set_option linter.unusedSimpArgs false

/-- a track that came in, its copy in block m, a flag in block b -/
structure PTF (w W : World) (B m b k : Nat) (o : Bool) (t : Trk) : Prop where
  c : BW W m (trkL t)
  f : Flag w W b k o
  t : TrkM B W t
  z : B ≤ b
  e : b < m
theorem PTF.below {w W W' : World} {B C m b k : Nat} {o : Bool} {t : Trk} (Q : PTF w W B m b k o t) (h : Below C W W') (hm : m < C) (hw : w.heap.size ≤ C) : PTF w W' B m b k o t :=
  ⟨Q.c.below h hm, ⟨Q.f.m.below h (by have := Q.e; omega), Q.f.f.then h hw, Q.f.lt⟩, Q.t.keep h (by have := Q.z; have := Q.e; omega), Q.z, Q.e⟩
theorem PTF.step {w W W' : World} {B m b k : Nat} {o : Bool} {t : Trk} (Q : PTF w W B m b k o t) (h : Below W.heap.size W W') : PTF w W' B m b k o t := Q.below h Q.c.lt Q.f.f.size
theorem PTF.drew {w W : World} {B m b k : Nat} {o : Bool} {t : Trk} (Q : PTF w W B m b k o t) : PTF w W.drew B m b k o t := Q.step (Below.refl _ _).drew
theorem TrkM.fx {B b k : Nat} {q : Bool} {W W' : World} {t : Trk} (K : TrkM B W t) (h : FxW W.heap.size W b k q W') (hB : B ≤ b) (hW : B ≤ W.heap.size) : TrkM B W' t :=
  K.keep (h.below hW hB) (Nat.le_refl _)
theorem PTF.bz {w W : World} {B m b k : Nat} {o : Bool} {t : Trk} (Q : PTF w W B m b k o t) : B ≤ W.heap.size := by
  have := Q.z
  have := Q.e
  have := Q.c.lt
  omega
theorem PTF.fx {w W W' : World} {B m b k : Nat} {o q : Bool} {t : Trk} (Q : PTF w W B m b k o t) (h : FxW W.heap.size W b k q W') : PTF w W' B m b k q t :=
  ⟨Q.c.fx h (by have := Q.e; omega), Q.f.fx h, Q.t.fx h Q.z Q.bz, Q.z, Q.e⟩
theorem PTF.new {w : World} {B b k : Nat} {o : Bool} {t : Trk} (ty : TypeId) (h : TrkM B w t) (m : MAt w b k o) (z : B ≤ b) : PTF w (w.alloc (.cells #[.int .i64 t.rate, .int .i64 t.cell, .int .i64 t.cols, .int .i64 t.rows, .int .i64 t.cx, .int .i64 t.cy, .slice t.H.a t.H.n t.H.c, .slice t.G.a t.G.n t.G.c, .slice t.ka t.kn t.kc, .slice t.la t.ln t.lc, .slice t.ra t.rn t.rc, .slice t.ga t.gn t.gc, .int .i64 t.sx, .int .i64 t.sy, .int .u32 t.head, .int .i64 t.laps] ty)) B w.heap.size b k o t :=
  ⟨BW.new w _ (trkL t) ty rfl, Flag.start m ((Below.refl _ _).alloc (Nat.le_refl _) _), h.keep ((Below.refl w.heap.size w).alloc (Nat.le_refl _) _) (by have := m.lt; omega), z, m.lt⟩
theorem PTF.cs {w W : World} {B m b k : Nat} {o : Bool} {t : Trk} (Q : PTF w W B m b k o t) : W.cell? ⟨m, 1, none⟩ = some (.int .i64 t.cell) ∧ W.cell? ⟨m, 2, none⟩ = some (.int .i64 t.cols) ∧ W.cell? ⟨m, 3, none⟩ = some (.int .i64 t.rows) ∧ W.cell? ⟨m, 4, none⟩ = some (.int .i64 t.cx) ∧ W.cell? ⟨m, 5, none⟩ = some (.int .i64 t.cy) ∧ W.cell? ⟨m, 6, none⟩ = some (.slice t.H.a t.H.n t.H.c) ∧ W.cell? ⟨m, 7, none⟩ = some (.slice t.G.a t.G.n t.G.c) ∧ W.cell? ⟨m, 8, none⟩ = some (.slice t.ka t.kn t.kc) :=
  ⟨Q.c.c 1 _ rfl, Q.c.c 2 _ rfl, Q.c.c 3 _ rfl, Q.c.c 4 _ rfl, Q.c.c 5 _ rfl, Q.c.c 6 _ rfl, Q.c.c 7 _ rfl, Q.c.c 8 _ rfl⟩
theorem PTF.all {w W : World} {B m b k : Nat} {o : Bool} {t : Trk} (Q : PTF w W B m b k o t) : W.cell? ⟨m, 0, none⟩ = some (.int .i64 t.rate) ∧ W.cell? ⟨m, 1, none⟩ = some (.int .i64 t.cell) ∧ W.cell? ⟨m, 2, none⟩ = some (.int .i64 t.cols) ∧ W.cell? ⟨m, 3, none⟩ = some (.int .i64 t.rows) ∧ W.cell? ⟨m, 4, none⟩ = some (.int .i64 t.cx) ∧ W.cell? ⟨m, 5, none⟩ = some (.int .i64 t.cy) ∧ W.cell? ⟨m, 6, none⟩ = some (.slice t.H.a t.H.n t.H.c) ∧ W.cell? ⟨m, 7, none⟩ = some (.slice t.G.a t.G.n t.G.c) ∧ W.cell? ⟨m, 8, none⟩ = some (.slice t.ka t.kn t.kc) ∧ W.cell? ⟨m, 9, none⟩ = some (.slice t.la t.ln t.lc) ∧ W.cell? ⟨m, 10, none⟩ = some (.slice t.ra t.rn t.rc) ∧ W.cell? ⟨m, 11, none⟩ = some (.slice t.ga t.gn t.gc) ∧ W.cell? ⟨m, 12, none⟩ = some (.int .i64 t.sx) ∧ W.cell? ⟨m, 13, none⟩ = some (.int .i64 t.sy) ∧ W.cell? ⟨m, 14, none⟩ = some (.int .u32 t.head) ∧ W.cell? ⟨m, 15, none⟩ = some (.int .i64 t.laps) :=
  ⟨Q.c.c 0 _ rfl, Q.c.c 1 _ rfl, Q.c.c 2 _ rfl, Q.c.c 3 _ rfl, Q.c.c 4 _ rfl, Q.c.c 5 _ rfl, Q.c.c 6 _ rfl, Q.c.c 7 _ rfl, Q.c.c 8 _ rfl, Q.c.c 9 _ rfl, Q.c.c 10 _ rfl, Q.c.c 11 _ rfl, Q.c.c 12 _ rfl, Q.c.c 13 _ rfl, Q.c.c 14 _ rfl, Q.c.c 15 _ rfl⟩
/-- a cell's four heights -/
def h00 (t : Trk) (c r : Int) : Int := t.H.v (atC t c r)
def h10 (t : Trk) (c r : Int) : Int := t.H.v (atC t c r + 1)
def h01 (t : Trk) (c r : Int) : Int := t.H.v (atC t c r + t.cols.toNat + 1)
def h11 (t : Trk) (c r : Int) : Int := t.H.v (atC t c r + t.cols.toNat + 2)
theorem mod_of {C c r : Nat} (h : c < C + 1) : (r * (C + 1) + c) % (C + 1) = c ∧ (r * (C + 1) + c) / (C + 1) = r := by
  constructor
  · rw [Nat.mul_comm, Nat.mul_add_mod, Nat.mod_eq_of_lt h]
  · rw [Nat.mul_comm, Nat.mul_add_div (by omega), Nat.div_eq_of_lt h, Nat.add_zero]
theorem cell_right {t : Trk} {c r : Int} (h : cntP t) (f : frP t) (k : okC t c r) : CellR t.cell (h00 t c r) (h10 t c r) (h01 t c r) (h11 t c r) := by
  obtain ⟨-, hN, hl, -⟩ := at_is h k
  obtain ⟨⟨m1, m2⟩, -, -, -, -⟩ := h
  obtain ⟨⟨k1, k2⟩, k3, k4⟩ := k
  obtain ⟨f1, -, -, f2, f3⟩ := f
  unfold h00 h10 h01 h11
  obtain ⟨C, hC⟩ : ∃ C : Nat, t.cols = (C : Int) := ⟨t.cols.toNat, by omega⟩
  obtain ⟨R, hR⟩ : ∃ C : Nat, t.rows = (C : Int) := ⟨t.rows.toNat, by omega⟩
  obtain ⟨c', rfl⟩ : ∃ C : Nat, c = (C : Int) := ⟨c.toNat, by omega⟩
  obtain ⟨r', rfl⟩ : ∃ C : Nat, r = (C : Int) := ⟨r.toNat, by omega⟩
  have eC : t.cols.toNat = C := by omega
  have eR : t.rows.toNat = R := by omega
  have eN : atC t c' r' = r' * (C + 1) + c' := by
    rw [hC] at hN
    exact_mod_cast hN.symm
  have q0 := mod_of (C := C) (c := c') (r := r') (by omega)
  have q1 := mod_of (C := C) (c := c' + 1) (r := r') (by omega)
  have q2 := mod_of (C := C) (c := c') (r := r' + 1) (by omega)
  rw [eC]
  rw [eN] at hl ⊢
  have e2 : (r' + 1) * (C + 1) + c' = r' * (C + 1) + c' + C + 1 := by
    rw [Nat.add_mul, Nat.one_mul]; omega
  rw [e2] at q2
  rw [← Nat.add_assoc] at q1
  have hl2 : r' * (C + 1) + c' + C + 2 < t.H.n := by
    have e : ((r' * (C + 1) + c' : Nat) : Int) + t.cols + 2 = ((r' * (C + 1) + c' + C + 2 : Nat) : Int) := by rw [hC]; push_cast; omega
    rw [e] at hl
    exact_mod_cast hl
  generalize r' * (C + 1) + c' = N at *
  have x0 := (f3 N (by omega)).1
  have x1 := (f3 (N + C + 1) (by omega)).1
  have y0 := (f3 N (by omega)).2
  have y1 := (f3 (N + 1) (by omega)).2
  unfold adjX at x0 x1
  unfold adjY at y0 y1
  rw [eC, q0.1] at x0
  rw [eC, q2.1] at x1
  rw [eC, eR, q0.2] at y0
  rw [eC, eR, q1.2] at y1
  have x0' := x0 (by omega)
  have x1' := x1 (by omega)
  have y0' := y0 (by omega)
  have y1' := y1 (by omega)
  rw [show N + 1 + C + 1 = N + C + 2 by omega] at y1'
  exact ⟨f1.1, f1.2, ⟨f2 _ (by omega), f2 _ (by omega), f2 _ (by omega), f2 _ (by omega)⟩, x0', x1', y0', y1'⟩
def slaF (t : Trk) (c r : Int) (up : Bool) : Int := if okC t c r then slA t.cell (h00 t c r) (h10 t c r) (h01 t c r) (h11 t c r) up else 0
def slbF (t : Trk) (c r : Int) (up : Bool) : Int := if okC t c r then slB t.cell (h00 t c r) (h10 t c r) (h01 t c r) (h11 t c r) up else 0
set_option maxRecDepth 100000 in
set_option maxHeartbeats 1600000 in
theorem rFSlopes_any (t : Trk) (c r : Int) (up : Bool) (b k : Nat) (o : Bool) (B : Nat) (w : World) (hB : B ≤ b) (hc : cntP t) (hf : frP t) (K : TrkM B w t) (m : MAt w b k o) :
    Calls Tryz.prog 25 #[.pointer (some ⟨b, k, none⟩), .agg #[.int .i64 t.rate, .int .i64 t.cell, .int .i64 t.cols, .int .i64 t.rows, .int .i64 t.cx, .int .i64 t.cy, .slice t.H.a t.H.n t.H.c, .slice t.G.a t.G.n t.G.c, .slice t.ka t.kn t.kc, .slice t.la t.ln t.lc, .slice t.ra t.rn t.rc, .slice t.ga t.gn t.gc, .int .i64 t.sx, .int .i64 t.sy, .int .u32 t.head, .int .i64 t.laps], .int .i64 c, .int .i64 r, .bool up] w fun e w' => e = .returned (.tuple #[.int .i64 (slaF t c r up), .int .i64 (slbF t c r up)]) ∧ FxW w.heap.size w b k o w' := by
  have Q0 := Lib.hid (PTF.new 34 K m hB)
  obtain ⟨qa, ha⟩ : ∃ q, slaF t c r up = q := ⟨_, rfl⟩
  obtain ⟨qb, hb⟩ : ∃ q, slbF t c r up = q := ⟨_, rfl⟩
  rw [ha, hb]
  have NF := Lib.hid (show ¬ okC t c r → 0 = qa ∧ 0 = qb from fun k => ⟨by rw [← ha]; unfold slaF; rw [if_neg k], by rw [← hb]; unfold slbF; rw [if_neg k]⟩)
  have NA := Lib.hid (show okC t c r → slA t.cell (h00 t c r) (h10 t c r) (h01 t c r) (h11 t c r) up = qa from fun k => by rw [← ha]; unfold slaF; rw [if_pos k])
  have NB := Lib.hid (show okC t c r → slB t.cell (h00 t c r) (h10 t c r) (h01 t c r) (h11 t c r) up = qb from fun k => by rw [← hb]; unfold slbF; rw [if_pos k])
  have hlt := m.lt
  clear ha hb m
  by_cases s1 : c < 0
  · skip
    have E := Lib.hid (NF.out (fun k => by have := k.1.1; omega))
    clear NF NA NB K
    go_enter Tryz.func25, Tryz.ntmps25
    go_wp2
    go_ret2
    exact ⟨retII E.out.1 E.out.2, Q0.out.f.f⟩
  by_cases s2 : t.cols ≤ c
  · skip
    have E := Lib.hid (NF.out (fun k => by have := k.1.2; omega))
    clear NF NA NB K
    go_enter Tryz.func25, Tryz.ntmps25
    go_wp2
    go_ret2
    exact ⟨retII E.out.1 E.out.2, Q0.out.f.f⟩
  by_cases s3 : r < 0
  · skip
    have E := Lib.hid (NF.out (fun k => by have := k.2.1; omega))
    clear NF NA NB K
    go_enter Tryz.func25, Tryz.ntmps25
    go_wp2
    go_ret2
    exact ⟨retII E.out.1 E.out.2, Q0.out.f.f⟩
  by_cases s4 : t.rows ≤ r
  · skip
    have E := Lib.hid (NF.out (fun k => by have := k.2.2; omega))
    clear NF NA NB K
    go_enter Tryz.func25, Tryz.ntmps25
    go_wp2
    go_ret2
    exact ⟨retII E.out.1 E.out.2, Q0.out.f.f⟩
  have ok : okC t c r := ⟨by omega, by omega⟩
  have CR := cell_right hc hf ok
  replace NA := Lib.hid (NA.out ok)
  replace NB := Lib.hid (NB.out ok)
  obtain ⟨hp, hN, hl, h4⟩ := at_is hc ok
  obtain ⟨⟨m1, -⟩, -, -, -, -⟩ := hc
  obtain ⟨m10, m11⟩ := m1
  obtain ⟨hp0, hp1⟩ := hp
  unfold h00 h10 h01 h11 at *
  generalize atC t c r = N at *
  obtain ⟨n1, e1⟩ : ∃ n, N + 1 = n := ⟨_, rfl⟩
  obtain ⟨n2, e2⟩ : ∃ n, N + t.cols.toNat + 1 = n := ⟨_, rfl⟩
  obtain ⟨n3, e3⟩ : ∃ n, N + t.cols.toNat + 2 = n := ⟨_, rfl⟩
  rw [e1, e2, e3] at CR
  rw [e1, e2, e3] at NA NB
  have x1 : (N : Int) + 1 = (n1 : Int) := by omega
  have x2 : (N : Int) + t.cols + 1 = (n2 : Int) := by omega
  have x3 : (N : Int) + t.cols + 2 = (n3 : Int) := by omega
  have l1 : (n1 : Int) < (t.H.n : Int) := by omega
  have l2 : (n2 : Int) < (t.H.n : Int) := by omega
  have l3 : (n3 : Int) < (t.H.n : Int) := by omega
  have l0 : (N : Int) < (t.H.n : Int) := by omega
  have z0 : (0 : Int) ≤ (N : Int) := by omega
  clear e1 e2 e3 hl hf ok NF
  obtain ⟨P, hP⟩ : ∃ P, r * (t.cols + 1) = P := ⟨_, rfl⟩
  rw [hP] at hN hp0 hp1
  obtain ⟨k0, k1, ⟨⟨a0, a1⟩, ⟨b0, b1⟩, ⟨g0, g1⟩, ⟨f0, f1⟩⟩, X0, X1, Y0, Y1⟩ := CR
  cases up
  · unfold slA at NA
    unfold slB at NB
    rw [if_neg (by simp)] at NA NB
    obtain ⟨e1, -, -, -⟩ := fdiv_gen (p := t.H.v n1 - t.H.v N) (c := t.cell) (by omega) X0.1 X0.2
    obtain ⟨e2, -, -, -⟩ := fdiv_gen (p := t.H.v n3 - t.H.v n1) (c := t.cell) (by omega) Y1.1 Y1.2
    have JA := Lib.hid (fun (o : Bool) (W : World) (m : MAt W b k o) => by
      have := rfDiv_any (t.H.v n1 - t.H.v N) t.cell b k o W (by omega) (by omega) (by omega) (by omega) m
      rw [e1, Bool.or_false] at this
      exact this)
    have JB := Lib.hid (fun (o : Bool) (W : World) (m : MAt W b k o) => by
      have := rfDiv_any (t.H.v n3 - t.H.v n1) t.cell b k o W (by omega) (by omega) (by omega) (by omega) m
      rw [e2, Bool.or_false] at this
      exact this)
    have EA := Lib.hid (show divF (t.H.v n1 - t.H.v N) t.cell = qa from NA.out)
    have EB := Lib.hid (show divF (t.H.v n3 - t.H.v n1) t.cell = qb from NB.out)
    clear NA NB e1 e2
    rw [EA.out] at JA
    rw [EB.out] at JB
    clear EA EB
    obtain ⟨bH, off, ha, hbH, hcell⟩ := K.H.at' (by omega)
    rw [ha] at Q0 ⊢
    have d0 := hcell N (by omega)
    have d1 := hcell n1 (by omega)
    have d2 := hcell n2 (by omega)
    have d3 := hcell n3 (by omega)
    have hbb : bH < w.heap.size := by omega
    clear ha hcell hbH K
    go_enter Tryz.func25, Tryz.ntmps25
    go_wp2_with fail
    refine wp_gen (S := fun W => PTF w W B w.heap.size b k o t) Q0.out (fun W1 hS => ?_)
    have Q1 := Lib.hid hS
    clear hS Q0
    refine wp_region_held_drew (S := fun W => W.cell? ⟨w.heap.size, 1, none⟩ = some (.int .i64 t.cell)) (by kernel_rfl) (Q1.out.drew.cs.1) (fun hHeld => ?_)
    have Q2 := Lib.hid Q1.out.drew
    clear Q1 d0 d1 d2 d3
    generalize W1.drew = w0 at *
    obtain ⟨u1, v1⟩ := wrap_in' (n := t.H.v n1 - t.H.v N) (by unfold In64; omega)
    obtain ⟨u2, v2⟩ := wrap_in' (n := t.H.v n3 - t.H.v n1) (by unfold In64; omega)
    refine wpAnyH_takeD 0 86 (v := ?_) (by kernel_rfl) (by kernel_rfl) (by kernel_rfl) (by kernel_rfl) (by rfl) (fun _ _ _ h => h) ?_ hHeld ?_
    rotate_left 1
    (intro o ho W hSw; simp only [List.getElem?_toArray, List.getElem?_cons_succ, List.getElem?_cons_zero, Option.some.injEq] at ho; subst ho; (try dsimp only at hSw); go_simp; try with_reducible rfl)
    (try simp only [Act.put, List.setIfInBounds_toArray, List.set_cons_zero, List.set_cons_succ])
    refine wpAnyH_takeD 1 87 (v := ?_) (by kernel_rfl) (by kernel_rfl) (by kernel_rfl) (by kernel_rfl) (by rfl) (fun _ _ _ h => h) ?_ hHeld ?_
    rotate_left 1
    (intro o ho W hSw; simp only [List.getElem?_toArray, List.getElem?_cons_succ, List.getElem?_cons_zero, Option.some.injEq] at ho; subst ho; (try dsimp only at hSw); go_simp; try with_reducible rfl)
    (try simp only [Act.put, List.setIfInBounds_toArray, List.set_cons_zero, List.set_cons_succ])
    refine wpAnyH_takeD 2 88 (v := ?_) (by kernel_rfl) (by kernel_rfl) (by kernel_rfl) (by kernel_rfl) (by rfl) (fun _ _ _ h => h) ?_ hHeld ?_
    rotate_left 1
    (intro o ho W hSw; simp only [List.getElem?_toArray, List.getElem?_cons_succ, List.getElem?_cons_zero, Option.some.injEq] at ho; subst ho; (try dsimp only at hSw); go_simp; try with_reducible rfl)
    (try simp only [Act.put, List.setIfInBounds_toArray, List.set_cons_zero, List.set_cons_succ])
    refine wpAnyH_takeD 3 89 (v := ?_) (by kernel_rfl) (by kernel_rfl) (by kernel_rfl) (by kernel_rfl) (by rfl) (fun _ _ _ h => h) ?_ hHeld ?_
    rotate_left 1
    (intro o ho W hSw; simp only [List.getElem?_toArray, List.getElem?_cons_succ, List.getElem?_cons_zero, Option.some.injEq] at ho; subst ho; (try dsimp only at hSw); go_simp; try with_reducible rfl)
    (try simp only [Act.put, List.setIfInBounds_toArray, List.set_cons_zero, List.set_cons_succ])
    refine wpAnyH_takeD 4 90 (v := ?_) (by kernel_rfl) (by kernel_rfl) (by kernel_rfl) (by kernel_rfl) (by rfl) (fun _ _ _ h => h) ?_ hHeld ?_
    rotate_left 1
    (intro o ho W hSw; simp only [List.getElem?_toArray, List.getElem?_cons_succ, List.getElem?_cons_zero, Option.some.injEq] at ho; subst ho; (try dsimp only at hSw); go_simp; try with_reducible rfl)
    (try simp only [Act.put, List.setIfInBounds_toArray, List.set_cons_zero, List.set_cons_succ])
    refine wpAnyH_takeD 5 91 (v := ?_) (by kernel_rfl) (by kernel_rfl) (by kernel_rfl) (by kernel_rfl) (by rfl) (fun _ _ _ h => h) ?_ hHeld ?_
    rotate_left 1
    (intro o ho W hSw; simp only [List.getElem?_toArray, List.getElem?_cons_succ, List.getElem?_cons_zero, Option.some.injEq] at ho; subst ho; (try dsimp only at hSw); go_simp; try with_reducible rfl)
    (try simp only [Act.put, List.setIfInBounds_toArray, List.set_cons_zero, List.set_cons_succ])
    refine wpAnyH_takeD 7 93 (v := ?_) (by kernel_rfl) (by kernel_rfl) (by kernel_rfl) (by kernel_rfl) (by rfl) (fun _ _ _ h => h) ?_ hHeld ?_
    rotate_left 1
    (intro o ho W hSw; simp only [List.getElem?_toArray, List.getElem?_cons_succ, List.getElem?_cons_zero, Option.some.injEq] at ho; subst ho; (try dsimp only at hSw); go_simp; try with_reducible rfl)
    (try simp only [Act.put, List.setIfInBounds_toArray, List.set_cons_zero, List.set_cons_succ])
    refine wpAnyH_takeD 8 94 (v := ?_) (by kernel_rfl) (by kernel_rfl) (by kernel_rfl) (by kernel_rfl) (by rfl) (fun _ _ _ h => h) ?_ hHeld ?_
    rotate_left 1
    (intro o ho W hSw; simp only [List.getElem?_toArray, List.getElem?_cons_succ, List.getElem?_cons_zero, Option.some.injEq] at ho; subst ho; (try dsimp only at hSw); go_simp; try with_reducible rfl)
    (try simp only [Act.put, List.setIfInBounds_toArray, List.set_cons_zero, List.set_cons_succ])
    refine wpAnyH_takeD 9 95 (v := ?_) (by kernel_rfl) (by kernel_rfl) (by kernel_rfl) (by kernel_rfl) (by rfl) (fun _ _ _ h => h) ?_ hHeld ?_
    rotate_left 1
    (intro o ho W hSw; simp only [List.getElem?_toArray, List.getElem?_cons_succ, List.getElem?_cons_zero, Option.some.injEq] at ho; subst ho; (try dsimp only at hSw); go_simp; try with_reducible rfl)
    (try simp only [Act.put, List.setIfInBounds_toArray, List.set_cons_zero, List.set_cons_succ])
    refine wpAnyH_takeD 10 96 (v := ?_) (by kernel_rfl) (by kernel_rfl) (by kernel_rfl) (by kernel_rfl) (by rfl) (fun _ _ _ h => h) ?_ hHeld ?_
    rotate_left 1
    (intro o ho W hSw; simp only [List.getElem?_toArray, List.getElem?_cons_succ, List.getElem?_cons_zero, Option.some.injEq] at ho; subst ho; (try dsimp only at hSw); go_simp; try with_reducible rfl)
    (try simp only [Act.put, List.setIfInBounds_toArray, List.set_cons_zero, List.set_cons_succ])
    refine wpAnyH_takeD 11 97 (v := ?_) (by kernel_rfl) (by kernel_rfl) (by kernel_rfl) (by kernel_rfl) (by rfl) (fun _ _ _ h => h) ?_ hHeld ?_
    rotate_left 1
    (intro o ho W hSw; simp only [List.getElem?_toArray, List.getElem?_cons_succ, List.getElem?_cons_zero, Option.some.injEq] at ho; subst ho; (try dsimp only at hSw); go_simp; try with_reducible rfl)
    (try simp only [Act.put, List.setIfInBounds_toArray, List.set_cons_zero, List.set_cons_succ])
    refine wpAnyH_takeD 12 98 (v := ?_) (by kernel_rfl) (by kernel_rfl) (by kernel_rfl) (by kernel_rfl) (by rfl) (fun _ _ _ h => h) ?_ hHeld ?_
    rotate_left 1
    (intro o ho W hSw; simp only [List.getElem?_toArray, List.getElem?_cons_succ, List.getElem?_cons_zero, Option.some.injEq] at ho; subst ho; (try dsimp only at hSw); go_simp; try with_reducible rfl)
    (try simp only [Act.put, List.setIfInBounds_toArray, List.set_cons_zero, List.set_cons_succ])
    refine wpAnyH_onlyD 6 (by kernel_rfl) (fun o ho K hK => ?_) (by kernel_rfl)
    simp only [List.getElem?_toArray, List.getElem?_cons_succ, List.getElem?_cons_zero, Option.some.injEq] at ho
    subst ho
    go_simp
    refine (JA.out _ _ Q2.out.f.m).mono ?_
    rintro e w1 ⟨rfl, h⟩
    have Q3 := Lib.hid (Q2.out.fx h)
    go_wp2_with fail
    refine hK.out _ _ (Q3.out.cs.1) ?_
    clear hK K hHeld
    intro hHeld
    clear h Q2 JA
    refine wpAnyH_onlyD 13 (by kernel_rfl) (fun o ho K hK => ?_) (by kernel_rfl)
    simp only [List.getElem?_toArray, List.getElem?_cons_succ, List.getElem?_cons_zero, Option.some.injEq] at ho
    subst ho
    go_simp
    refine (JB.out _ _ Q3.out.f.m).mono ?_
    rintro e w2 ⟨rfl, h⟩
    have Q4 := Lib.hid (Q3.out.fx h)
    go_wp2_with fail
    refine hK.out _ _ (Q4.out.cs.1) ?_
    clear hK K hHeld
    intro hHeld
    clear h Q3 JB
    refine wpAnyH_takeD 14 10 (v := ?_) (by kernel_rfl) (by kernel_rfl) (by kernel_rfl) (by kernel_rfl) (by rfl) (fun _ _ _ h => h) ?_ hHeld ?_
    rotate_left 1
    (intro o ho W hSw; simp only [List.getElem?_toArray, List.getElem?_cons_succ, List.getElem?_cons_zero, Option.some.injEq] at ho; subst ho; (try dsimp only at hSw); go_simp; try with_reducible rfl)
    (try simp only [Act.put, List.setIfInBounds_toArray, List.set_cons_zero, List.set_cons_succ])
    refine wpAnyH_takeD 15 11 (v := ?_) (by kernel_rfl) (by kernel_rfl) (by kernel_rfl) (by kernel_rfl) (by rfl) (fun _ _ _ h => h) ?_ hHeld ?_
    rotate_left 1
    (intro o ho W hSw; simp only [List.getElem?_toArray, List.getElem?_cons_succ, List.getElem?_cons_zero, Option.some.injEq] at ho; subst ho; (try dsimp only at hSw); go_simp; try with_reducible rfl)
    (try simp only [Act.put, List.setIfInBounds_toArray, List.set_cons_zero, List.set_cons_succ])
    refine wpAnyH_done (by kernel_rfl) ?_ _
    clear hHeld
    go_wp2
    go_ret2
    exact ⟨rfl, Q4.out.f.f⟩
  · unfold slA at NA
    unfold slB at NB
    rw [if_pos rfl] at NA NB
    obtain ⟨e1, -, -, -⟩ := fdiv_gen (p := t.H.v n3 - t.H.v n2) (c := t.cell) (by omega) X1.1 X1.2
    obtain ⟨e2, -, -, -⟩ := fdiv_gen (p := t.H.v n2 - t.H.v N) (c := t.cell) (by omega) Y0.1 Y0.2
    have JA := Lib.hid (fun (o : Bool) (W : World) (m : MAt W b k o) => by
      have := rfDiv_any (t.H.v n3 - t.H.v n2) t.cell b k o W (by omega) (by omega) (by omega) (by omega) m
      rw [e1, Bool.or_false] at this
      exact this)
    have JB := Lib.hid (fun (o : Bool) (W : World) (m : MAt W b k o) => by
      have := rfDiv_any (t.H.v n2 - t.H.v N) t.cell b k o W (by omega) (by omega) (by omega) (by omega) m
      rw [e2, Bool.or_false] at this
      exact this)
    have EA := Lib.hid (show divF (t.H.v n3 - t.H.v n2) t.cell = qa from NA.out)
    have EB := Lib.hid (show divF (t.H.v n2 - t.H.v N) t.cell = qb from NB.out)
    clear NA NB e1 e2
    rw [EA.out] at JA
    rw [EB.out] at JB
    clear EA EB
    obtain ⟨bH, off, ha, hbH, hcell⟩ := K.H.at' (by omega)
    rw [ha] at Q0 ⊢
    have d0 := hcell N (by omega)
    have d1 := hcell n1 (by omega)
    have d2 := hcell n2 (by omega)
    have d3 := hcell n3 (by omega)
    have hbb : bH < w.heap.size := by omega
    clear ha hcell hbH K
    go_enter Tryz.func25, Tryz.ntmps25
    go_wp2_with fail
    refine wp_gen (S := fun W => PTF w W B w.heap.size b k o t) Q0.out (fun W1 hS => ?_)
    have Q1 := Lib.hid hS
    clear hS Q0
    refine wp_region_held_drew (S := fun W => W.cell? ⟨w.heap.size, 1, none⟩ = some (.int .i64 t.cell)) (by kernel_rfl) (Q1.out.drew.cs.1) (fun hHeld => ?_)
    have Q2 := Lib.hid Q1.out.drew
    clear Q1 d0 d1 d2 d3
    generalize W1.drew = w0 at *
    obtain ⟨u1, v1⟩ := wrap_in' (n := t.H.v n3 - t.H.v n2) (by unfold In64; omega)
    obtain ⟨u2, v2⟩ := wrap_in' (n := t.H.v n2 - t.H.v N) (by unfold In64; omega)
    refine wpAnyH_takeD 0 72 (v := ?_) (by kernel_rfl) (by kernel_rfl) (by kernel_rfl) (by kernel_rfl) (by rfl) (fun _ _ _ h => h) ?_ hHeld ?_
    rotate_left 1
    (intro o ho W hSw; simp only [List.getElem?_toArray, List.getElem?_cons_succ, List.getElem?_cons_zero, Option.some.injEq] at ho; subst ho; (try dsimp only at hSw); go_simp; try with_reducible rfl)
    (try simp only [Act.put, List.setIfInBounds_toArray, List.set_cons_zero, List.set_cons_succ])
    refine wpAnyH_takeD 1 73 (v := ?_) (by kernel_rfl) (by kernel_rfl) (by kernel_rfl) (by kernel_rfl) (by rfl) (fun _ _ _ h => h) ?_ hHeld ?_
    rotate_left 1
    (intro o ho W hSw; simp only [List.getElem?_toArray, List.getElem?_cons_succ, List.getElem?_cons_zero, Option.some.injEq] at ho; subst ho; (try dsimp only at hSw); go_simp; try with_reducible rfl)
    (try simp only [Act.put, List.setIfInBounds_toArray, List.set_cons_zero, List.set_cons_succ])
    refine wpAnyH_takeD 2 74 (v := ?_) (by kernel_rfl) (by kernel_rfl) (by kernel_rfl) (by kernel_rfl) (by rfl) (fun _ _ _ h => h) ?_ hHeld ?_
    rotate_left 1
    (intro o ho W hSw; simp only [List.getElem?_toArray, List.getElem?_cons_succ, List.getElem?_cons_zero, Option.some.injEq] at ho; subst ho; (try dsimp only at hSw); go_simp; try with_reducible rfl)
    (try simp only [Act.put, List.setIfInBounds_toArray, List.set_cons_zero, List.set_cons_succ])
    refine wpAnyH_takeD 3 75 (v := ?_) (by kernel_rfl) (by kernel_rfl) (by kernel_rfl) (by kernel_rfl) (by rfl) (fun _ _ _ h => h) ?_ hHeld ?_
    rotate_left 1
    (intro o ho W hSw; simp only [List.getElem?_toArray, List.getElem?_cons_succ, List.getElem?_cons_zero, Option.some.injEq] at ho; subst ho; (try dsimp only at hSw); go_simp; try with_reducible rfl)
    (try simp only [Act.put, List.setIfInBounds_toArray, List.set_cons_zero, List.set_cons_succ])
    refine wpAnyH_takeD 4 76 (v := ?_) (by kernel_rfl) (by kernel_rfl) (by kernel_rfl) (by kernel_rfl) (by rfl) (fun _ _ _ h => h) ?_ hHeld ?_
    rotate_left 1
    (intro o ho W hSw; simp only [List.getElem?_toArray, List.getElem?_cons_succ, List.getElem?_cons_zero, Option.some.injEq] at ho; subst ho; (try dsimp only at hSw); go_simp; try with_reducible rfl)
    (try simp only [Act.put, List.setIfInBounds_toArray, List.set_cons_zero, List.set_cons_succ])
    refine wpAnyH_takeD 5 77 (v := ?_) (by kernel_rfl) (by kernel_rfl) (by kernel_rfl) (by kernel_rfl) (by rfl) (fun _ _ _ h => h) ?_ hHeld ?_
    rotate_left 1
    (intro o ho W hSw; simp only [List.getElem?_toArray, List.getElem?_cons_succ, List.getElem?_cons_zero, Option.some.injEq] at ho; subst ho; (try dsimp only at hSw); go_simp; try with_reducible rfl)
    (try simp only [Act.put, List.setIfInBounds_toArray, List.set_cons_zero, List.set_cons_succ])
    refine wpAnyH_takeD 7 79 (v := ?_) (by kernel_rfl) (by kernel_rfl) (by kernel_rfl) (by kernel_rfl) (by rfl) (fun _ _ _ h => h) ?_ hHeld ?_
    rotate_left 1
    (intro o ho W hSw; simp only [List.getElem?_toArray, List.getElem?_cons_succ, List.getElem?_cons_zero, Option.some.injEq] at ho; subst ho; (try dsimp only at hSw); go_simp; try with_reducible rfl)
    (try simp only [Act.put, List.setIfInBounds_toArray, List.set_cons_zero, List.set_cons_succ])
    refine wpAnyH_takeD 8 80 (v := ?_) (by kernel_rfl) (by kernel_rfl) (by kernel_rfl) (by kernel_rfl) (by rfl) (fun _ _ _ h => h) ?_ hHeld ?_
    rotate_left 1
    (intro o ho W hSw; simp only [List.getElem?_toArray, List.getElem?_cons_succ, List.getElem?_cons_zero, Option.some.injEq] at ho; subst ho; (try dsimp only at hSw); go_simp; try with_reducible rfl)
    (try simp only [Act.put, List.setIfInBounds_toArray, List.set_cons_zero, List.set_cons_succ])
    refine wpAnyH_takeD 9 81 (v := ?_) (by kernel_rfl) (by kernel_rfl) (by kernel_rfl) (by kernel_rfl) (by rfl) (fun _ _ _ h => h) ?_ hHeld ?_
    rotate_left 1
    (intro o ho W hSw; simp only [List.getElem?_toArray, List.getElem?_cons_succ, List.getElem?_cons_zero, Option.some.injEq] at ho; subst ho; (try dsimp only at hSw); go_simp; try with_reducible rfl)
    (try simp only [Act.put, List.setIfInBounds_toArray, List.set_cons_zero, List.set_cons_succ])
    refine wpAnyH_takeD 10 82 (v := ?_) (by kernel_rfl) (by kernel_rfl) (by kernel_rfl) (by kernel_rfl) (by rfl) (fun _ _ _ h => h) ?_ hHeld ?_
    rotate_left 1
    (intro o ho W hSw; simp only [List.getElem?_toArray, List.getElem?_cons_succ, List.getElem?_cons_zero, Option.some.injEq] at ho; subst ho; (try dsimp only at hSw); go_simp; try with_reducible rfl)
    (try simp only [Act.put, List.setIfInBounds_toArray, List.set_cons_zero, List.set_cons_succ])
    refine wpAnyH_takeD 11 83 (v := ?_) (by kernel_rfl) (by kernel_rfl) (by kernel_rfl) (by kernel_rfl) (by rfl) (fun _ _ _ h => h) ?_ hHeld ?_
    rotate_left 1
    (intro o ho W hSw; simp only [List.getElem?_toArray, List.getElem?_cons_succ, List.getElem?_cons_zero, Option.some.injEq] at ho; subst ho; (try dsimp only at hSw); go_simp; try with_reducible rfl)
    (try simp only [Act.put, List.setIfInBounds_toArray, List.set_cons_zero, List.set_cons_succ])
    refine wpAnyH_takeD 12 84 (v := ?_) (by kernel_rfl) (by kernel_rfl) (by kernel_rfl) (by kernel_rfl) (by rfl) (fun _ _ _ h => h) ?_ hHeld ?_
    rotate_left 1
    (intro o ho W hSw; simp only [List.getElem?_toArray, List.getElem?_cons_succ, List.getElem?_cons_zero, Option.some.injEq] at ho; subst ho; (try dsimp only at hSw); go_simp; try with_reducible rfl)
    (try simp only [Act.put, List.setIfInBounds_toArray, List.set_cons_zero, List.set_cons_succ])
    refine wpAnyH_onlyD 6 (by kernel_rfl) (fun o ho K hK => ?_) (by kernel_rfl)
    simp only [List.getElem?_toArray, List.getElem?_cons_succ, List.getElem?_cons_zero, Option.some.injEq] at ho
    subst ho
    go_simp
    refine (JA.out _ _ Q2.out.f.m).mono ?_
    rintro e w1 ⟨rfl, h⟩
    have Q3 := Lib.hid (Q2.out.fx h)
    go_wp2_with fail
    refine hK.out _ _ (Q3.out.cs.1) ?_
    clear hK K hHeld
    intro hHeld
    clear h Q2 JA
    refine wpAnyH_onlyD 13 (by kernel_rfl) (fun o ho K hK => ?_) (by kernel_rfl)
    simp only [List.getElem?_toArray, List.getElem?_cons_succ, List.getElem?_cons_zero, Option.some.injEq] at ho
    subst ho
    go_simp
    refine (JB.out _ _ Q3.out.f.m).mono ?_
    rintro e w2 ⟨rfl, h⟩
    have Q4 := Lib.hid (Q3.out.fx h)
    go_wp2_with fail
    refine hK.out _ _ (Q4.out.cs.1) ?_
    clear hK K hHeld
    intro hHeld
    clear h Q3 JB
    refine wpAnyH_takeD 14 10 (v := ?_) (by kernel_rfl) (by kernel_rfl) (by kernel_rfl) (by kernel_rfl) (by rfl) (fun _ _ _ h => h) ?_ hHeld ?_
    rotate_left 1
    (intro o ho W hSw; simp only [List.getElem?_toArray, List.getElem?_cons_succ, List.getElem?_cons_zero, Option.some.injEq] at ho; subst ho; (try dsimp only at hSw); go_simp; try with_reducible rfl)
    (try simp only [Act.put, List.setIfInBounds_toArray, List.set_cons_zero, List.set_cons_succ])
    refine wpAnyH_takeD 15 11 (v := ?_) (by kernel_rfl) (by kernel_rfl) (by kernel_rfl) (by kernel_rfl) (by rfl) (fun _ _ _ h => h) ?_ hHeld ?_
    rotate_left 1
    (intro o ho W hSw; simp only [List.getElem?_toArray, List.getElem?_cons_succ, List.getElem?_cons_zero, Option.some.injEq] at ho; subst ho; (try dsimp only at hSw); go_simp; try with_reducible rfl)
    (try simp only [Act.put, List.setIfInBounds_toArray, List.set_cons_zero, List.set_cons_succ])
    refine wpAnyH_done (by kernel_rfl) ?_ _
    clear hHeld
    go_wp2
    go_ret2
    exact ⟨rfl, Q4.out.f.f⟩
end Go.Proofs.YtinahmhiopgcnaaGreat
namespace Go.Proofs.YtinahmhiopgcnaaGreat
open Go.RowKit
set_option linter.unusedVariables false
set_option linter.unusedSimpArgs false

theorem ax_off {d cell : Int} {many : Nat} (hc : 0 < cell) (h0 : -422212465065984 ≤ d) (h1 : d ≤ 422212465065984) : Off (axD d cell many) := by
  unfold axD axK Off
  split
  · omega
  · have e := Int.ediv_mul_le d (show cell ≠ 0 by omega)
    have p := Int.ediv_nonneg (show 0 ≤ d by omega) (show 0 ≤ cell by omega)
    have q : ((min (d / cell).toNat (many - 1) : Nat) : Int) ≤ d / cell := by omega
    have r := Int.mul_le_mul_of_nonneg_right q (show 0 ≤ cell by omega)
    have s := Int.mul_nonneg (show 0 ≤ ((min (d / cell).toNat (many - 1) : Nat) : Int) by omega) (show 0 ≤ cell by omega)
    generalize ((min (d / cell).toNat (many - 1) : Nat) : Int) * cell = z at *
    generalize d / cell * cell = z2 at *
    omega
theorem wh_offX {t : Trk} (f : frP t) (x : Int) : Off (whX t x) := by
  obtain ⟨f1, f2, f3, -⟩ := f
  have := axF_in (n := x) f2
  exact ax_off (by omega) this.1 this.2
theorem wh_offY {t : Trk} (f : frP t) (y : Int) : Off (whY t y) := by
  obtain ⟨f1, f2, f3, -⟩ := f
  have := axF_in (n := y) f3
  exact ax_off (by omega) this.1 this.2
/-- the height of a place -/
def heightF (t : Trk) (x y : Int) : Int := hgF t.cell (h00 t (whK t x) (whR t y)) (h10 t (whK t x) (whR t y)) (h01 t (whK t x) (whR t y)) (h11 t (whK t x) (whR t y)) (whX t x) (whY t y)
theorem TrkR.of {t : Trk} (hc : cntP t) (hf : frP t) : TrkR t := ⟨hf.1, hf.2.1, hf.2.2.1, hc.1⟩
end Go.Proofs.YtinahmhiopgcnaaGreat
namespace Go.Proofs.YtinahmhiopgcnaaGreat
open Go.RowKit
set_option linter.unusedVariables false
set_option linter.unusedSimpArgs false

noncomputable def upX (a b : Int) : Int := divF (subF 0 a) (upN a b)
noncomputable def upY (a b : Int) : Int := divF (subF 0 b) (upN a b)
noncomputable def upZ (a b : Int) : Int := divF 4294967296 (upN a b)
set_option maxRecDepth 100000 in
set_option maxHeartbeats 800000 in
theorem rFUp_any (a1 a2 : Int) (b k : Nat) (o : Bool) (w : World) (h1 : -4294967296 ≤ a1 ∧ a1 ≤ 4294967296) (h2 : -4294967296 ≤ a2 ∧ a2 ≤ 4294967296) (m : MAt w b k o) :
    Calls Tryz.prog 26 #[.pointer (some ⟨b, k, none⟩), .int .i64 a1, .int .i64 a2] w fun e w' => e = .returned (.agg #[.int .i64 (upX a1 a2), .int .i64 (upY a1 a2), .int .i64 (upZ a1 a2)]) ∧ FxW w.heap.size w b k o w' := by
  obtain ⟨hz, l1, s1, s2, d1, d2, d3, -⟩ := up_is h1.1 h1.2 h2.1 h2.2
  have G0 := Lib.hid (Flag.start m ((Below.refl w.heap.size w).alloc (Nat.le_refl _) (.cells #[.int .i64 0, .int .i64 0, .int .i64 0] 36)))
  have R0 := Lib.hid (VW.new w w.heap.size 0 0 0 36 rfl)
  have N1 := Lib.hid (fun (W : World) (m : MAt W b k o) => by
    have := rfNeg_any a1 b k o W (by omega) (by omega) m
    rw [s1, Bool.or_false] at this
    exact this)
  have N2 := Lib.hid (fun (W : World) (m : MAt W b k o) => by
    have := rfNeg_any a2 b k o W (by omega) (by omega) m
    rw [s2, Bool.or_false] at this
    exact this)
  have i1 : In64 (subF 0 a1) := clip64_in _
  have i2 : In64 (subF 0 a2) := clip64_in _
  unfold In64 at i1 i2
  have U := Lib.hid (fun (W : World) (m : MAt W b k o) => by
    have := rVUnit_any (subF 0 a1) (subF 0 a2) 4294967296 (upN a1 a2) b k o W ⟨by omega, by omega, by omega, by omega, by omega, by omega⟩ rfl m
    rw [if_neg hz, if_neg hz, if_neg hz, if_neg hz, l1, d1, d2, d3, Bool.or_false, Bool.or_false, Bool.or_false, Bool.or_false] at this
    exact this)
  unfold upX upY upZ
  generalize divF (subF 0 a1) (upN a1 a2) = x at *
  generalize divF (subF 0 a2) (upN a1 a2) = y at *
  generalize divF 4294967296 (upN a1 a2) = z at *
  generalize (!decide (upN a1 a2 = 0)) = f at *
  generalize subF 0 a1 = n1 at *
  generalize subF 0 a2 = n2 at *
  clear hz l1 s1 s2 d1 d2 d3 h1 h2 m i1 i2
  go_enter Tryz.func26, Tryz.ntmps26
  go_wp2_with fail
  refine calls_gen (S := fun W => Flag w W b k o ∧ VW W w.heap.size 0 0 0) ⟨G0.out, R0.out⟩ (fun W1 hS => ?_)
  have G1 := Lib.hid hS.1
  have R1 := Lib.hid hS.2
  clear hS G0 R0
  go_wp2_with fail
  refine (N1.out _ G1.out.m).mono ?_
  rintro e w2 ⟨rfl, h⟩
  have G2 := Lib.hid (G1.out.fx h)
  have R2 := Lib.hid (R1.out.fx h (by have := G1.out.lt; omega))
  clear h G1 R1
  go_wp2_with fail
  refine (N2.out _ G2.out.m).mono ?_
  rintro e w3 ⟨rfl, h⟩
  have G3 := Lib.hid (G2.out.fx h)
  have R3 := Lib.hid (R2.out.fx h (by have := G2.out.lt; omega))
  clear h G2 R2
  go_wp2_with fail
  refine (U.out _ G3.out.m).mono ?_
  rintro e w4 ⟨rfl, h⟩
  have G4 := Lib.hid (G3.out.fx h)
  have R4 := Lib.hid (R3.out.fx h (by have := G3.out.lt; omega))
  clear h G3 R3
  clear N1 N2 U
  have hz : w.heap.size ≤ w4.heap.size := G4.out.f.size
  have hl : w.heap.size < w4.heap.size := R4.out.lt
  have r0 := R4.out.c0
  have r1 := R4.out.c1
  have r2 := R4.out.c2
  have rf := R4.out.f
  go_wp2
  exact bodyPost_ret (v := .agg #[.int .i64 x, .int .i64 y, .int .i64 z]) (by simp [results, Tryz.results26, go_sem, r0, r1, r2, hl]) rfl ⟨rfl, (G4.out.put3 (Nat.le_refl _) _ _ _).then ((Below.refl w.heap.size _).alloc (by simp; omega) _) (Nat.le_refl _)⟩
/-- the way up of a place -/
def slpA (t : Trk) (x y : Int) : Int := slaF t (whK t x) (whR t y) (decide (whX t x < whY t y))
def slpB (t : Trk) (x y : Int) : Int := slbF t (whK t x) (whR t y) (decide (whX t x < whY t y))
theorem slp_in {t : Trk} (hc : cntP t) (hf : frP t) (x y : Int) : (-4294967296 ≤ slpA t x y ∧ slpA t x y ≤ 4294967296) ∧ (-4294967296 ≤ slpB t x y ∧ slpB t x y ≤ 4294967296) := by
  have ok := wh_ok hc x y
  obtain ⟨a, b, ea, eb, h1, h2, -⟩ := hg_near (cell_right hc hf ok) (wh_offX hf x) (wh_offY hf y)
  unfold slpA slpB slaF slbF
  rw [if_pos ok, if_pos ok, ← ea, ← eb]
  exact ⟨h1, h2⟩
end Go.Proofs.YtinahmhiopgcnaaGreat
namespace Go.Proofs.YtinahmhiopgcnaaGreat
open Go.RowKit
set_option linter.unusedVariables false
set_option linter.unusedSimpArgs false

/-- a track as a value -/
abbrev trkV (t : Trk) : Value := .agg #[.int .i64 t.rate, .int .i64 t.cell, .int .i64 t.cols, .int .i64 t.rows, .int .i64 t.cx, .int .i64 t.cy, .slice t.H.a t.H.n t.H.c, .slice t.G.a t.G.n t.G.c, .slice t.ka t.kn t.kc, .slice t.la t.ln t.lc, .slice t.ra t.rn t.rc, .slice t.ga t.gn t.gc, .int .i64 t.sx, .int .i64 t.sy, .int .u32 t.head, .int .i64 t.laps]
/-- the program's field: it stands as long as the blocks from one number to another do -/
structure FieldT where
  P : Nat → Nat → World → Nat → Trk → Prop
  keep : ∀ {lo top W W' f t}, P lo top W f t → W.heap.size ≤ W'.heap.size → (∀ k, lo ≤ k → k < top → W'.heap[k]? = W.heap[k]?) → P lo top W' f t
  top : ∀ {lo top W f t}, P lo top W f t → top ≤ W.heap.size
/-- a track's slices lie from block lo on -/
def TrkLo (lo : Nat) (t : Trk) : Prop := ∀ p, t.H.a = some p ∨ t.G.a = some p ∨ t.ka = some p ∨ t.la = some p ∨ t.ra = some p ∨ t.ga = some p → lo ≤ p.block
theorem TrkLo.zero (t : Trk) : TrkLo 0 t := fun _ _ => Nat.zero_le _
/-- the example -/
def fsmp (n : Nat) : Trk := ⟨0, 17179869184, 1, 1, 0, 0, ⟨some ⟨n, 0, none⟩, 4, 4, fun i => if i = 3 then 17179869184 else 0⟩, ⟨some ⟨n + 1, 0, none⟩, 1, 1, fun _ => 0⟩, some ⟨n + 1 + 1, 0, none⟩, 1, 1, fun _ => 4294967296, fun _ => 0, fun _ => false, none, 0, 0, none, 0, 0, none, 0, 0, 0, 0, 0, 0⟩
theorem fsmp_right (n : Nat) : rightFd (fsmp n) = 0 := by
  have h : rightFd (fsmp 0) = 0 := by decide +kernel
  exact h
theorem fsmp_hg (n : Nat) : heightF (fsmp n) 8589934592 4294967296 = 4294967296 ∧ heightF (fsmp n) 12884901888 17179869184 = 12884901888 := by
  have h : heightF (fsmp 0) 8589934592 4294967296 = 4294967296 ∧ heightF (fsmp 0) 12884901888 17179869184 = 12884901888 := by decide +kernel
  exact h
theorem fsmp_slp (n : Nat) : slpA (fsmp n) 0 0 = 0 ∧ slpB (fsmp n) 0 0 = 4294967296 := by
  have h : slpA (fsmp 0) 0 0 = 0 ∧ slpB (fsmp 0) 0 0 = 4294967296 := by decide +kernel
  exact h
def fnilT : Trk := ⟨0, 0, 0, 0, 0, 0, ⟨none, 0, 0, fun _ => 0⟩, ⟨none, 0, 0, fun _ => 0⟩, none, 0, 0, fun _ => 0, fun _ => 0, fun _ => false, none, 0, 0, none, 0, 0, none, 0, 0, 0, 0, 0, 0⟩
theorem fnilT_right : rightFd fnilT = 42 := by decide +kernel
theorem nums_nil (B : Nat) (w : World) : Nums B w ⟨none, 0, 0, fun _ => 0⟩ := ⟨by unfold maxLen; simp, Nat.le_refl _, fun i h => absurd h (by simp), fun h => absurd h (by simp)⟩
theorem fnilT_m (B : Nat) (w : World) : TrkM B w fnilT := ⟨nums_nil B w, nums_nil B w, by unfold maxLen fnilT; simp, Nat.le_refl _, fun i h => absurd h (by simp [fnilT]), fun h => absurd h (by simp [fnilT]), by unfold In64 fnilT; simp⟩
theorem up_ex : upX 0 4294967296 = 0 ∧ upY 0 4294967296 < 0 ∧ 2147483648 < upZ 0 4294967296 := by
  have e1 : subF 0 0 * subF 0 0 + subF 0 4294967296 * subF 0 4294967296 + 4294967296 * 4294967296 = 36893488147419103232 := by decide +kernel
  obtain ⟨r0, r1, r2⟩ := root_isq (S := 36893488147419103232) (by omega) (by omega)
  have l := (len_fit (S := 36893488147419103232) (by omega)).2.1
  have i : isq (36893488147419103232 : Int).toNat 36 0 = 6074000999 := by decide +kernel
  have N : upN 0 4294967296 = 6074000999 := by unfold upN; rw [e1, l, r0, i]; rfl
  unfold upX upY upZ
  rw [N]
  decide +kernel
/-- the field and a flag -/
structure GS (F : FieldT) (w W : World) (lo top f m : Nat) (o : Bool) (t : Trk) : Prop where
  p : F.P lo top W f t
  a : MAt W m 0 o
  bl : Below w.heap.size w W
  e : m < lo ∨ top ≤ m
  n : w.heap.size ≤ m
theorem GS.step {F : FieldT} {w W W' : World} {lo top f m : Nat} {o : Bool} {t : Trk} (s : GS F w W lo top f m o t) (h : Below W.heap.size W W') : GS F w W' lo top f m o t :=
  ⟨F.keep s.p h.size (fun j h1 h2 => h.block j (by have := F.top s.p; omega)), s.a.below h s.a.lt, s.bl.trans (h.mono s.bl.size), s.e, s.n⟩
theorem GS.fx {F : FieldT} {w W W' : World} {lo top f m : Nat} {o q : Bool} {t : Trk} (s : GS F w W lo top f m o t) (h : FxW W.heap.size W m 0 q W') : GS F w W' lo top f m q t :=
  ⟨F.keep s.p h.size (fun j h1 h2 => (fx_grown h).block j (by have := F.top s.p; omega) (fun e => by injection e with e; have := s.e; omega)), h.at s.a s.a.lt, s.bl.trans (h.below s.bl.size s.n), s.e, s.n⟩
/-- the field, the program's flag and the document's -/
structure GD (F : FieldT) (w W : World) (lo top f m d : Nat) (o q : Bool) (t : Trk) : Prop where
  g : GS F w W lo top f m o t
  a : MAt W d 0 q
  e : d < lo ∨ top ≤ d
  n : w.heap.size ≤ d
  md : m ≠ d
theorem GD.step {F : FieldT} {w W W' : World} {lo top f m d : Nat} {o q : Bool} {t : Trk} (s : GD F w W lo top f m d o q t) (h : Below W.heap.size W W') : GD F w W' lo top f m d o q t :=
  ⟨s.g.step h, s.a.below h s.a.lt, s.e, s.n, s.md⟩
theorem MAt.far' {W W' : World} {m d k : Nat} {o q : Bool} (a : MAt W m 0 o) (h : FxW W.heap.size W d k q W') (e : d ≠ m) : MAt W' m 0 o :=
  ⟨(h.cell a.lt e).trans a.c, (h.frozen a.lt).trans a.f, by have := h.size; have := a.lt; omega⟩
theorem GD.fx {F : FieldT} {w W W' : World} {lo top f m d : Nat} {o q r : Bool} {t : Trk} (s : GD F w W lo top f m d o q t) (h : FxW W.heap.size W m 0 r W') : GD F w W' lo top f m d r q t :=
  ⟨s.g.fx h, s.a.far' h s.md, s.e, s.n, s.md⟩
theorem GD.dx {F : FieldT} {w W W' : World} {lo top f m d : Nat} {o q r : Bool} {t : Trk} (s : GD F w W lo top f m d o q t) (h : FxW W.heap.size W d 0 r W') : GD F w W' lo top f m d o r t :=
  ⟨⟨F.keep s.g.p h.size (fun j h1 h2 => (fx_grown h).block j (by have := F.top s.g.p; omega) (fun e => by injection e with e; have := s.e; omega)), s.g.a.far' h (fun e => s.md e.symm), s.g.bl.trans (h.below s.g.bl.size s.n), s.g.e, s.g.n⟩, h.at s.a s.a.lt, s.e, s.n, s.md⟩
def fewT (t : Trk) : Prop := t.H.n ≤ 1200 ∧ t.G.n ≤ 1000 ∧ t.kn ≤ 20
instance (t : Trk) : Decidable (fewT t) := by unfold fewT; exact inferInstance
end Go.Proofs.YtinahmhiopgcnaaGreat
