/- The contract of the document's Cast: the nearest of all triangles. -/
import Derived.Test.YtinahmhiopgcnaaBa
import Derived.Test.YtinahmhiopgcnaaNc
namespace Go.Proofs.Ytinahmhiopgcnaa
open Go.RowKit
set_option linter.unusedVariables false
set_option linter.unusedSimpArgs false

noncomputable def tcL (t : Trk) (a : Ry) (i : Int) : List Value := [.int .i64 (tcS t a i), .int .i64 (tcX t i), .int .i64 (tcY t i), .int .i64 (tcZ t i), .int .i64 (tcK t i)]
def z5L : List Value := [.int .i64 0, .int .i64 0, .int .i64 0, .int .i64 0, .int .i64 0]
theorem tcL_no (t : Trk) (a : Ry) {i : Int} (h : i < 0) : tcL t a i = z5L := by
  unfold tcL tcS tcX tcY tcZ tcK z5L
  simp only [if_pos h]
/-- what stands while the nearest is looked for -/
structure CW (w W : World) (B nb b k : Nat) (o : Bool) (t : Trk) (a : Ry) (i : Int) : Prop where
  c : BW W w.heap.size (trkL t)
  p : VW W (w.heap.size + 1) a.ox a.oy a.oz
  d : VW W (w.heap.size + 1 + 1) a.dx a.dy a.dz
  z : BW W (w.heap.size + 1 + 1 + 1) z5L
  T : BW W (w.heap.size + 1 + 1 + 1 + 1) (tcL t a i)
  g : Flag w W b k o
  n : ∃ q, MAt W nb 0 q
  t : TrkM B W t
  hB : B ≤ b
  e : w.heap.size + 1 + 1 + 1 + 1 < nb
theorem CW.step {w W W' : World} {B nb b k : Nat} {o : Bool} {t : Trk} {a : Ry} {i : Int} (Q : CW w W B nb b k o t a i) (h : Below W.heap.size W W') : CW w W' B nb b k o t a i :=
  ⟨Q.c.below h Q.c.lt, Q.p.below h Q.p.lt, Q.d.below h Q.d.lt, Q.z.below h Q.z.lt, Q.T.below h Q.T.lt, Q.g.more h, Q.n.elim fun q n => ⟨q, n.below h n.lt⟩, Q.t.keep h (by have := Q.hB; have := Q.g.m.lt; omega), Q.hB, Q.e⟩
theorem CW.fx {w W W' : World} {B nb b k : Nat} {o q : Bool} {t : Trk} {a : Ry} {i : Int} (Q : CW w W B nb b k o t a i) (h : FxW W.heap.size W b k q W') : CW w W' B nb b k q t a i := by
  have hl := Q.g.lt
  have he := Q.e
  exact ⟨Q.c.fx h (by omega), Q.p.fx h (by omega), Q.d.fx h (by omega), Q.z.fx h (by omega), Q.T.fx h (by omega), Q.g.fx h, Q.n.elim fun r n => ⟨r, ⟨(h.cell n.lt (by omega)).trans n.c, (h.frozen n.lt).trans n.f, by have := h.size; have := n.lt; omega⟩⟩, Q.t.fx h Q.hB (by have := Q.hB; have := Q.g.m.lt; omega), Q.hB, Q.e⟩
theorem CW.nx {w W W' : World} {B nb b k : Nat} {o q : Bool} {t : Trk} {a : Ry} {i : Int} (Q : CW w W B nb b k o t a i) (h : FxW W.heap.size W nb 0 q W') : CW w W' B nb b k o t a i := by
  have hl := Q.g.lt
  have he := Q.e
  have hs := Q.g.f.size
  exact ⟨Q.c.fx h (by omega), Q.p.fx h (by omega), Q.d.fx h (by omega), Q.z.fx h (by omega), Q.T.fx h (by omega),
    ⟨⟨(h.cell Q.g.m.lt (by omega)).trans Q.g.m.c, (h.frozen Q.g.m.lt).trans Q.g.m.f, by have := h.size; have := Q.g.m.lt; omega⟩, Q.g.f.then (h.below hs (by omega)) (Nat.le_refl _), Q.g.lt⟩,
    Q.n.elim fun r n => ⟨q, h.at n n.lt⟩, Q.t.fx h (by have := Q.hB; omega) (by have := Q.hB; have := Q.g.m.lt; omega), Q.hB, Q.e⟩
theorem CW.nxs {w W W' : World} {B nb b k : Nat} {o : Bool} {t : Trk} {a : Ry} {i : Int} (Q : CW w W B nb b k o t a i) (h : SomeFx W nb 0 W') : CW w W' B nb b k o t a i := h.elim fun q h => Q.nx h
theorem CW.all {w W : World} {B nb b k : Nat} {o : Bool} {t : Trk} {a : Ry} {i : Int} (Q : CW w W B nb b k o t a i) : RWc w.heap.size t a W :=
  ⟨⟨Q.c.c 0 _ rfl, Q.c.c 1 _ rfl, Q.c.c 2 _ rfl, Q.c.c 3 _ rfl, Q.c.c 4 _ rfl, Q.c.c 5 _ rfl, Q.c.c 6 _ rfl, Q.c.c 7 _ rfl, Q.c.c 8 _ rfl, Q.c.c 9 _ rfl, Q.c.c 10 _ rfl, Q.c.c 11 _ rfl, Q.c.c 12 _ rfl, Q.c.c 13 _ rfl, Q.c.c 14 _ rfl, Q.c.c 15 _ rfl⟩, Q.p.held, Q.d.held⟩
theorem CW.bz {w W : World} {B nb b k : Nat} {o : Bool} {t : Trk} {a : Ry} {i : Int} (Q : CW w W B nb b k o t a i) : B ≤ W.heap.size := by
  have := Q.hB
  have := Q.g.m.lt
  omega
theorem bw_far5 {W : World} {n r : Nat} {l : List Value} (k : BW W n l) (e : r ≠ n) (u0 u1 u2 u3 u4 : Value) : BW (((((W.setCell ⟨r, 0, none⟩ u0).setCell ⟨r, 1, none⟩ u1).setCell ⟨r, 2, none⟩ u2).setCell ⟨r, 3, none⟩ u3).setCell ⟨r, 4, none⟩ u4) n l :=
  ((((k.far e 0 u0).far e 1 u1).far e 2 u2).far e 3 u3).far e 4 u4
theorem vw_far5 {W : World} {n r : Nat} {x y z : Int} (k : VW W n x y z) (e : r ≠ n) (u0 u1 u2 u3 u4 : Value) : VW (((((W.setCell ⟨r, 0, none⟩ u0).setCell ⟨r, 1, none⟩ u1).setCell ⟨r, 2, none⟩ u2).setCell ⟨r, 3, none⟩ u3).setCell ⟨r, 4, none⟩ u4) n x y z :=
  ((((k.far e 0 u0).far e 1 u1).far e 2 u2).far e 3 u3).far e 4 u4
/-- another one is the nearest -/
theorem CW.put {w W : World} {B nb b k : Nat} {o : Bool} {t : Trk} {a : Ry} {i : Int} (Q : CW w W B nb b k o t a i) (j : Int) :
    CW w (((((W.setCell ⟨w.heap.size + 1 + 1 + 1 + 1, 0, none⟩ (.int .i64 (tcS t a j))).setCell ⟨w.heap.size + 1 + 1 + 1 + 1, 1, none⟩ (.int .i64 (tcX t j))).setCell ⟨w.heap.size + 1 + 1 + 1 + 1, 2, none⟩ (.int .i64 (tcY t j))).setCell ⟨w.heap.size + 1 + 1 + 1 + 1, 3, none⟩ (.int .i64 (tcZ t j))).setCell ⟨w.heap.size + 1 + 1 + 1 + 1, 4, none⟩ (.int .i64 (tcK t j))) B nb b k o t a j := by
  have hl := Q.g.lt
  have he := Q.e
  have F : Below w.heap.size W (((((W.setCell ⟨w.heap.size + 1 + 1 + 1 + 1, 0, none⟩ (.int .i64 (tcS t a j))).setCell ⟨w.heap.size + 1 + 1 + 1 + 1, 1, none⟩ (.int .i64 (tcX t j))).setCell ⟨w.heap.size + 1 + 1 + 1 + 1, 2, none⟩ (.int .i64 (tcY t j))).setCell ⟨w.heap.size + 1 + 1 + 1 + 1, 3, none⟩ (.int .i64 (tcZ t j))).setCell ⟨w.heap.size + 1 + 1 + 1 + 1, 4, none⟩ (.int .i64 (tcK t j))) := by
    have hr : w.heap.size ≤ w.heap.size + 1 + 1 + 1 + 1 := by omega
    exact (((((Below.refl w.heap.size W).setCell (p := ⟨_, 0, none⟩) hr _).setCell (p := ⟨_, 1, none⟩) hr _).setCell (p := ⟨_, 2, none⟩) hr _).setCell (p := ⟨_, 3, none⟩) hr _).setCell (p := ⟨_, 4, none⟩) hr _
  refine ⟨bw_far5 Q.c (by omega) _ _ _ _ _, vw_far5 Q.p (by omega) _ _ _ _ _, vw_far5 Q.d (by omega) _ _ _ _ _, bw_far5 Q.z (by omega) _ _ _ _ _, ?_, ⟨Q.g.m.below F Q.g.lt, Q.g.f.then F (Nat.le_refl _), Q.g.lt⟩, ?_, Q.t.keep F (by have := Q.hB; omega), Q.hB, Q.e⟩
  · have T := Q.T
    exact ((((T.put (i := 0) (.int .i64 (tcS t a j)) _ rfl).put (i := 1) (.int .i64 (tcX t j)) _ rfl).put (i := 2) (.int .i64 (tcY t j)) _ rfl).put (i := 3) (.int .i64 (tcZ t j)) _ rfl).put (i := 4) (.int .i64 (tcK t j)) _ rfl
  · obtain ⟨q, n⟩ := Q.n
    have c : ∀ (V : World) (x : Nat) (v : Value), MAt V nb 0 q → MAt (V.setCell ⟨w.heap.size + 1 + 1 + 1 + 1, x, none⟩ v) nb 0 q := fun V x v m =>
      ⟨(World.cell?_setCell_other _ _ _ _ (fun e => by have := congrArg Addr.block e; simp at this; omega)).trans m.c, (World.frozen?_setCell _ _ _ _).trans m.f, by rw [set_size]; exact m.lt⟩
    exact ⟨q, c _ _ _ (c _ _ _ (c _ _ _ (c _ _ _ (c _ _ _ n))))⟩
/-- the numbers of triangle j -/
theorem tri_num {t : Trk} (h : cntP t) {j : Nat} (hj : j < casN t) :
    okC t (rcC t j) (rcR t j) ∧ (Int.tdiv (j : Int) 2 = ((j / 2 : Nat) : Int)) ∧ Int.tmod ((j / 2 : Nat) : Int) t.cols = (rcC t j : Int) ∧ Int.tdiv ((j / 2 : Nat) : Int) t.cols = (rcR t j : Int) ∧ j < 8192 := by
  obtain ⟨⟨m1, m2⟩, -⟩ := h
  obtain ⟨C, hC⟩ : ∃ C : Nat, t.cols = (C : Int) := ⟨t.cols.toNat, by omega⟩
  obtain ⟨R, hR⟩ : ∃ C : Nat, t.rows = (C : Int) := ⟨t.rows.toNat, by omega⟩
  have eC : t.cols.toNat = C := by omega
  have eR : t.rows.toNat = R := by omega
  have lC : 1 ≤ C ∧ C ≤ 64 := by omega
  have lR : 1 ≤ R ∧ R ≤ 64 := by omega
  unfold casN at hj
  unfold okC rcC rcR
  rw [eC, eR] at hj
  rw [eC, hC, hR]
  clear m1 m2 hC hR eC eR
  have c0 : 0 < C := by omega
  have hm := Nat.mod_lt (j / 2) c0
  have hCR : C * R ≤ 4096 := Nat.mul_le_mul lC.2 lR.2
  have hd : j / 2 / C < R := by
    apply (Nat.div_lt_iff_lt_mul c0).mpr
    rw [Nat.mul_comm R C]; omega
  have e1 : Int.tdiv (j : Int) 2 = ((j / 2 : Nat) : Int) := rfl
  have e2 : Int.tmod ((j / 2 : Nat) : Int) (C : Int) = ((j / 2 % C : Nat) : Int) := rfl
  have e3 : Int.tdiv ((j / 2 : Nat) : Int) (C : Int) = ((j / 2 / C : Nat) : Int) := rfl
  generalize C * R = P at *
  generalize j / 2 / C = q at *
  generalize j / 2 % C = p at *
  exact ⟨⟨⟨by omega, by omega⟩, by omega, by omega⟩, e1, e2, e3, by omega⟩
theorem cas_num {t : Trk} (h : cntP t) : t.cols * t.rows * 2 = (casN t : Int) ∧ (1 ≤ t.cols * t.rows ∧ t.cols * t.rows ≤ 4096) ∧ casN t ≤ 8192 := by
  obtain ⟨⟨m1, m2⟩, -⟩ := h
  obtain ⟨C, hC⟩ : ∃ C : Nat, t.cols = (C : Int) := ⟨t.cols.toNat, by omega⟩
  obtain ⟨R, hR⟩ : ∃ C : Nat, t.rows = (C : Int) := ⟨t.rows.toNat, by omega⟩
  have eC : t.cols.toNat = C := by omega
  have eR : t.rows.toNat = R := by omega
  have lC : 1 ≤ C ∧ C ≤ 64 := by omega
  have lR : 1 ≤ R ∧ R ≤ 64 := by omega
  unfold casN
  rw [eC, eR, hC, hR]
  clear m1 m2 hC hR eC eR
  have hCR : C * R ≤ 4096 := Nat.mul_le_mul lC.2 lR.2
  have hP : 1 ≤ C * R := Nat.mul_pos (by omega) (by omega)
  rw [← Int.natCast_mul]
  generalize C * R = P at *
  exact ⟨by omega, by omega, by omega⟩
theorem sl_bd {t : Trk} {c r : Int} (hc : cntP t) (hf : frP t) (ok : okC t c r) (up : Bool) : (-4294967296 ≤ slaF t c r up ∧ slaF t c r up ≤ 4294967296) ∧ (-4294967296 ≤ slbF t c r up ∧ slbF t c r up ≤ 4294967296) := by
  obtain ⟨c0, c1, -, x0, x1, y0, y1⟩ := cell_right hc hf ok
  have k1 := (fdiv_gen (p := h11 t c r - h01 t c r) (c := t.cell) (by omega) x1.1 x1.2).2.1
  have k2 := (fdiv_gen (p := h01 t c r - h00 t c r) (c := t.cell) (by omega) y0.1 y0.2).2.1
  have k3 := (fdiv_gen (p := h10 t c r - h00 t c r) (c := t.cell) (by omega) x0.1 x0.2).2.1
  have k4 := (fdiv_gen (p := h11 t c r - h10 t c r) (c := t.cell) (by omega) y1.1 y1.2).2.1
  unfold slaF slbF
  rw [if_pos ok, if_pos ok]
  unfold slA slB
  cases up
  · exact ⟨k3, k4⟩
  · exact ⟨k1, k2⟩
/-- what a met triangle tells -/
theorem tc_at (t : Trk) (a : Ry) (j : Nat) : tcS t a (j : Int) = dsI t a j ∧ tcX t (j : Int) = upX (slaF t (rcC t j) (rcR t j) (rcU j)) (slbF t (rcC t j) (rcR t j) (rcU j)) ∧ tcY t (j : Int) = upY (slaF t (rcC t j) (rcR t j) (rcU j)) (slbF t (rcC t j) (rcR t j) (rcU j)) ∧ tcZ t (j : Int) = upZ (slaF t (rcC t j) (rcR t j) (rcU j)) (slbF t (rcC t j) (rcR t j) (rcU j)) ∧ tcK t (j : Int) = t.G.v ((rcR t j : Int) * t.cols + rcC t j).toNat := by
  have h : ¬ (j : Int) < 0 := by omega
  unfold tcS tcX tcY tcZ tcK tcA tcB
  rw [if_neg h, if_neg h, if_neg h, if_neg h, if_neg h, Int.toNat_natCast]
  exact ⟨rfl, rfl, rfl, rfl, rfl⟩
theorem met_ds {t : Trk} {a : Ry} {j : Nat} (h : mtI t a j = true) : mtsF t (rcC t j) (rcR t j) (rcU j) a = dsI t a j := by
  unfold mtI metF at h
  rw [Bool.and_eq_true] at h
  have := of_decide_eq_true h.1
  unfold mtsF
  rw [if_pos this]
  rfl
theorem tri_odd (j : Nat) : ((j : Int) % 2 == 1) = rcU j := by
  unfold rcU
  rw [Bool.eq_iff_iff, beq_iff_eq, decide_eq_true_iff]
  omega
end Go.Proofs.Ytinahmhiopgcnaa
namespace Go.Proofs.Ytinahmhiopgcnaa
open Go.RowKit
set_option linter.unusedVariables false
set_option linter.unusedSimpArgs false

theorem z5c {W : World} {n : Nat} (k : BW W n z5L) : W.cell? ⟨n, 0, none⟩ = some (.int .i64 0) ∧ W.cell? ⟨n, 1, none⟩ = some (.int .i64 0) ∧ W.cell? ⟨n, 2, none⟩ = some (.int .i64 0) ∧ W.cell? ⟨n, 3, none⟩ = some (.int .i64 0) ∧ W.cell? ⟨n, 4, none⟩ = some (.int .i64 0) := ⟨k.c 0 _ rfl, k.c 1 _ rfl, k.c 2 _ rfl, k.c 3 _ rfl, k.c 4 _ rfl⟩
end Go.Proofs.Ytinahmhiopgcnaa
