/- The contract of the document's Cast: the nearest of all triangles. -/
import Derived.Test.YtinahmhiopgcnaaGreatBa
import Derived.Test.YtinahmhiopgcnaaGreatNc
namespace Go.Proofs.YtinahmhiopgcnaaGreat
open Go.RowKit
set_option linter.unusedVariables false
set_option linter.unusedSimpArgs false

noncomputable def tcL (t : Trk) (a : Ry) (i : Int) : List Value := [.int .i64 (tcS t a i), .int .i64 (tcX t i), .int .i64 (tcY t i), .int .i64 (tcZ t i), .int .i64 (tcK t i)]
def z5L : List Value := [.int .i64 0, .int .i64 0, .int .i64 0, .int .i64 0, .int .i64 0]
theorem tcL_no (t : Trk) (a : Ry) {i : Int} (h : i < 0) : tcL t a i = z5L := by
  unfold tcL tcS tcX tcY tcZ tcK z5L
  simp only [if_pos h]
/-- what stands while the nearest is looked for -/
structure CW (w W : World) (B nb b k : Nat) (o : Bool) (t : Trk) (a : Ry) (i : Int) : Prop where
  c : BW W w.heap.size (trkL t)
  p : VW W (w.heap.size + 1) a.ox a.oy a.oz
  d : VW W (w.heap.size + 1 + 1) a.dx a.dy a.dz
  z : BW W (w.heap.size + 1 + 1 + 1) z5L
  T : BW W (w.heap.size + 1 + 1 + 1 + 1) (tcL t a i)
  g : Flag w W b k o
  n : ∃ q, MAt W nb 0 q
  t : TrkM B W t
  hB : B ≤ b
  e : w.heap.size + 1 + 1 + 1 + 1 < nb
theorem CW.step {w W W' : World} {B nb b k : Nat} {o : Bool} {t : Trk} {a : Ry} {i : Int} (Q : CW w W B nb b k o t a i) (h : Below W.heap.size W W') : CW w W' B nb b k o t a i :=
  ⟨Q.c.below h Q.c.lt, Q.p.below h Q.p.lt, Q.d.below h Q.d.lt, Q.z.below h Q.z.lt, Q.T.below h Q.T.lt, Q.g.more h, Q.n.elim fun q n => ⟨q, n.below h n.lt⟩, Q.t.keep h (by have := Q.hB; have := Q.g.m.lt; omega), Q.hB, Q.e⟩
theorem CW.fx {w W W' : World} {B nb b k : Nat} {o q : Bool} {t : Trk} {a : Ry} {i : Int} (Q : CW w W B nb b k o t a i) (h : FxW W.heap.size W b k q W') : CW w W' B nb b k q t a i := by
  have hl := Q.g.lt
  have he := Q.e
  exact ⟨Q.c.fx h (by omega), Q.p.fx h (by omega), Q.d.fx h (by omega), Q.z.fx h (by omega), Q.T.fx h (by omega), Q.g.fx h, Q.n.elim fun r n => ⟨r, ⟨(h.cell n.lt (by omega)).trans n.c, (h.frozen n.lt).trans n.f, by have := h.size; have := n.lt; omega⟩⟩, Q.t.fx h Q.hB (by have := Q.hB; have := Q.g.m.lt; omega), Q.hB, Q.e⟩
theorem CW.nx {w W W' : World} {B nb b k : Nat} {o q : Bool} {t : Trk} {a : Ry} {i : Int} (Q : CW w W B nb b k o t a i) (h : FxW W.heap.size W nb 0 q W') : CW w W' B nb b k o t a i := by
  have hl := Q.g.lt
  have he := Q.e
  have hs := Q.g.f.size
  exact ⟨Q.c.fx h (by omega), Q.p.fx h (by omega), Q.d.fx h (by omega), Q.z.fx h (by omega), Q.T.fx h (by omega),
    ⟨⟨(h.cell Q.g.m.lt (by omega)).trans Q.g.m.c, (h.frozen Q.g.m.lt).trans Q.g.m.f, by have := h.size; have := Q.g.m.lt; omega⟩, Q.g.f.then (h.below hs (by omega)) (Nat.le_refl _), Q.g.lt⟩,
    Q.n.elim fun r n => ⟨q, h.at n n.lt⟩, Q.t.fx h (by have := Q.hB; omega) (by have := Q.hB; have := Q.g.m.lt; omega), Q.hB, Q.e⟩
theorem CW.nxs {w W W' : World} {B nb b k : Nat} {o : Bool} {t : Trk} {a : Ry} {i : Int} (Q : CW w W B nb b k o t a i) (h : SomeFx W nb 0 W') : CW w W' B nb b k o t a i := h.elim fun q h => Q.nx h
theorem CW.all {w W : World} {B nb b k : Nat} {o : Bool} {t : Trk} {a : Ry} {i : Int} (Q : CW w W B nb b k o t a i) : RWc w.heap.size t a W :=
  ⟨⟨Q.c.c 0 _ rfl, Q.c.c 1 _ rfl, Q.c.c 2 _ rfl, Q.c.c 3 _ rfl, Q.c.c 4 _ rfl, Q.c.c 5 _ rfl, Q.c.c 6 _ rfl, Q.c.c 7 _ rfl, Q.c.c 8 _ rfl, Q.c.c 9 _ rfl, Q.c.c 10 _ rfl, Q.c.c 11 _ rfl, Q.c.c 12 _ rfl, Q.c.c 13 _ rfl, Q.c.c 14 _ rfl, Q.c.c 15 _ rfl⟩, Q.p.held, Q.d.held⟩
theorem CW.bz {w W : World} {B nb b k : Nat} {o : Bool} {t : Trk} {a : Ry} {i : Int} (Q : CW w W B nb b k o t a i) : B ≤ W.heap.size := by
  have := Q.hB
  have := Q.g.m.lt
  omega
theorem bw_far5 {W : World} {n r : Nat} {l : List Value} (k : BW W n l) (e : r ≠ n) (u0 u1 u2 u3 u4 : Value) : BW (((((W.setCell ⟨r, 0, none⟩ u0).setCell ⟨r, 1, none⟩ u1).setCell ⟨r, 2, none⟩ u2).setCell ⟨r, 3, none⟩ u3).setCell ⟨r, 4, none⟩ u4) n l :=
  ((((k.far e 0 u0).far e 1 u1).far e 2 u2).far e 3 u3).far e 4 u4
theorem vw_far5 {W : World} {n r : Nat} {x y z : Int} (k : VW W n x y z) (e : r ≠ n) (u0 u1 u2 u3 u4 : Value) : VW (((((W.setCell ⟨r, 0, none⟩ u0).setCell ⟨r, 1, none⟩ u1).setCell ⟨r, 2, none⟩ u2).setCell ⟨r, 3, none⟩ u3).setCell ⟨r, 4, none⟩ u4) n x y z :=
  ((((k.far e 0 u0).far e 1 u1).far e 2 u2).far e 3 u3).far e 4 u4
/-- another one is the nearest -/
theorem CW.put {w W : World} {B nb b k : Nat} {o : Bool} {t : Trk} {a : Ry} {i : Int} (Q : CW w W B nb b k o t a i) (j : Int) :
    CW w (((((W.setCell ⟨w.heap.size + 1 + 1 + 1 + 1, 0, none⟩ (.int .i64 (tcS t a j))).setCell ⟨w.heap.size + 1 + 1 + 1 + 1, 1, none⟩ (.int .i64 (tcX t j))).setCell ⟨w.heap.size + 1 + 1 + 1 + 1, 2, none⟩ (.int .i64 (tcY t j))).setCell ⟨w.heap.size + 1 + 1 + 1 + 1, 3, none⟩ (.int .i64 (tcZ t j))).setCell ⟨w.heap.size + 1 + 1 + 1 + 1, 4, none⟩ (.int .i64 (tcK t j))) B nb b k o t a j := by
  have hl := Q.g.lt
  have he := Q.e
  have F : Below w.heap.size W (((((W.setCell ⟨w.heap.size + 1 + 1 + 1 + 1, 0, none⟩ (.int .i64 (tcS t a j))).setCell ⟨w.heap.size + 1 + 1 + 1 + 1, 1, none⟩ (.int .i64 (tcX t j))).setCell ⟨w.heap.size + 1 + 1 + 1 + 1, 2, none⟩ (.int .i64 (tcY t j))).setCell ⟨w.heap.size + 1 + 1 + 1 + 1, 3, none⟩ (.int .i64 (tcZ t j))).setCell ⟨w.heap.size + 1 + 1 + 1 + 1, 4, none⟩ (.int .i64 (tcK t j))) := by
    have hr : w.heap.size ≤ w.heap.size + 1 + 1 + 1 + 1 := by omega
    exact (((((Below.refl w.heap.size W).setCell (p := ⟨_, 0, none⟩) hr _).setCell (p := ⟨_, 1, none⟩) hr _).setCell (p := ⟨_, 2, none⟩) hr _).setCell (p := ⟨_, 3, none⟩) hr _).setCell (p := ⟨_, 4, none⟩) hr _
  refine ⟨bw_far5 Q.c (by omega) _ _ _ _ _, vw_far5 Q.p (by omega) _ _ _ _ _, vw_far5 Q.d (by omega) _ _ _ _ _, bw_far5 Q.z (by omega) _ _ _ _ _, ?_, ⟨Q.g.m.below F Q.g.lt, Q.g.f.then F (Nat.le_refl _), Q.g.lt⟩, ?_, Q.t.keep F (by have := Q.hB; omega), Q.hB, Q.e⟩
  · have T := Q.T
    exact ((((T.put (i := 0) (.int .i64 (tcS t a j)) _ rfl).put (i := 1) (.int .i64 (tcX t j)) _ rfl).put (i := 2) (.int .i64 (tcY t j)) _ rfl).put (i := 3) (.int .i64 (tcZ t j)) _ rfl).put (i := 4) (.int .i64 (tcK t j)) _ rfl
  · obtain ⟨q, n⟩ := Q.n
    have c : ∀ (V : World) (x : Nat) (v : Value), MAt V nb 0 q → MAt (V.setCell ⟨w.heap.size + 1 + 1 + 1 + 1, x, none⟩ v) nb 0 q := fun V x v m =>
      ⟨(World.cell?_setCell_other _ _ _ _ (fun e => by have := congrArg Addr.block e; simp at this; omega)).trans m.c, (World.frozen?_setCell _ _ _ _).trans m.f, by rw [set_size]; exact m.lt⟩
    exact ⟨q, c _ _ _ (c _ _ _ (c _ _ _ (c _ _ _ (c _ _ _ n))))⟩
/-- the numbers of triangle j -/
theorem tri_num {t : Trk} (h : cntP t) {j : Nat} (hj : j < casN t) :
    okC t (rcC t j) (rcR t j) ∧ (Int.tdiv (j : Int) 2 = ((j / 2 : Nat) : Int)) ∧ Int.tmod ((j / 2 : Nat) : Int) t.cols = (rcC t j : Int) ∧ Int.tdiv ((j / 2 : Nat) : Int) t.cols = (rcR t j : Int) ∧ j < 8192 := by
  obtain ⟨⟨m1, m2⟩, -⟩ := h
  obtain ⟨C, hC⟩ : ∃ C : Nat, t.cols = (C : Int) := ⟨t.cols.toNat, by omega⟩
  obtain ⟨R, hR⟩ : ∃ C : Nat, t.rows = (C : Int) := ⟨t.rows.toNat, by omega⟩
  have eC : t.cols.toNat = C := by omega
  have eR : t.rows.toNat = R := by omega
  have lC : 1 ≤ C ∧ C ≤ 64 := by omega
  have lR : 1 ≤ R ∧ R ≤ 64 := by omega
  unfold casN at hj
  unfold okC rcC rcR
  rw [eC, eR] at hj
  rw [eC, hC, hR]
  clear m1 m2 hC hR eC eR
  have c0 : 0 < C := by omega
  have hm := Nat.mod_lt (j / 2) c0
  have hCR : C * R ≤ 4096 := Nat.mul_le_mul lC.2 lR.2
  have hd : j / 2 / C < R := by
    apply (Nat.div_lt_iff_lt_mul c0).mpr
    rw [Nat.mul_comm R C]; omega
  have e1 : Int.tdiv (j : Int) 2 = ((j / 2 : Nat) : Int) := rfl
  have e2 : Int.tmod ((j / 2 : Nat) : Int) (C : Int) = ((j / 2 % C : Nat) : Int) := rfl
  have e3 : Int.tdiv ((j / 2 : Nat) : Int) (C : Int) = ((j / 2 / C : Nat) : Int) := rfl
  generalize C * R = P at *
  generalize j / 2 / C = q at *
  generalize j / 2 % C = p at *
  exact ⟨⟨⟨by omega, by omega⟩, by omega, by omega⟩, e1, e2, e3, by omega⟩
theorem cas_num {t : Trk} (h : cntP t) : t.cols * t.rows * 2 = (casN t : Int) ∧ (1 ≤ t.cols * t.rows ∧ t.cols * t.rows ≤ 4096) ∧ casN t ≤ 8192 := by
  obtain ⟨⟨m1, m2⟩, -⟩ := h
  obtain ⟨C, hC⟩ : ∃ C : Nat, t.cols = (C : Int) := ⟨t.cols.toNat, by omega⟩
  obtain ⟨R, hR⟩ : ∃ C : Nat, t.rows = (C : Int) := ⟨t.rows.toNat, by omega⟩
  have eC : t.cols.toNat = C := by omega
  have eR : t.rows.toNat = R := by omega
  have lC : 1 ≤ C ∧ C ≤ 64 := by omega
  have lR : 1 ≤ R ∧ R ≤ 64 := by omega
  unfold casN
  rw [eC, eR, hC, hR]
  clear m1 m2 hC hR eC eR
  have hCR : C * R ≤ 4096 := Nat.mul_le_mul lC.2 lR.2
  have hP : 1 ≤ C * R := Nat.mul_pos (by omega) (by omega)
  rw [← Int.natCast_mul]
  generalize C * R = P at *
  exact ⟨by omega, by omega, by omega⟩
theorem sl_bd {t : Trk} {c r : Int} (hc : cntP t) (hf : frP t) (ok : okC t c r) (up : Bool) : (-4294967296 ≤ slaF t c r up ∧ slaF t c r up ≤ 4294967296) ∧ (-4294967296 ≤ slbF t c r up ∧ slbF t c r up ≤ 4294967296) := by
  obtain ⟨c0, c1, -, x0, x1, y0, y1⟩ := cell_right hc hf ok
  have k1 := (fdiv_gen (p := h11 t c r - h01 t c r) (c := t.cell) (by omega) x1.1 x1.2).2.1
  have k2 := (fdiv_gen (p := h01 t c r - h00 t c r) (c := t.cell) (by omega) y0.1 y0.2).2.1
  have k3 := (fdiv_gen (p := h10 t c r - h00 t c r) (c := t.cell) (by omega) x0.1 x0.2).2.1
  have k4 := (fdiv_gen (p := h11 t c r - h10 t c r) (c := t.cell) (by omega) y1.1 y1.2).2.1
  unfold slaF slbF
  rw [if_pos ok, if_pos ok]
  unfold slA slB
  cases up
  · exact ⟨k3, k4⟩
  · exact ⟨k1, k2⟩
/-- what a met triangle tells -/
theorem tc_at (t : Trk) (a : Ry) (j : Nat) : tcS t a (j : Int) = dsI t a j ∧ tcX t (j : Int) = upX (slaF t (rcC t j) (rcR t j) (rcU j)) (slbF t (rcC t j) (rcR t j) (rcU j)) ∧ tcY t (j : Int) = upY (slaF t (rcC t j) (rcR t j) (rcU j)) (slbF t (rcC t j) (rcR t j) (rcU j)) ∧ tcZ t (j : Int) = upZ (slaF t (rcC t j) (rcR t j) (rcU j)) (slbF t (rcC t j) (rcR t j) (rcU j)) ∧ tcK t (j : Int) = t.G.v ((rcR t j : Int) * t.cols + rcC t j).toNat := by
  have h : ¬ (j : Int) < 0 := by omega
  unfold tcS tcX tcY tcZ tcK tcA tcB
  rw [if_neg h, if_neg h, if_neg h, if_neg h, if_neg h, Int.toNat_natCast]
  exact ⟨rfl, rfl, rfl, rfl, rfl⟩
theorem met_ds {t : Trk} {a : Ry} {j : Nat} (h : mtI t a j = true) : mtsF t (rcC t j) (rcR t j) (rcU j) a = dsI t a j := by
  unfold mtI metF at h
  rw [Bool.and_eq_true] at h
  have := of_decide_eq_true h.1
  unfold mtsF
  rw [if_pos this]
  rfl
theorem tri_odd (j : Nat) : ((j : Int) % 2 == 1) = rcU j := by
  unfold rcU
  rw [Bool.eq_iff_iff, beq_iff_eq, decide_eq_true_iff]
  omega
end Go.Proofs.YtinahmhiopgcnaaGreat
namespace Go.Proofs.YtinahmhiopgcnaaGreat
open Go.RowKit
set_option linter.unusedVariables false
set_option linter.unusedSimpArgs false

theorem z5c {W : World} {n : Nat} (k : BW W n z5L) : W.cell? ⟨n, 0, none⟩ = some (.int .i64 0) ∧ W.cell? ⟨n, 1, none⟩ = some (.int .i64 0) ∧ W.cell? ⟨n, 2, none⟩ = some (.int .i64 0) ∧ W.cell? ⟨n, 3, none⟩ = some (.int .i64 0) ∧ W.cell? ⟨n, 4, none⟩ = some (.int .i64 0) := ⟨k.c 0 _ rfl, k.c 1 _ rfl, k.c 2 _ rfl, k.c 3 _ rfl, k.c 4 _ rfl⟩
set_option maxRecDepth 100000 in
set_option maxHeartbeats 4000000 in
theorem rRCast_any (t : Trk) (a : Ry) (b k : Nat) (o : Bool) (B : Nat) (w : World) (hB : B ≤ b) (hc : cntP t) (hf : frP t) (ha : a.ins) (K : TrkM B w t) (m : MAt w b k o) :
    Calls Tryz.prog 8 #[.pointer (some ⟨b, k, none⟩), trkV t, a.o, a.d, .int .i64 a.long] w fun e w' => e = .returned (.tuple #[tcV t a (casI t a), .bool (decide (0 ≤ casI t a))]) ∧ FxW w.heap.size w b k o w' := by
  have hlt := m.lt
  have HM := Lib.hid m
  have HK := Lib.hid K
  have V := Lib.hid (fun (W : World) => rRMay_any a W)
  by_cases hm : a.may
  rotate_left
  · rw [decide_eq_false hm] at V
    have E := Lib.hid (show casI t a = -1 by unfold casI; rw [if_neg hm])
    rw [E.out, show tcV t a (-1) = .agg z5L.toArray from congrArg (fun l => Value.agg l.toArray) (tcL_no t a (by omega)), show decide ((0 : Int) ≤ -1) = false from rfl]
    clear E hm ha hc hf K m
    go_enter Tryz.func8, Tryz.ntmps8
    go_wp2_with fail
    refine calls_gen (S := fun W => (BW W (w.heap.size + 1 + 1 + 1) z5L ∧ BW W (w.heap.size + 1 + 1 + 1 + 1) z5L) ∧ Flag w W b k o) ⟨⟨(BW.new _ _ [_, _, _, _, _] _ (by simp)).alloc _, BW.new _ _ [_, _, _, _, _] _ (by simp)⟩, Flag.start HM.out (by repeat (first | exact Below.refl _ _ | assumption | refine Below.setCell ?_ (by first | omega | (simp; done) | (simp; omega)) _ | refine Below.alloc ?_ (by first | omega | (simp; done) | (simp; omega)) _ | refine below_drewN ?_ _ | refine Below.drew ?_ | refine Below.trans ?_ (Below.mono (by assumption) (by first | omega | (simp; done) | (simp; omega)))))⟩ (fun W0 hS => ?_)
    refine (V.out _).mono ?_
    rintro e w1 ⟨rfl, h⟩
    have Z1 := Lib.hid (hS.1.1.below h hS.1.1.lt)
    have T1 := Lib.hid (hS.1.2.below h hS.1.2.lt)
    have G1 := Lib.hid (hS.2.more h)
    clear h hS HM HK V
    have r0 := Z1.out.c 0 _ rfl
    have r1 := Z1.out.c 1 _ rfl
    have r2 := Z1.out.c 2 _ rfl
    have r3 := Z1.out.c 3 _ rfl
    have r4 := Z1.out.c 4 _ rfl
    have rf := Z1.out.f
    have s0 := T1.out.c 0 _ rfl
    have s1 := T1.out.c 1 _ rfl
    have s2 := T1.out.c 2 _ rfl
    have s3 := T1.out.c 3 _ rfl
    have s4 := T1.out.c 4 _ rfl
    go_wp2
    exact bodyPost_ret (v := .tuple #[.agg #[.int .i64 0, .int .i64 0, .int .i64 0, .int .i64 0, .int .i64 0], .bool false]) (by simp [results, Tryz.results8, go_sem, r0, r1, r2, r3, r4]) rfl ⟨rfl, Flag.set (Flag.set (Flag.set (Flag.set (Flag.set G1.out.f (r := w.heap.size + 1 + 1 + 1) (by omega) 0 _) (r := w.heap.size + 1 + 1 + 1) (by omega) 1 _) (r := w.heap.size + 1 + 1 + 1) (by omega) 2 _) (r := w.heap.size + 1 + 1 + 1) (by omega) 3 _) (r := w.heap.size + 1 + 1 + 1) (by omega) 4 _⟩
  rw [decide_eq_true hm] at V
  have E := Lib.hid (show casI t a = casU t a (casN t) by unfold casI; rw [if_pos hm])
  rw [E.out]
  have ME := Lib.hid (fun (c r : Int) (up : Bool) (nb : Nat) (q : Bool) (W : World) (hn : B ≤ nb) (ok : okC t c r) (K : TrkM B W t) (M : MAt W nb 0 q) => rRMeet_any t c r up a nb 0 q B W hn hc hf ok hm K M)
  have SL := Lib.hid (fun (c r : Int) (up : Bool) (W : World) (K : TrkM B W t) (M : MAt W b k o) => rFSlopes_any t c r up b k o B W hB hc hf K M)
  have UP := Lib.hid (fun (a1 a2 : Int) (h1 : -4294967296 ≤ a1 ∧ a1 ≤ 4294967296) (h2 : -4294967296 ≤ a2 ∧ a2 ≤ 4294967296) (W : World) (M : MAt W b k o) => rFUp_any a1 a2 b k o W h1 h2 M)
  have TN := Lib.hid (fun (j : Nat) (hj : j < casN t) => tri_num hc hj)
  have CN := Lib.hid (cas_num hc)
  have KD := Lib.hid (fun (c r : Int) (ok : okC t c r) => kd_is hc ok)
  have BD := Lib.hid (fun (c r : Int) (ok : okC t c r) (up : Bool) => sl_bd hc hf ok up)
  have RL := Lib.hid (show t.rows ≤ 64 from hc.1.2.2)
  have zc : ¬ t.cols = 0 := by have := hc.1.1.1; omega
  clear E hm ha hc hf K m
  go_enter Tryz.func8, Tryz.ntmps8
  go_wp2_with fail
  refine calls_gen (S := fun W => ((BW W w.heap.size (trkL t) ∧ VW W (w.heap.size + 1) a.ox a.oy a.oz) ∧ VW W (w.heap.size + 1 + 1) a.dx a.dy a.dz) ∧ (BW W (w.heap.size + 1 + 1 + 1) z5L ∧ BW W (w.heap.size + 1 + 1 + 1 + 1) z5L) ∧ Flag w W b k o)
    ⟨⟨⟨((((BW.new w w.heap.size (trkL t) _ rfl).alloc _).alloc _).alloc _).alloc _, (((VW.new _ _ a.ox a.oy a.oz _ (by simp)).alloc _).alloc _).alloc _⟩, ((VW.new _ _ a.dx a.dy a.dz _ (by simp)).alloc _).alloc _⟩, ⟨(BW.new _ _ [_, _, _, _, _] _ (by simp)).alloc _, BW.new _ _ [_, _, _, _, _] _ (by simp)⟩, Flag.start HM.out (by repeat (first | exact Below.refl _ _ | assumption | refine Below.setCell ?_ (by first | omega | (simp; done) | (simp; omega)) _ | refine Below.alloc ?_ (by first | omega | (simp; done) | (simp; omega)) _ | refine below_drewN ?_ _ | refine Below.drew ?_ | refine Below.trans ?_ (Below.mono (by assumption) (by first | omega | (simp; done) | (simp; omega)))))⟩ (fun W0 hS => ?_)
  refine (V.out _).mono ?_
  rintro e w1 ⟨rfl, h⟩
  have Q0 := Lib.hid (show CW w (w1.alloc (.cells #[.bool false] 49)) B w1.heap.size b k o t a (casU t a 0) from
    ⟨(hS.1.1.1.below h hS.1.1.1.lt).alloc _, (hS.1.1.2.below h hS.1.1.2.lt).alloc _, (hS.1.2.below h hS.1.2.lt).alloc _, (hS.2.1.1.below h hS.2.1.1.lt).alloc _, by rw [show casU t a 0 = -1 from rfl, tcL_no t a (by omega)]; exact (hS.2.1.2.below h hS.2.1.2.lt).alloc _, (hS.2.2.more h).more ((Below.refl _ _).alloc (Nat.le_refl _) _), ⟨false, MAt.new w1 false _⟩, by
      have F := (hS.2.2.more h).more ((Below.refl w1.heap.size w1).alloc (Nat.le_refl _) (.cells #[.bool false] 49))
      exact HK.out.keep (F.f.below (C := B) (by omega) hB) (Nat.le_refl _), hB, by have := (hS.2.1.2.below h hS.2.1.2.lt).lt; omega⟩)
  clear h hS V HM HK
  go_wp2_with fail
  generalize w1.alloc (.cells #[.bool false] 49) = W1 at *
  generalize w1.heap.size = nb at *
  go_loopw [13, 15] (fun f i wr => ∃ j : Nat, j ≤ casN t ∧ i = .int .i64 j ∧ f = .bool (decide (0 ≤ casU t a j)) ∧ CW w wr B nb b k o t a (casU t a j)) (fun _ i _ => casN t - (intOf i).toNat)
  case atStart => exact ⟨0, by omega, rfl, rfl, Q0.out⟩
  case round =>
    obtain ⟨j, hj, rfl, rfl, hK⟩ := hrel
    have K1 := Lib.hid hK
    clear hK Q0
    have cs := K1.out.all
    unfold RWc at cs
    obtain ⟨⟨c00, c01, c02, c03, c04, c05, c06, c07, c08, c09, c10, c11, c12, c13, c14, c15⟩, ⟨p0, p1, p2⟩, ⟨d0, d1, d2⟩⟩ := cs
    obtain ⟨n1, n2, n3⟩ := CN.out
    obtain ⟨u1, v1⟩ := wrap_in' (n := t.cols * t.rows) (by unfold In64; omega)
    have u2 : IntKind.i64.wrap (t.cols * t.rows * 2) = (casN t : Int) := by rw [n1]; exact (wrap_in' (by unfold In64; omega)).1
    have v2 : wrap64 (t.cols * t.rows * 2) = (casN t : Int) := by rw [n1]; exact (wrap_in' (by unfold In64; omega)).2
    by_cases hlj : j < casN t
    · obtain ⟨ok, e1, e2, e3, j8⟩ := TN.out j hlj
      have zj : (j : Int) < (casN t : Int) := by omega
      have OK := Lib.hid ok
      clear n1 n2 n3 ok
      have eC : (j : Int) / 2 % t.cols = (rcC t j : Int) := by rw [← e2]; exact (Int.tmod_eq_emod_of_nonneg (by omega)).symm
      have eR : wrap64 (((j : Int) / 2).tdiv t.cols) = (rcR t j : Int) := by
        have : ((j : Int) / 2).tdiv t.cols = (rcR t j : Int) := e3
        rw [this]
        have := (OK.out).2
        have hr : (rcR t j : Int) < 64 := by have := RL.out; omega
        exact (wrap_in' (by unfold In64; omega)).2
      have eU := tri_odd j
      go_wp2_with fail
      (try rw [eC])
      (try rw [eR])
      (try rw [eU])
      clear c00 c01 c02 c03 c04 c05 c06 c07 c08 c09 c10 c11 c12 c13 c14 c15 p0 p1 p2 d0 d1 d2 u1 u2 v1 v2 e1 e2 e3 eC eR eU
      obtain ⟨q1, M1⟩ := K1.out.n
      refine (ME.out _ _ _ nb q1 wr (by have := K1.out.e; omega) OK.out K1.out.t M1).mono ?_
      rintro e w5 ⟨rfl, h⟩
      have K5 := Lib.hid (K1.out.nxs h)
      clear h M1 K1
      rw [show metF t (rcC t j) (rcR t j) (rcU j) a = mtI t a j from rfl]
      have NO := Lib.hid (fun (h : ¬ (mtI t a j = true ∧ (casU t a j < 0 ∨ dsI t a j < dsI t a (casU t a j).toNat))) => show casU t a (j + 1) = casU t a j by show (if _ then _ else _) = _; rw [if_neg h])
      have YES := Lib.hid (fun (h : mtI t a j = true ∧ (casU t a j < 0 ∨ dsI t a j < dsI t a (casU t a j).toNat)) => show casU t a (j + 1) = (j : Int) by show (if _ then _ else _) = _; rw [if_pos h])
      have MD := Lib.hid (fun (h : mtI t a j = true) => met_ds h)
      obtain ⟨tS, tX, tY, tZ, tK⟩ := tc_at t a j
      have TS := Lib.hid tS
      have UU := Lib.hid (fun (W : World) (M : MAt W b k o) => UP.out _ _ (BD.out _ _ OK.out (rcU j)).1 (BD.out _ _ OK.out (rcU j)).2 W M)
      rw [← tX, ← tY, ← tZ] at UU
      have TK := Lib.hid tK
      clear tS tX tY tZ tK
      cases hmt : mtI t a j with
      | false =>
        have E := Lib.hid (NO.out (fun h => by rw [hmt] at h; exact absurd h.1 (by simp)))
        clear NO YES MD UU TS TK hmt
        go_wp2
        go_roundw
        case rel => exact ⟨j + 1, by omega, by go_num, by rw [E.out], by rw [E.out]; exact K5.out⟩
        case measure => simp [intOf]; omega
      | true =>
        rw [(MD.out hmt).trans TS.out.symm]
        by_cases hn : casU t a j < 0
        · have E := Lib.hid (YES.out ⟨hmt, Or.inl hn⟩)
          rw [decide_eq_false (show ¬ 0 ≤ casU t a j by omega)]
          clear NO YES MD TS hmt hn
          have cs := K5.out.all
          unfold RWc at cs
          obtain ⟨⟨c00, c01, c02, c03, c04, c05, c06, c07, c08, c09, c10, c11, c12, c13, c14, c15⟩, -, -⟩ := cs
          have eU := tri_odd j
          go_wp2_with fail
          (try rw [eU])
          clear eU
          refine (SL.out _ _ _ _ K5.out.t K5.out.g.m).mono ?_
          rintro e w6 ⟨rfl, h⟩
          have K6 := Lib.hid ((K5.out.fx h).step (Below.refl _ _).drew)
          clear h c00 c01 c02 c03 c04 c05 c06 c07 c08 c09 c10 c11 c12 c13 c14 c15
          clear K5
          (try clear T0 hl')
          obtain ⟨⟨k0, k1⟩, k2, k3, k4⟩ := KD.out _ _ OK.out
          obtain ⟨gb, go, hG, hgb, hgc⟩ := K6.out.t.G.at' (by omega)
          have GC := Lib.hid (fun (W : World) (i : Int) (s : CW w W B nb b k o t a i) => (show (W.cell? ⟨w.heap.size, 7, none⟩ = some (.slice (some ⟨gb, go, none⟩) t.G.n t.G.c) ∧ W.cell? ⟨w.heap.size, 2, none⟩ = some (.int .i64 t.cols)) ∧ W.cell? ⟨gb, go + ((rcR t j : Int) * t.cols + rcC t j).toNat, none⟩ = some (.int .i64 (tcK t (j : Int))) from ⟨⟨by have := s.c.c 7 _ rfl; rw [hG] at this; exact this, s.c.c 2 _ rfl⟩, by
            rw [TK.out]
            obtain ⟨b', off', hG', _, hc'⟩ := s.t.G.at' (by omega)
            rw [hG] at hG'
            cases hG'
            exact hc' _ (by omega)⟩))
          clear hG hgb hgc
          have W1' := Lib.hid (show IntKind.i64.wrap ((rcR t j : Int) * t.cols) = (rcR t j : Int) * t.cols from (wrap_in' (by unfold In64; omega)).1)
          have W2' := Lib.hid (show IntKind.i64.wrap ((rcR t j : Int) * t.cols + (rcC t j : Int)) = ((((rcR t j : Int) * t.cols + rcC t j).toNat : Nat) : Int) from by rw [← k2]; exact (wrap_in' (by unfold In64; omega)).1)
          have g0 : (0 : Int) ≤ ((((rcR t j : Int) * t.cols + rcC t j).toNat : Nat) : Int) := by omega
          clear k0 k1 k2 k4
          go_wp2_with fail
          refine wp_region_held_drew (S := fun W => (W.cell? ⟨w.heap.size, 7, none⟩ = some (.slice (some ⟨gb, go, none⟩) t.G.n t.G.c) ∧ W.cell? ⟨w.heap.size, 2, none⟩ = some (.int .i64 t.cols)) ∧ W.cell? ⟨gb, go + ((rcR t j : Int) * t.cols + rcC t j).toNat, none⟩ = some (.int .i64 (tcK t (j : Int)))) (by kernel_rfl) (GC.out _ _ K6.out) (fun hHeld => ?_)
          generalize World.drew _ = w7 at *
          have u1 := W1'.out
          have u2 := W2'.out
          generalize ((rcR t j : Int) * t.cols + rcC t j).toNat = gi at *
          refine wpAnyH_takeD 0 87 (v := ?_) (by kernel_rfl) (by kernel_rfl) (by kernel_rfl) (by kernel_rfl) (by rfl) (fun _ _ _ h => h) ?_ hHeld ?_
          rotate_left 1
          (intro o ho W hSw; simp only [List.getElem?_toArray, List.getElem?_cons_succ, List.getElem?_cons_zero, Option.some.injEq] at ho; subst ho; (try dsimp only at hSw); go_simp; try with_reducible rfl)
          (try simp only [Act.put, List.setIfInBounds_toArray, List.set_cons_zero, List.set_cons_succ])
          refine wpAnyH_takeD 1 88 (v := ?_) (by kernel_rfl) (by kernel_rfl) (by kernel_rfl) (by kernel_rfl) (by rfl) (fun _ _ _ h => h) ?_ hHeld ?_
          rotate_left 1
          (intro o ho W hSw; simp only [List.getElem?_toArray, List.getElem?_cons_succ, List.getElem?_cons_zero, Option.some.injEq] at ho; subst ho; (try dsimp only at hSw); go_simp; try with_reducible rfl)
          (try simp only [Act.put, List.setIfInBounds_toArray, List.set_cons_zero, List.set_cons_succ])
          refine wpAnyH_takeD 2 89 (v := ?_) (by kernel_rfl) (by kernel_rfl) (by kernel_rfl) (by kernel_rfl) (by rfl) (fun _ _ _ h => h) ?_ hHeld ?_
          rotate_left 1
          (intro o ho W hSw; simp only [List.getElem?_toArray, List.getElem?_cons_succ, List.getElem?_cons_zero, Option.some.injEq] at ho; subst ho; (try dsimp only at hSw); go_simp; try with_reducible rfl)
          (try simp only [Act.put, List.setIfInBounds_toArray, List.set_cons_zero, List.set_cons_succ])
          refine wpAnyH_takeD 3 90 (v := ?_) (by kernel_rfl) (by kernel_rfl) (by kernel_rfl) (by kernel_rfl) (by rfl) (fun _ _ _ h => h) ?_ hHeld ?_
          rotate_left 1
          (intro o ho W hSw; simp only [List.getElem?_toArray, List.getElem?_cons_succ, List.getElem?_cons_zero, Option.some.injEq] at ho; subst ho; (try dsimp only at hSw); go_simp; try with_reducible rfl)
          (try simp only [Act.put, List.setIfInBounds_toArray, List.set_cons_zero, List.set_cons_succ])
          refine wpAnyH_takeD 5 92 (v := ?_) (by kernel_rfl) (by kernel_rfl) (by kernel_rfl) (by kernel_rfl) (by rfl) (fun _ _ _ h => h) ?_ hHeld ?_
          rotate_left 1
          (intro o ho W hSw; simp only [List.getElem?_toArray, List.getElem?_cons_succ, List.getElem?_cons_zero, Option.some.injEq] at ho; subst ho; (try dsimp only at hSw); go_simp; try with_reducible rfl)
          (try simp only [Act.put, List.setIfInBounds_toArray, List.set_cons_zero, List.set_cons_succ])
          refine wpAnyH_takeD 6 93 (v := ?_) (by kernel_rfl) (by kernel_rfl) (by kernel_rfl) (by kernel_rfl) (by rfl) (fun _ _ _ h => h) ?_ hHeld ?_
          rotate_left 1
          (intro o ho W hSw; simp only [List.getElem?_toArray, List.getElem?_cons_succ, List.getElem?_cons_zero, Option.some.injEq] at ho; subst ho; (try dsimp only at hSw); go_simp; try with_reducible rfl)
          (try simp only [Act.put, List.setIfInBounds_toArray, List.set_cons_zero, List.set_cons_succ])
          refine wpAnyH_takeD 7 94 (v := ?_) (by kernel_rfl) (by kernel_rfl) (by kernel_rfl) (by kernel_rfl) (by rfl) (fun _ _ _ h => h) ?_ hHeld ?_
          rotate_left 1
          (intro o ho W hSw; simp only [List.getElem?_toArray, List.getElem?_cons_succ, List.getElem?_cons_zero, Option.some.injEq] at ho; subst ho; (try dsimp only at hSw); go_simp; try with_reducible rfl)
          (try simp only [Act.put, List.setIfInBounds_toArray, List.set_cons_zero, List.set_cons_succ])
          refine wpAnyH_takeD 8 95 (v := ?_) (by kernel_rfl) (by kernel_rfl) (by kernel_rfl) (by kernel_rfl) (by rfl) (fun _ _ _ h => h) ?_ hHeld ?_
          rotate_left 1
          (intro o ho W hSw; simp only [List.getElem?_toArray, List.getElem?_cons_succ, List.getElem?_cons_zero, Option.some.injEq] at ho; subst ho; (try dsimp only at hSw); go_simp; try with_reducible rfl)
          (try simp only [Act.put, List.setIfInBounds_toArray, List.set_cons_zero, List.set_cons_succ])
          refine wpAnyH_takeD 9 96 (v := ?_) (by kernel_rfl) (by kernel_rfl) (by kernel_rfl) (by kernel_rfl) (by rfl) (fun _ _ _ h => h) ?_ hHeld ?_
          rotate_left 1
          (intro o ho W hSw; simp only [List.getElem?_toArray, List.getElem?_cons_succ, List.getElem?_cons_zero, Option.some.injEq] at ho; subst ho; (try dsimp only at hSw); go_simp; try with_reducible rfl)
          (try simp only [Act.put, List.setIfInBounds_toArray, List.set_cons_zero, List.set_cons_succ])
          refine wpAnyH_takeD 10 97 (v := ?_) (by kernel_rfl) (by kernel_rfl) (by kernel_rfl) (by kernel_rfl) (by rfl) (fun _ _ _ h => h) ?_ hHeld ?_
          rotate_left 1
          (intro o ho W hSw; simp only [List.getElem?_toArray, List.getElem?_cons_succ, List.getElem?_cons_zero, Option.some.injEq] at ho; subst ho; (try dsimp only at hSw); go_simp; try with_reducible rfl)
          (try simp only [Act.put, List.setIfInBounds_toArray, List.set_cons_zero, List.set_cons_succ])
          refine wpAnyH_takeD 11 98 (v := ?_) (by kernel_rfl) (by kernel_rfl) (by kernel_rfl) (by kernel_rfl) (by rfl) (fun _ _ _ h => h) ?_ hHeld ?_
          rotate_left 1
          (intro o ho W hSw; simp only [List.getElem?_toArray, List.getElem?_cons_succ, List.getElem?_cons_zero, Option.some.injEq] at ho; subst ho; (try dsimp only at hSw); go_simp; try with_reducible rfl)
          (try simp only [Act.put, List.setIfInBounds_toArray, List.set_cons_zero, List.set_cons_succ])
          refine wpAnyH_takeD 12 99 (v := ?_) (by kernel_rfl) (by kernel_rfl) (by kernel_rfl) (by kernel_rfl) (by rfl) (fun _ _ _ h => h) ?_ hHeld ?_
          rotate_left 1
          (intro o ho W hSw; simp only [List.getElem?_toArray, List.getElem?_cons_succ, List.getElem?_cons_zero, Option.some.injEq] at ho; subst ho; (try dsimp only at hSw); go_simp; try with_reducible rfl)
          (try simp only [Act.put, List.setIfInBounds_toArray, List.set_cons_zero, List.set_cons_succ])
          refine wpAnyH_takeD 13 100 (v := ?_) (by kernel_rfl) (by kernel_rfl) (by kernel_rfl) (by kernel_rfl) (by rfl) (fun _ _ _ h => h) ?_ hHeld ?_
          rotate_left 1
          (intro o ho W hSw; simp only [List.getElem?_toArray, List.getElem?_cons_succ, List.getElem?_cons_zero, Option.some.injEq] at ho; subst ho; (try dsimp only at hSw); go_simp; try with_reducible rfl)
          (try simp only [Act.put, List.setIfInBounds_toArray, List.set_cons_zero, List.set_cons_succ])
          refine wpAnyH_takeD 14 101 (v := ?_) (by kernel_rfl) (by kernel_rfl) (by kernel_rfl) (by kernel_rfl) (by rfl) (fun _ _ _ h => h) ?_ hHeld ?_
          rotate_left 1
          (intro o ho W hSw; simp only [List.getElem?_toArray, List.getElem?_cons_succ, List.getElem?_cons_zero, Option.some.injEq] at ho; subst ho; (try dsimp only at hSw); go_simp; try with_reducible rfl)
          (try simp only [Act.put, List.setIfInBounds_toArray, List.set_cons_zero, List.set_cons_succ])
          clear u1 u2 W1' W2'
          refine wpAnyH_onlyD 4 (by kernel_rfl) (fun o ho K hK => ?_) (by kernel_rfl)
          simp only [List.getElem?_toArray, List.getElem?_cons_succ, List.getElem?_cons_zero, Option.some.injEq] at ho
          subst ho
          go_simp
          refine (UU.out _ K6.out.g.m).mono ?_
          rintro e w8 ⟨rfl, h⟩
          have K8 := Lib.hid (K6.out.fx h)
          go_wp2_with fail
          refine hK.out _ _ (GC.out _ _ K8.out) ?_
          clear hK K hHeld
          intro hHeld
          clear h K6
          refine wpAnyH_takeD 15 102 (v := ?_) (by kernel_rfl) (by kernel_rfl) (by kernel_rfl) (by kernel_rfl) (by rfl) (fun _ _ _ h => h) ?_ hHeld ?_
          rotate_left 1
          (intro o ho W hSw; simp only [List.getElem?_toArray, List.getElem?_cons_succ, List.getElem?_cons_zero, Option.some.injEq] at ho; subst ho; (try dsimp only at hSw); go_simp; try with_reducible rfl)
          (try simp only [Act.put, List.setIfInBounds_toArray, List.set_cons_zero, List.set_cons_succ])
          have r0 := K8.out.T.c 0 _ rfl
          have r1 := K8.out.T.c 1 _ rfl
          have r2 := K8.out.T.c 2 _ rfl
          have r3 := K8.out.T.c 3 _ rfl
          have r4 := K8.out.T.c 4 _ rfl
          have rf := K8.out.T.f
          refine wpAnyH_onlyD 16 (by kernel_rfl) (fun o ho K hK => ?_) (by kernel_rfl)
          simp only [List.getElem?_toArray, List.getElem?_cons_succ, List.getElem?_cons_zero, Option.some.injEq] at ho
          subst ho
          go_simp
          refine hK.out _ _ (GC.out _ _ (K8.out.put j)) ?_
          clear hK K hHeld
          intro hHeld
          refine wpAnyH_done (by kernel_rfl) ?_ _
          clear hHeld r0 r1 r2 r3 r4 rf GC g0 k3 UU TK
          go_wp2
          go_roundw
          case rel => exact ⟨j + 1, by omega, by go_num, by rw [E.out, decide_eq_true (show (0 : Int) ≤ (j : Int) by omega)], by rw [E.out]; exact K8.out.put j⟩
          case measure => simp [intOf]; omega
        · rw [decide_eq_true (show 0 ≤ casU t a j by omega)]
          have T0 := K5.out.T.c 0 _ rfl
          have hS : tcS t a (casU t a j) = dsI t a (casU t a j).toNat := by unfold tcS; rw [if_neg hn]
          by_cases hl : dsI t a j < dsI t a (casU t a j).toNat
          · have E := Lib.hid (YES.out ⟨hmt, Or.inr hl⟩)
            have hl' : tcS t a j < tcS t a (casU t a j) := by rw [hS, TS.out]; exact hl
            clear NO YES MD TS hmt hn hS hl
            have cs := K5.out.all
            unfold RWc at cs
            obtain ⟨⟨c00, c01, c02, c03, c04, c05, c06, c07, c08, c09, c10, c11, c12, c13, c14, c15⟩, -, -⟩ := cs
            have eU := tri_odd j
            go_wp2_with fail
            (try rw [eU])
            clear eU
            refine (SL.out _ _ _ _ K5.out.t K5.out.g.m).mono ?_
            rintro e w6 ⟨rfl, h⟩
            have K6 := Lib.hid ((K5.out.fx h).step (Below.refl _ _).drew)
            clear h c00 c01 c02 c03 c04 c05 c06 c07 c08 c09 c10 c11 c12 c13 c14 c15
            clear K5
            (try clear T0 hl')
            obtain ⟨⟨k0, k1⟩, k2, k3, k4⟩ := KD.out _ _ OK.out
            obtain ⟨gb, go, hG, hgb, hgc⟩ := K6.out.t.G.at' (by omega)
            have GC := Lib.hid (fun (W : World) (i : Int) (s : CW w W B nb b k o t a i) => (show (W.cell? ⟨w.heap.size, 7, none⟩ = some (.slice (some ⟨gb, go, none⟩) t.G.n t.G.c) ∧ W.cell? ⟨w.heap.size, 2, none⟩ = some (.int .i64 t.cols)) ∧ W.cell? ⟨gb, go + ((rcR t j : Int) * t.cols + rcC t j).toNat, none⟩ = some (.int .i64 (tcK t (j : Int))) from ⟨⟨by have := s.c.c 7 _ rfl; rw [hG] at this; exact this, s.c.c 2 _ rfl⟩, by
              rw [TK.out]
              obtain ⟨b', off', hG', _, hc'⟩ := s.t.G.at' (by omega)
              rw [hG] at hG'
              cases hG'
              exact hc' _ (by omega)⟩))
            clear hG hgb hgc
            have W1' := Lib.hid (show IntKind.i64.wrap ((rcR t j : Int) * t.cols) = (rcR t j : Int) * t.cols from (wrap_in' (by unfold In64; omega)).1)
            have W2' := Lib.hid (show IntKind.i64.wrap ((rcR t j : Int) * t.cols + (rcC t j : Int)) = ((((rcR t j : Int) * t.cols + rcC t j).toNat : Nat) : Int) from by rw [← k2]; exact (wrap_in' (by unfold In64; omega)).1)
            have g0 : (0 : Int) ≤ ((((rcR t j : Int) * t.cols + rcC t j).toNat : Nat) : Int) := by omega
            clear k0 k1 k2 k4
            go_wp2_with fail
            refine wp_region_held_drew (S := fun W => (W.cell? ⟨w.heap.size, 7, none⟩ = some (.slice (some ⟨gb, go, none⟩) t.G.n t.G.c) ∧ W.cell? ⟨w.heap.size, 2, none⟩ = some (.int .i64 t.cols)) ∧ W.cell? ⟨gb, go + ((rcR t j : Int) * t.cols + rcC t j).toNat, none⟩ = some (.int .i64 (tcK t (j : Int)))) (by kernel_rfl) (GC.out _ _ K6.out) (fun hHeld => ?_)
            generalize World.drew _ = w7 at *
            have u1 := W1'.out
            have u2 := W2'.out
            generalize ((rcR t j : Int) * t.cols + rcC t j).toNat = gi at *
            refine wpAnyH_takeD 0 87 (v := ?_) (by kernel_rfl) (by kernel_rfl) (by kernel_rfl) (by kernel_rfl) (by rfl) (fun _ _ _ h => h) ?_ hHeld ?_
            rotate_left 1
            (intro o ho W hSw; simp only [List.getElem?_toArray, List.getElem?_cons_succ, List.getElem?_cons_zero, Option.some.injEq] at ho; subst ho; (try dsimp only at hSw); go_simp; try with_reducible rfl)
            (try simp only [Act.put, List.setIfInBounds_toArray, List.set_cons_zero, List.set_cons_succ])
            refine wpAnyH_takeD 1 88 (v := ?_) (by kernel_rfl) (by kernel_rfl) (by kernel_rfl) (by kernel_rfl) (by rfl) (fun _ _ _ h => h) ?_ hHeld ?_
            rotate_left 1
            (intro o ho W hSw; simp only [List.getElem?_toArray, List.getElem?_cons_succ, List.getElem?_cons_zero, Option.some.injEq] at ho; subst ho; (try dsimp only at hSw); go_simp; try with_reducible rfl)
            (try simp only [Act.put, List.setIfInBounds_toArray, List.set_cons_zero, List.set_cons_succ])
            refine wpAnyH_takeD 2 89 (v := ?_) (by kernel_rfl) (by kernel_rfl) (by kernel_rfl) (by kernel_rfl) (by rfl) (fun _ _ _ h => h) ?_ hHeld ?_
            rotate_left 1
            (intro o ho W hSw; simp only [List.getElem?_toArray, List.getElem?_cons_succ, List.getElem?_cons_zero, Option.some.injEq] at ho; subst ho; (try dsimp only at hSw); go_simp; try with_reducible rfl)
            (try simp only [Act.put, List.setIfInBounds_toArray, List.set_cons_zero, List.set_cons_succ])
            refine wpAnyH_takeD 3 90 (v := ?_) (by kernel_rfl) (by kernel_rfl) (by kernel_rfl) (by kernel_rfl) (by rfl) (fun _ _ _ h => h) ?_ hHeld ?_
            rotate_left 1
            (intro o ho W hSw; simp only [List.getElem?_toArray, List.getElem?_cons_succ, List.getElem?_cons_zero, Option.some.injEq] at ho; subst ho; (try dsimp only at hSw); go_simp; try with_reducible rfl)
            (try simp only [Act.put, List.setIfInBounds_toArray, List.set_cons_zero, List.set_cons_succ])
            refine wpAnyH_takeD 5 92 (v := ?_) (by kernel_rfl) (by kernel_rfl) (by kernel_rfl) (by kernel_rfl) (by rfl) (fun _ _ _ h => h) ?_ hHeld ?_
            rotate_left 1
            (intro o ho W hSw; simp only [List.getElem?_toArray, List.getElem?_cons_succ, List.getElem?_cons_zero, Option.some.injEq] at ho; subst ho; (try dsimp only at hSw); go_simp; try with_reducible rfl)
            (try simp only [Act.put, List.setIfInBounds_toArray, List.set_cons_zero, List.set_cons_succ])
            refine wpAnyH_takeD 6 93 (v := ?_) (by kernel_rfl) (by kernel_rfl) (by kernel_rfl) (by kernel_rfl) (by rfl) (fun _ _ _ h => h) ?_ hHeld ?_
            rotate_left 1
            (intro o ho W hSw; simp only [List.getElem?_toArray, List.getElem?_cons_succ, List.getElem?_cons_zero, Option.some.injEq] at ho; subst ho; (try dsimp only at hSw); go_simp; try with_reducible rfl)
            (try simp only [Act.put, List.setIfInBounds_toArray, List.set_cons_zero, List.set_cons_succ])
            refine wpAnyH_takeD 7 94 (v := ?_) (by kernel_rfl) (by kernel_rfl) (by kernel_rfl) (by kernel_rfl) (by rfl) (fun _ _ _ h => h) ?_ hHeld ?_
            rotate_left 1
            (intro o ho W hSw; simp only [List.getElem?_toArray, List.getElem?_cons_succ, List.getElem?_cons_zero, Option.some.injEq] at ho; subst ho; (try dsimp only at hSw); go_simp; try with_reducible rfl)
            (try simp only [Act.put, List.setIfInBounds_toArray, List.set_cons_zero, List.set_cons_succ])
            refine wpAnyH_takeD 8 95 (v := ?_) (by kernel_rfl) (by kernel_rfl) (by kernel_rfl) (by kernel_rfl) (by rfl) (fun _ _ _ h => h) ?_ hHeld ?_
            rotate_left 1
            (intro o ho W hSw; simp only [List.getElem?_toArray, List.getElem?_cons_succ, List.getElem?_cons_zero, Option.some.injEq] at ho; subst ho; (try dsimp only at hSw); go_simp; try with_reducible rfl)
            (try simp only [Act.put, List.setIfInBounds_toArray, List.set_cons_zero, List.set_cons_succ])
            refine wpAnyH_takeD 9 96 (v := ?_) (by kernel_rfl) (by kernel_rfl) (by kernel_rfl) (by kernel_rfl) (by rfl) (fun _ _ _ h => h) ?_ hHeld ?_
            rotate_left 1
            (intro o ho W hSw; simp only [List.getElem?_toArray, List.getElem?_cons_succ, List.getElem?_cons_zero, Option.some.injEq] at ho; subst ho; (try dsimp only at hSw); go_simp; try with_reducible rfl)
            (try simp only [Act.put, List.setIfInBounds_toArray, List.set_cons_zero, List.set_cons_succ])
            refine wpAnyH_takeD 10 97 (v := ?_) (by kernel_rfl) (by kernel_rfl) (by kernel_rfl) (by kernel_rfl) (by rfl) (fun _ _ _ h => h) ?_ hHeld ?_
            rotate_left 1
            (intro o ho W hSw; simp only [List.getElem?_toArray, List.getElem?_cons_succ, List.getElem?_cons_zero, Option.some.injEq] at ho; subst ho; (try dsimp only at hSw); go_simp; try with_reducible rfl)
            (try simp only [Act.put, List.setIfInBounds_toArray, List.set_cons_zero, List.set_cons_succ])
            refine wpAnyH_takeD 11 98 (v := ?_) (by kernel_rfl) (by kernel_rfl) (by kernel_rfl) (by kernel_rfl) (by rfl) (fun _ _ _ h => h) ?_ hHeld ?_
            rotate_left 1
            (intro o ho W hSw; simp only [List.getElem?_toArray, List.getElem?_cons_succ, List.getElem?_cons_zero, Option.some.injEq] at ho; subst ho; (try dsimp only at hSw); go_simp; try with_reducible rfl)
            (try simp only [Act.put, List.setIfInBounds_toArray, List.set_cons_zero, List.set_cons_succ])
            refine wpAnyH_takeD 12 99 (v := ?_) (by kernel_rfl) (by kernel_rfl) (by kernel_rfl) (by kernel_rfl) (by rfl) (fun _ _ _ h => h) ?_ hHeld ?_
            rotate_left 1
            (intro o ho W hSw; simp only [List.getElem?_toArray, List.getElem?_cons_succ, List.getElem?_cons_zero, Option.some.injEq] at ho; subst ho; (try dsimp only at hSw); go_simp; try with_reducible rfl)
            (try simp only [Act.put, List.setIfInBounds_toArray, List.set_cons_zero, List.set_cons_succ])
            refine wpAnyH_takeD 13 100 (v := ?_) (by kernel_rfl) (by kernel_rfl) (by kernel_rfl) (by kernel_rfl) (by rfl) (fun _ _ _ h => h) ?_ hHeld ?_
            rotate_left 1
            (intro o ho W hSw; simp only [List.getElem?_toArray, List.getElem?_cons_succ, List.getElem?_cons_zero, Option.some.injEq] at ho; subst ho; (try dsimp only at hSw); go_simp; try with_reducible rfl)
            (try simp only [Act.put, List.setIfInBounds_toArray, List.set_cons_zero, List.set_cons_succ])
            refine wpAnyH_takeD 14 101 (v := ?_) (by kernel_rfl) (by kernel_rfl) (by kernel_rfl) (by kernel_rfl) (by rfl) (fun _ _ _ h => h) ?_ hHeld ?_
            rotate_left 1
            (intro o ho W hSw; simp only [List.getElem?_toArray, List.getElem?_cons_succ, List.getElem?_cons_zero, Option.some.injEq] at ho; subst ho; (try dsimp only at hSw); go_simp; try with_reducible rfl)
            (try simp only [Act.put, List.setIfInBounds_toArray, List.set_cons_zero, List.set_cons_succ])
            clear u1 u2 W1' W2'
            refine wpAnyH_onlyD 4 (by kernel_rfl) (fun o ho K hK => ?_) (by kernel_rfl)
            simp only [List.getElem?_toArray, List.getElem?_cons_succ, List.getElem?_cons_zero, Option.some.injEq] at ho
            subst ho
            go_simp
            refine (UU.out _ K6.out.g.m).mono ?_
            rintro e w8 ⟨rfl, h⟩
            have K8 := Lib.hid (K6.out.fx h)
            go_wp2_with fail
            refine hK.out _ _ (GC.out _ _ K8.out) ?_
            clear hK K hHeld
            intro hHeld
            clear h K6
            refine wpAnyH_takeD 15 102 (v := ?_) (by kernel_rfl) (by kernel_rfl) (by kernel_rfl) (by kernel_rfl) (by rfl) (fun _ _ _ h => h) ?_ hHeld ?_
            rotate_left 1
            (intro o ho W hSw; simp only [List.getElem?_toArray, List.getElem?_cons_succ, List.getElem?_cons_zero, Option.some.injEq] at ho; subst ho; (try dsimp only at hSw); go_simp; try with_reducible rfl)
            (try simp only [Act.put, List.setIfInBounds_toArray, List.set_cons_zero, List.set_cons_succ])
            have r0 := K8.out.T.c 0 _ rfl
            have r1 := K8.out.T.c 1 _ rfl
            have r2 := K8.out.T.c 2 _ rfl
            have r3 := K8.out.T.c 3 _ rfl
            have r4 := K8.out.T.c 4 _ rfl
            have rf := K8.out.T.f
            refine wpAnyH_onlyD 16 (by kernel_rfl) (fun o ho K hK => ?_) (by kernel_rfl)
            simp only [List.getElem?_toArray, List.getElem?_cons_succ, List.getElem?_cons_zero, Option.some.injEq] at ho
            subst ho
            go_simp
            refine hK.out _ _ (GC.out _ _ (K8.out.put j)) ?_
            clear hK K hHeld
            intro hHeld
            refine wpAnyH_done (by kernel_rfl) ?_ _
            clear hHeld r0 r1 r2 r3 r4 rf GC g0 k3 UU TK
            go_wp2
            go_roundw
            case rel => exact ⟨j + 1, by omega, by go_num, by rw [E.out, decide_eq_true (show (0 : Int) ≤ (j : Int) by omega)], by rw [E.out]; exact K8.out.put j⟩
            case measure => simp [intOf]; omega
          · have E := Lib.hid (NO.out (fun h => by rcases h.2 with g | g; exact hn g; exact hl g))
            have hl' : ¬ tcS t a j < tcS t a (casU t a j) := by rw [hS, TS.out]; exact hl
            have F := Lib.hid (decide_eq_true (show 0 ≤ casU t a j by omega))
            clear NO YES MD TS hmt hn hS hl UU TK
            go_wp2
            go_roundw
            case rel => exact ⟨j + 1, by omega, by go_num, by rw [E.out, F.out], by rw [E.out]; exact K5.out⟩
            case measure => simp [intOf]; omega
    · have e : j = casN t := by omega
      subst e
      have zj : ¬ (casN t : Int) < (casN t : Int) := by omega
      clear n1 n2 n3 hlj
      obtain ⟨r0, r1, r2, r3, r4⟩ := z5c K1.out.z
      have rf := K1.out.z.f
      have s0 := K1.out.T.c 0 _ rfl
      have s1 := K1.out.T.c 1 _ rfl
      have s2 := K1.out.T.c 2 _ rfl
      have s3 := K1.out.T.c 3 _ rfl
      have s4 := K1.out.T.c 4 _ rfl
      have G1 := Lib.hid K1.out.g
      clear K1 ME SL UP TN KD BD RL
      go_wp2
      exact bodyPost_ret (v := .tuple #[tcV t a (casU t a (casN t)), .bool (decide (0 ≤ casU t a (casN t)))]) (by simp [results, Tryz.results8, go_sem, r0, r1, r2, r3, r4]) rfl ⟨rfl, Flag.set (Flag.set (Flag.set (Flag.set (Flag.set G1.out.f (r := w.heap.size + 1 + 1 + 1) (by omega) 0 _) (r := w.heap.size + 1 + 1 + 1) (by omega) 1 _) (r := w.heap.size + 1 + 1 + 1) (by omega) 2 _) (r := w.heap.size + 1 + 1 + 1) (by omega) 3 _) (r := w.heap.size + 1 + 1 + 1) (by omega) 4 _⟩
end Go.Proofs.YtinahmhiopgcnaaGreat
