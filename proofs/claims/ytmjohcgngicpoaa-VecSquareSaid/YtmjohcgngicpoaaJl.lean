/- The walk of VecSquare. -/
import Derived.Test.YtmjohcgngicpoaaJh
namespace Go.Proofs.Ytmjohcgngicpoaa
open Go.RowKit
set_option linter.unusedVariables false
set_option linter.unusedSimpArgs false

instance (x : Int) : Decidable (Sm x) := by unfold Sm; exact inferInstance
set_option maxHeartbeats 1000000 in
theorem small_any (x y z : Int) (w : World) :
    Calls Try.prog 32 #[.agg #[.int .i64 x, .int .i64 y, .int .i64 z], .int .i64 2199023255552] w fun e w' => e = .returned (.bool (decide (Sm x ∧ Sm y ∧ Sm z))) ∧ Below w.heap.size w w' := by
  by_cases p1 : x ≤ 2199023255552
  · by_cases p2 : -2199023255552 ≤ x
    · by_cases p3 : y ≤ 2199023255552
      · by_cases p4 : -2199023255552 ≤ y
        · by_cases p5 : z ≤ 2199023255552
          · by_cases p6 : -2199023255552 ≤ z
            · rw [show decide (Sm x ∧ Sm y ∧ Sm z) = true by rw [decide_eq_true_iff]; unfold Sm; omega]
              go_enter Try.func32, Try.ntmps32
              go_wp2
              go_ret
              exact ⟨rfl, by repeat (first | exact Below.refl _ _ | assumption | refine Below.setCell ?_ (by first | omega | (simp; done) | (simp; omega)) _ | refine Below.alloc ?_ (by first | omega | (simp; done) | (simp; omega)) _ | refine below_drewN ?_ _ | refine Below.drew ?_ | refine Below.trans ?_ (Below.mono (by assumption) (by first | omega | (simp; done) | (simp; omega))))⟩
            · skip
              rw [show decide (Sm x ∧ Sm y ∧ Sm z) = false by rw [decide_eq_false_iff_not]; unfold Sm; omega]
              go_enter Try.func32, Try.ntmps32
              go_wp2
              go_ret
              exact ⟨rfl, by repeat (first | exact Below.refl _ _ | assumption | refine Below.setCell ?_ (by first | omega | (simp; done) | (simp; omega)) _ | refine Below.alloc ?_ (by first | omega | (simp; done) | (simp; omega)) _ | refine below_drewN ?_ _ | refine Below.drew ?_ | refine Below.trans ?_ (Below.mono (by assumption) (by first | omega | (simp; done) | (simp; omega))))⟩
          · skip
            rw [show decide (Sm x ∧ Sm y ∧ Sm z) = false by rw [decide_eq_false_iff_not]; unfold Sm; omega]
            go_enter Try.func32, Try.ntmps32
            go_wp2
            go_ret
            exact ⟨rfl, by repeat (first | exact Below.refl _ _ | assumption | refine Below.setCell ?_ (by first | omega | (simp; done) | (simp; omega)) _ | refine Below.alloc ?_ (by first | omega | (simp; done) | (simp; omega)) _ | refine below_drewN ?_ _ | refine Below.drew ?_ | refine Below.trans ?_ (Below.mono (by assumption) (by first | omega | (simp; done) | (simp; omega))))⟩
        · skip
          rw [show decide (Sm x ∧ Sm y ∧ Sm z) = false by rw [decide_eq_false_iff_not]; unfold Sm; omega]
          go_enter Try.func32, Try.ntmps32
          go_wp2
          go_ret
          exact ⟨rfl, by repeat (first | exact Below.refl _ _ | assumption | refine Below.setCell ?_ (by first | omega | (simp; done) | (simp; omega)) _ | refine Below.alloc ?_ (by first | omega | (simp; done) | (simp; omega)) _ | refine below_drewN ?_ _ | refine Below.drew ?_ | refine Below.trans ?_ (Below.mono (by assumption) (by first | omega | (simp; done) | (simp; omega))))⟩
      · skip
        rw [show decide (Sm x ∧ Sm y ∧ Sm z) = false by rw [decide_eq_false_iff_not]; unfold Sm; omega]
        go_enter Try.func32, Try.ntmps32
        go_wp2
        go_ret
        exact ⟨rfl, by repeat (first | exact Below.refl _ _ | assumption | refine Below.setCell ?_ (by first | omega | (simp; done) | (simp; omega)) _ | refine Below.alloc ?_ (by first | omega | (simp; done) | (simp; omega)) _ | refine below_drewN ?_ _ | refine Below.drew ?_ | refine Below.trans ?_ (Below.mono (by assumption) (by first | omega | (simp; done) | (simp; omega))))⟩
    · skip
      rw [show decide (Sm x ∧ Sm y ∧ Sm z) = false by rw [decide_eq_false_iff_not]; unfold Sm; omega]
      go_enter Try.func32, Try.ntmps32
      go_wp2
      go_ret
      exact ⟨rfl, by repeat (first | exact Below.refl _ _ | assumption | refine Below.setCell ?_ (by first | omega | (simp; done) | (simp; omega)) _ | refine Below.alloc ?_ (by first | omega | (simp; done) | (simp; omega)) _ | refine below_drewN ?_ _ | refine Below.drew ?_ | refine Below.trans ?_ (Below.mono (by assumption) (by first | omega | (simp; done) | (simp; omega))))⟩
  · skip
    rw [show decide (Sm x ∧ Sm y ∧ Sm z) = false by rw [decide_eq_false_iff_not]; unfold Sm; omega]
    go_enter Try.func32, Try.ntmps32
    go_wp2
    go_ret
    exact ⟨rfl, by repeat (first | exact Below.refl _ _ | assumption | refine Below.setCell ?_ (by first | omega | (simp; done) | (simp; omega)) _ | refine Below.alloc ?_ (by first | omega | (simp; done) | (simp; omega)) _ | refine below_drewN ?_ _ | refine Below.drew ?_ | refine Below.trans ?_ (Below.mono (by assumption) (by first | omega | (simp; done) | (simp; omega))))⟩
/-- a receiver of a statement's own -/
structure Own (w W : World) (n : Nat) (o : Bool) : Prop where
  a : MAt W n 0 o
  na : w.heap.size ≤ n
  bl : Below w.heap.size w W
theorem Own.fst {w W W' : World} {n : Nat} {o q : Bool} (t : Own w W n o) (h : FxW W.heap.size W n 0 q W') : Own w W' n q :=
  ⟨h.at t.a t.a.lt, t.na, t.bl.trans (h.below t.bl.size t.na)⟩
theorem Own.more {w W W' : World} {n : Nat} {o : Bool} (t : Own w W n o) (h : Below W.heap.size W W') : Own w W' n o :=
  ⟨t.a.below h t.a.lt, t.na, t.bl.trans (h.mono t.bl.size)⟩
theorem Own.drew {w W : World} {n : Nat} {o : Bool} (t : Own w W n o) : Own w W.drew n o := ⟨t.a.drew, t.na, t.bl.drew⟩
theorem Own.new {w W : World} (h : Below w.heap.size w W) (s : TypeId) : Own w (W.alloc (.cells #[.bool false] s)) W.heap.size false :=
  ⟨MAt.new W false s, h.size, h.alloc h.size _⟩
/-- what VecSquare's products are -/
structure SqN (a1 a2 a3 b1 b2 b3 c1 c2 c3 d e : Int) : Prop where
  x : crossF a2 b3 a3 b2 = c1 ∧ crossF a3 b1 a1 b3 = c2 ∧ crossF a1 b2 a2 b1 = c3
  xo : (false || mulO a2 b3 || mulO a3 b2 || subO (mulF a2 b3) (mulF a3 b2) || mulO a3 b1 || mulO a1 b3 || subO (mulF a3 b1) (mulF a1 b3) || mulO a1 b2 || mulO a2 b1 || subO (mulF a1 b2) (mulF a2 b1)) = false
  y : crossF b2 a3 b3 a2 = -c1 ∧ crossF b3 a1 b1 a3 = -c2 ∧ crossF b1 a2 b2 a1 = -c3
  yo : (false || mulO b2 a3 || mulO b3 a2 || subO (mulF b2 a3) (mulF b3 a2) || mulO b3 a1 || mulO b1 a3 || subO (mulF b3 a1) (mulF b1 a3) || mulO b1 a2 || mulO b2 a1 || subO (mulF b1 a2) (mulF b2 a1)) = false
  n : subF 0 c1 = -c1 ∧ subF 0 c2 = -c2 ∧ subF 0 c3 = -c3
  no : (false || subO 0 c1 || subO 0 c2 || subO 0 c3) = false
  c : In3 c1 c2 c3
  hd : dotF c1 c2 c3 a1 a2 a3 = d
  dO : (false || mulO c1 a1 || mulO c2 a2 || addO (mulF c1 a1) (mulF c2 a2) || mulO c3 a3 || addO (addF (mulF c1 a1) (mulF c2 a2)) (mulF c3 a3)) = false
  he : dotF c1 c2 c3 b1 b2 b3 = e
  eO : (false || mulO c1 b1 || mulO c2 b2 || addO (mulF c1 b1) (mulF c2 b2) || mulO c3 b3 || addO (addF (mulF c1 b1) (mulF c2 b2)) (mulF c3 b3)) = false
  d0 : -1537 ≤ d
  d1 : d ≤ 1537
  e0 : -1537 ≤ e
  e1 : e ≤ 1537
theorem sqN {a1 a2 a3 b1 b2 b3 : Int} (ka1 : Sm a1) (ka2 : Sm a2) (ka3 : Sm a3) (kb1 : Sm b1) (kb2 : Sm b2) (kb3 : Sm b3) : ∃ c1 c2 c3 d e, SqN a1 a2 a3 b1 b2 b3 c1 c2 c3 d e := by
  have x1 := cross_small ka2 kb3 ka3 kb2
  have x2 := cross_small ka3 kb1 ka1 kb3
  have x3 := cross_small ka1 kb2 ka2 kb1
  have y1 := cross_small kb2 ka3 kb3 ka2
  have y2 := cross_small kb3 ka1 kb1 ka3
  have y3 := cross_small kb1 ka2 kb2 ka1
  obtain ⟨xa1, xb1, xc1, xd1, xl1, xu1, xe1, xf1, xg1, xh1, xi1⟩ := x1
  obtain ⟨xa2, xb2, xc2, xd2, xl2, xu2, xe2, xf2, xg2, xh2, xi2⟩ := x2
  obtain ⟨xa3, xb3, xc3, xd3, xl3, xu3, xe3, xf3, xg3, xh3, xi3⟩ := x3
  obtain ⟨ya1, yb1, yc1, yd1, yl1, yu1, ye1, yf1, yg1, yh1, yi1⟩ := y1
  obtain ⟨ya2, yb2, yc2, yd2, yl2, yu2, ye2, yf2, yg2, yh2, yi2⟩ := y2
  obtain ⟨ya3, yb3, yc3, yd3, yl3, yu3, ye3, yf3, yg3, yh3, yi3⟩ := y3
  have k1 : crossF b2 a3 b3 a2 = -crossF a2 b3 a3 b2 := by rw [← yg1]; exact xh1
  have k2 : crossF b3 a1 b1 a3 = -crossF a3 b1 a1 b3 := by rw [← yg2]; exact xh2
  have k3 : crossF b1 a2 b2 a1 = -crossF a1 b2 a2 b1 := by rw [← yg3]; exact xh3
  have XO : (false || mulO a2 b3 || mulO a3 b2 || subO (mulF a2 b3) (mulF a3 b2) || mulO a3 b1 || mulO a1 b3 || subO (mulF a3 b1) (mulF a1 b3) || mulO a1 b2 || mulO a2 b1 || subO (mulF a1 b2) (mulF a2 b1)) = false := by
    rw [xb1, xc1, xd1, xb2, xc2, xd2, xb3, xc3, xd3]; rfl
  have YO : (false || mulO b2 a3 || mulO b3 a2 || subO (mulF b2 a3) (mulF b3 a2) || mulO b3 a1 || mulO b1 a3 || subO (mulF b3 a1) (mulF b1 a3) || mulO b1 a2 || mulO b2 a1 || subO (mulF b1 a2) (mulF b2 a1)) = false := by
    rw [yb1, yc1, yd1, yb2, yc2, yd2, yb3, yc3, yd3]; rfl
  generalize hc1 : crossF a2 b3 a3 b2 = c1 at *
  generalize hc2 : crossF a3 b1 a1 b3 = c2 at *
  generalize hc3 : crossF a1 b2 a2 b1 = c3 at *
  have n1 := sub_small (a := 0) (b := c1) (by omega) (by omega)
  have n2 := sub_small (a := 0) (b := c2) (by omega) (by omega)
  have n3 := sub_small (a := 0) (b := c3) (by omega) (by omega)
  have s1 := square_to ka1 ka2 ka3 ⟨xe1, xf1⟩ ⟨xe2, xf2⟩ ⟨xe3, xf3⟩
  have s2 := square_to' kb1 kb2 kb3 ⟨xe1, xf1⟩ ⟨xe2, xf2⟩ ⟨xe3, xf3⟩
  have d1 := dot_small ⟨xl1, xu1⟩ ⟨xl2, xu2⟩ ⟨xl3, xu3⟩ ka1 ka2 ka3
  have d2 := dot_small ⟨xl1, xu1⟩ ⟨xl2, xu2⟩ ⟨xl3, xu3⟩ kb1 kb2 kb3
  obtain ⟨da, ⟨db, dc, dd, de, df⟩, dg, dh⟩ := d1
  obtain ⟨ea, ⟨eb, ec, ed, ee, ef⟩, eg, eh⟩ := d2
  refine ⟨c1, c2, c3, _, _, ⟨hc1, hc2, hc3⟩, XO, ⟨k1, k2, k3⟩, YO, ⟨by rw [n1.1]; omega, by rw [n2.1]; omega, by rw [n3.1]; omega⟩, by rw [n1.2, n2.2, n3.2]; rfl, ⟨by omega, by omega, by omega, by omega, by omega, by omega⟩, rfl, by rw [db, dc, dd, de, df]; rfl, rfl, by rw [eb, ec, ed, ee, ef]; rfl, ?_, ?_, ?_, ?_⟩ <;> omega
theorem abs_le {d : Int} (d0 : -1537 ≤ d) (d1 : d ≤ 1537) : absF d ≤ 8192 ∧ absO d = false := by
  have := abs_nat (x := d) (by omega) (by omega)
  exact ⟨by rw [this.1]; omega, this.2⟩
set_option maxRecDepth 100000 in
set_option maxHeartbeats 8000000 in
theorem vsquare_walk (a1 a2 a3 b1 b2 b3 : Int) (w : World) (ha : In3 a1 a2 a3) (hb : In3 b1 b2 b3) :
    Calls Try.prog 7 #[.agg #[.int .i64 a1, .int .i64 a2, .int .i64 a3], .agg #[.int .i64 b1, .int .i64 b2, .int .i64 b3]] w fun e w' => e = .returned (.bool true) ∧ Below w.heap.size w w' := by
  by_cases ka : Sm a1 ∧ Sm a2 ∧ Sm a3
  · have ea := Lib.hid (decide_eq_true ka)
    by_cases kb : Sm b1 ∧ Sm b2 ∧ Sm b3
    · have eb := Lib.hid (decide_eq_true kb)
      obtain ⟨c1, c2, c3, d, e, N⟩ := sqN ka.1 ka.2.1 ka.2.2 kb.1 kb.2.1 kb.2.2
      have X1 := Lib.hid (fun (b : Nat) (W : World) (m : MAt W b 0 false) => VCross_any a1 a2 a3 b1 b2 b3 b 0 false W ha hb m)
      rw [N.x.1, N.x.2.1, N.x.2.2, N.xo] at X1
      have X2 := Lib.hid (fun (b : Nat) (W : World) (m : MAt W b 0 false) => VDot_any c1 c2 c3 a1 a2 a3 b 0 false W N.c ha m)
      rw [N.hd, N.dO] at X2
      have X3 := Lib.hid (fun (b : Nat) (W : World) (m : MAt W b 0 false) => VDot_any c1 c2 c3 b1 b2 b3 b 0 false W N.c hb m)
      rw [N.he, N.eO] at X3
      have X4 := Lib.hid (fun (b : Nat) (W : World) (m : MAt W b 0 false) => VCross_any b1 b2 b3 a1 a2 a3 b 0 false W hb ha m)
      rw [N.y.1, N.y.2.1, N.y.2.2, N.yo] at X4
      have X5 := Lib.hid (fun (b : Nat) (W : World) (m : MAt W b 0 false) => VNeg_any c1 c2 c3 b 0 false W N.c m)
      rw [N.n.1, N.n.2.1, N.n.2.2, N.no] at X5
      have AD := abs_le N.d0 N.d1
      have AE := abs_le N.e0 N.e1
      have X6 := Lib.hid (fun (b : Nat) (W : World) (m : MAt W b 0 false) => fxAbs_any d b 0 false W (by have := N.d0; omega) (by have := N.d1; omega) m)
      rw [AD.2, Bool.or_false] at X6
      have X7 := Lib.hid (fun (b : Nat) (W : World) (m : MAt W b 0 false) => fxAbs_any e b 0 false W (by have := N.e0; omega) (by have := N.e1; omega) m)
      rw [AE.2, Bool.or_false] at X7
      have td := AD.1
      have te := AE.1
      clear AD AE N ha hb ka kb
      generalize absF d = D at *
      generalize absF e = E at *
      go_enter Try.func7, Try.ntmps7
      go_wp2_with fail
      refine calls_gen (S := fun W => VW W w.heap.size a1 a2 a3 ∧ VW W (w.heap.size + 1) b1 b2 b3 ∧ Below w.heap.size w W)
        ⟨(VW.new w w.heap.size a1 a2 a3 _ rfl).alloc _, VW.new _ (w.heap.size + 1) b1 b2 b3 _ (by simp), by repeat (first | exact Below.refl _ _ | assumption | refine Below.setCell ?_ (by first | omega | (simp; done) | (simp; omega)) _ | refine Below.alloc ?_ (by first | omega | (simp; done) | (simp; omega)) _ | refine below_drewN ?_ _ | refine Below.drew ?_ | refine Below.trans ?_ (Below.mono (by assumption) (by first | omega | (simp; done) | (simp; omega))))⟩ (fun W0 hS => ?_)
      have A0 := Lib.hid hS.1
      have B0 := Lib.hid hS.2.1
      have L0 := Lib.hid hS.2.2
      clear hS
      refine (small_any a1 a2 a3 _).mono ?_
      rw [ea.out]
      rintro e w1 ⟨rfl, h⟩
      have A1 := Lib.hid (A0.out.below h A0.out.lt)
      have B1 := Lib.hid (B0.out.below h B0.out.lt)
      have L1 := Lib.hid (L0.out.trans (h.mono L0.out.size))
      clear h A0 B0 L0
      have v0 := B1.out.c0
      have v1 := B1.out.c1
      have v2 := B1.out.c2
      have vf := B1.out.f
      go_wp2_with fail
      refine (small_any b1 b2 b3 _).mono ?_
      rw [eb.out]
      rintro e w2 ⟨rfl, h⟩
      have A2 := Lib.hid (A1.out.below h A1.out.lt)
      have B2 := Lib.hid (B1.out.below h B1.out.lt)
      have L2 := Lib.hid (L1.out.trans (h.mono L1.out.size))
      clear h A1 B1 L1 v0 v1 v2 vf
      have u0 := A2.out.c0
      have u1 := A2.out.c1
      have u2 := A2.out.c2
      have uf := A2.out.f
      have v0 := B2.out.c0
      have v1 := B2.out.c1
      have v2 := B2.out.c2
      have vf := B2.out.f
      have z0 : w.heap.size < w2.heap.size := A2.out.lt
      have z1 : w.heap.size + 1 < w2.heap.size := B2.out.lt
      go_wp2_with fail
      refine calls_gen (S := fun W => VW W w.heap.size a1 a2 a3 ∧ VW W (w.heap.size + 1) b1 b2 b3 ∧ Own w W w2.heap.size false)
        ⟨A2.out.alloc _, B2.out.alloc _, Own.new L2.out _⟩ (fun W0 hS => ?_)
      clear A2 B2 L2 u0 u1 u2 uf v0 v1 v2 vf
      generalize w2.heap.size = n at *
      have A3 := Lib.hid hS.1
      have B3 := Lib.hid hS.2.1
      have T3 := Lib.hid hS.2.2
      clear hS
      refine (X1.out _ _ T3.out.a).mono ?_
      rintro e w4 ⟨rfl, h⟩
      have T4 := Lib.hid (T3.out.fst h)
      have A4 := Lib.hid (A3.out.fx h (by omega))
      have B4 := Lib.hid (B3.out.fx h (by omega))
      clear h A3 B3 T3 X1
      have u0 := A4.out.c0
      have u1 := A4.out.c1
      have u2 := A4.out.c2
      have uf := A4.out.f
      have y0 : w.heap.size < w4.heap.size := A4.out.lt
      go_wp2_with fail
      refine calls_gen (S := fun W => VW W w.heap.size a1 a2 a3 ∧ VW W (w.heap.size + 1) b1 b2 b3 ∧ VW W w4.heap.size c1 c2 c3 ∧ Own w W n false)
        ⟨A4.out.alloc _, B4.out.alloc _, VW.new w4 _ c1 c2 c3 _ rfl, T4.out.more ((Below.refl w4.heap.size w4).alloc (Nat.le_refl _) _)⟩ (fun W1 hS => ?_)
      have hz1 : n < w4.heap.size := T4.out.a.lt
      clear A4 B4 T4 u0 u1 u2 uf
      generalize w4.heap.size = n1 at *
      have A5 := Lib.hid hS.1
      have B5 := Lib.hid hS.2.1
      have U5 := Lib.hid hS.2.2.1
      have T5 := Lib.hid hS.2.2.2
      clear hS
      refine (X2.out _ _ T5.out.a).mono ?_
      rintro e w6 ⟨rfl, h⟩
      have T6 := Lib.hid (T5.out.fst h)
      have A6 := Lib.hid (A5.out.fx h (by omega))
      have B6 := Lib.hid (B5.out.fx h (by omega))
      have U6 := Lib.hid (U5.out.fx h (by omega))
      clear h A5 B5 T5 U5 X2
      have u0 := B6.out.c0
      have u1 := B6.out.c1
      have u2 := B6.out.c2
      have uf := B6.out.f
      have v0 := U6.out.c0
      have v1 := U6.out.c1
      have v2 := U6.out.c2
      have vf := U6.out.f
      go_wp2_with fail
      refine (X3.out _ _ T6.out.a).mono ?_
      rintro e w7 ⟨rfl, h⟩
      have T0 := Lib.hid (T6.out.fst h).drew
      have A0 := Lib.hid (A6.out.fx h (by omega)).drew
      have B0 := Lib.hid (B6.out.fx h (by omega)).drew
      have U0 := Lib.hid (U6.out.fx h (by omega)).drew
      clear h A6 B6 T6 U6 X3 u0 u1 u2 uf v0 v1 v2 vf
      go_wp2_with fail
      refine wp_region_held_drew (S := fun W => (W.cell? ⟨w.heap.size, 0, none⟩ = some (.int .i64 (a1)) ∧ W.cell? ⟨w.heap.size, 1, none⟩ = some (.int .i64 (a2)) ∧ W.cell? ⟨w.heap.size, 2, none⟩ = some (.int .i64 (a3))) ∧ (W.cell? ⟨w.heap.size + 1, 0, none⟩ = some (.int .i64 (b1)) ∧ W.cell? ⟨w.heap.size + 1, 1, none⟩ = some (.int .i64 (b2)) ∧ W.cell? ⟨w.heap.size + 1, 2, none⟩ = some (.int .i64 (b3))) ∧ (W.cell? ⟨n1, 0, none⟩ = some (.int .i64 (c1)) ∧ W.cell? ⟨n1, 1, none⟩ = some (.int .i64 (c2)) ∧ W.cell? ⟨n1, 2, none⟩ = some (.int .i64 (c3)))) (by kernel_rfl) ⟨A0.out.held, B0.out.held, U0.out.held⟩ (fun hHeld => ?_)
      refine wpAnyH_takeD 0 32 (v := ?_) (by kernel_rfl) (by kernel_rfl) (by kernel_rfl) (by kernel_rfl) (by rfl) (fun _ _ _ h => h) ?_ hHeld ?_
      rotate_left 1
      (intro o ho W hSw; simp only [List.getElem?_toArray, List.getElem?_cons_succ, List.getElem?_cons_zero, Option.some.injEq] at ho; subst ho; (try dsimp only at hSw); go_simp; try with_reducible rfl)
      (try simp only [Act.put, List.setIfInBounds_toArray, List.set_cons_zero, List.set_cons_succ])
      refine wpAnyH_takeD 1 33 (v := ?_) (by kernel_rfl) (by kernel_rfl) (by kernel_rfl) (by kernel_rfl) (by rfl) (fun _ _ _ h => h) ?_ hHeld ?_
      rotate_left 1
      (intro o ho W hSw; simp only [List.getElem?_toArray, List.getElem?_cons_succ, List.getElem?_cons_zero, Option.some.injEq] at ho; subst ho; (try dsimp only at hSw); go_simp; try with_reducible rfl)
      (try simp only [Act.put, List.setIfInBounds_toArray, List.set_cons_zero, List.set_cons_succ])
      refine wpAnyH_takeD 2 34 (v := ?_) (by kernel_rfl) (by kernel_rfl) (by kernel_rfl) (by kernel_rfl) (by rfl) (fun _ _ _ h => h) ?_ hHeld ?_
      rotate_left 1
      (intro o ho W hSw; simp only [List.getElem?_toArray, List.getElem?_cons_succ, List.getElem?_cons_zero, Option.some.injEq] at ho; subst ho; (try dsimp only at hSw); go_simp; try with_reducible rfl)
      (try simp only [Act.put, List.setIfInBounds_toArray, List.set_cons_zero, List.set_cons_succ])
      refine wpAnyH_takeD 4 36 (v := ?_) (by kernel_rfl) (by kernel_rfl) (by kernel_rfl) (by kernel_rfl) (by rfl) (fun _ _ _ h => h) ?_ hHeld ?_
      rotate_left 1
      (intro o ho W hSw; simp only [List.getElem?_toArray, List.getElem?_cons_succ, List.getElem?_cons_zero, Option.some.injEq] at ho; subst ho; (try dsimp only at hSw); go_simp; try with_reducible rfl)
      (try simp only [Act.put, List.setIfInBounds_toArray, List.set_cons_zero, List.set_cons_succ])
      refine wpAnyH_takeD 5 37 (v := ?_) (by kernel_rfl) (by kernel_rfl) (by kernel_rfl) (by kernel_rfl) (by rfl) (fun _ _ _ h => h) ?_ hHeld ?_
      rotate_left 1
      (intro o ho W hSw; simp only [List.getElem?_toArray, List.getElem?_cons_succ, List.getElem?_cons_zero, Option.some.injEq] at ho; subst ho; (try dsimp only at hSw); go_simp; try with_reducible rfl)
      (try simp only [Act.put, List.setIfInBounds_toArray, List.set_cons_zero, List.set_cons_succ])
      refine wpAnyH_onlyD 3 (by kernel_rfl) (fun o ho K hK => ?_) (by kernel_rfl)
      simp only [List.getElem?_toArray, List.getElem?_cons_succ, List.getElem?_cons_zero, Option.some.injEq] at ho
      subst ho
      go_simp
      refine (X4.out _ _ T0.out.a).mono ?_
      rintro e w1 ⟨rfl, h⟩
      have T1 := Lib.hid (T0.out.fst h)
      have A1 := Lib.hid (A0.out.fx h (by omega))
      (try have B1 := Lib.hid (B0.out.fx h (by omega)))
      (try have U1 := Lib.hid (U0.out.fx h (by omega)))
      (try have V1 := Lib.hid (V0.out.fx h (by omega)))
      go_wp2_with fail
      refine hK.out _ _ (⟨A1.out.held, B1.out.held, U1.out.held⟩) (fun hHeld => ?_)
      clear hK K
      clear h T0 A0
      (try clear B0)
      (try clear U0)
      (try clear V0)
      refine wpAnyH_onlyD 6 (by kernel_rfl) (fun o ho K hK => ?_) (by kernel_rfl)
      simp only [List.getElem?_toArray, List.getElem?_cons_succ, List.getElem?_cons_zero, Option.some.injEq] at ho
      subst ho
      go_simp
      refine (X5.out _ _ T1.out.a).mono ?_
      rintro e w2 ⟨rfl, h⟩
      have T2 := Lib.hid (T1.out.fst h)
      have A2 := Lib.hid (A1.out.fx h (by omega))
      (try have B2 := Lib.hid (B1.out.fx h (by omega)))
      (try have U2 := Lib.hid (U1.out.fx h (by omega)))
      (try have V2 := Lib.hid (V1.out.fx h (by omega)))
      go_wp2_with fail
      refine hK.out _ _ (⟨A2.out.held, B2.out.held, U2.out.held⟩) (fun hHeld => ?_)
      clear hK K
      clear h T1 A1
      (try clear B1)
      (try clear U1)
      (try clear V1)
      refine wpAnyH_takeD 7 39 (v := ?_) (by kernel_rfl) (by kernel_rfl) (by kernel_rfl) (by kernel_rfl) (by rfl) (fun _ _ _ h => h) ?_ hHeld ?_
      rotate_left 1
      (intro o ho W hSw; simp only [List.getElem?_toArray, List.getElem?_cons_succ, List.getElem?_cons_zero, Option.some.injEq] at ho; subst ho; (try dsimp only at hSw); go_simp; try with_reducible rfl)
      (try simp only [Act.put, List.setIfInBounds_toArray, List.set_cons_zero, List.set_cons_succ])
      refine wpAnyH_takeD 8 40 (v := ?_) (by kernel_rfl) (by kernel_rfl) (by kernel_rfl) (by kernel_rfl) (by rfl) (fun _ _ _ h => h) ?_ hHeld ?_
      rotate_left 1
      (intro o ho W hSw; simp only [List.getElem?_toArray, List.getElem?_cons_succ, List.getElem?_cons_zero, Option.some.injEq] at ho; subst ho; (try dsimp only at hSw); go_simp; try with_reducible rfl)
      (try simp only [Act.put, List.setIfInBounds_toArray, List.set_cons_zero, List.set_cons_succ])
      refine wpAnyH_takeD 9 41 (v := ?_) (by kernel_rfl) (by kernel_rfl) (by kernel_rfl) (by kernel_rfl) (by rfl) (fun _ _ _ h => h) ?_ hHeld ?_
      rotate_left 1
      (intro o ho W hSw; simp only [List.getElem?_toArray, List.getElem?_cons_succ, List.getElem?_cons_zero, Option.some.injEq] at ho; subst ho; (try dsimp only at hSw); go_simp; try with_reducible rfl)
      (try simp only [Act.put, List.setIfInBounds_toArray, List.set_cons_zero, List.set_cons_succ])
      refine wpAnyH_takeD 10 42 (v := ?_) (by kernel_rfl) (by kernel_rfl) (by kernel_rfl) (by kernel_rfl) (by rfl) (fun _ _ _ h => h) ?_ hHeld ?_
      rotate_left 1
      (intro o ho W hSw; simp only [List.getElem?_toArray, List.getElem?_cons_succ, List.getElem?_cons_zero, Option.some.injEq] at ho; subst ho; (try dsimp only at hSw); go_simp; try with_reducible rfl)
      (try simp only [Act.put, List.setIfInBounds_toArray, List.set_cons_zero, List.set_cons_succ])
      refine wpAnyH_onlyD 11 (by kernel_rfl) (fun o ho K hK => ?_) (by kernel_rfl)
      simp only [List.getElem?_toArray, List.getElem?_cons_succ, List.getElem?_cons_zero, Option.some.injEq] at ho
      subst ho
      go_simp
      refine (X6.out _ _ T2.out.a).mono ?_
      rintro e w3 ⟨rfl, h⟩
      have T3 := Lib.hid (T2.out.fst h)
      have A3 := Lib.hid (A2.out.fx h (by omega))
      (try have B3 := Lib.hid (B2.out.fx h (by omega)))
      (try have U3 := Lib.hid (U2.out.fx h (by omega)))
      (try have V3 := Lib.hid (V2.out.fx h (by omega)))
      go_wp2_with fail
      refine hK.out _ _ (⟨A3.out.held, B3.out.held, U3.out.held⟩) (fun hHeld => ?_)
      clear hK K
      clear h T2 A2
      (try clear B2)
      (try clear U2)
      (try clear V2)
      refine wpAnyH_takeD 12 44 (v := ?_) (by kernel_rfl) (by kernel_rfl) (by kernel_rfl) (by kernel_rfl) (by rfl) (fun _ _ _ h => h) ?_ hHeld ?_
      rotate_left 1
      (intro o ho W hSw; simp only [List.getElem?_toArray, List.getElem?_cons_succ, List.getElem?_cons_zero, Option.some.injEq] at ho; subst ho; (try dsimp only at hSw); go_simp; try with_reducible rfl)
      (try simp only [Act.put, List.setIfInBounds_toArray, List.set_cons_zero, List.set_cons_succ])
      refine wpAnyH_takeD 13 45 (v := ?_) (by kernel_rfl) (by kernel_rfl) (by kernel_rfl) (by kernel_rfl) (by rfl) (fun _ _ _ h => h) ?_ hHeld ?_
      rotate_left 1
      (intro o ho W hSw; simp only [List.getElem?_toArray, List.getElem?_cons_succ, List.getElem?_cons_zero, Option.some.injEq] at ho; subst ho; (try dsimp only at hSw); go_simp; try with_reducible rfl)
      (try simp only [Act.put, List.setIfInBounds_toArray, List.set_cons_zero, List.set_cons_succ])
      refine wpAnyH_takeD 14 46 (v := ?_) (by kernel_rfl) (by kernel_rfl) (by kernel_rfl) (by kernel_rfl) (by rfl) (fun _ _ _ h => h) ?_ hHeld ?_
      rotate_left 1
      (intro o ho W hSw; simp only [List.getElem?_toArray, List.getElem?_cons_succ, List.getElem?_cons_zero, Option.some.injEq] at ho; subst ho; (try dsimp only at hSw); go_simp; try with_reducible rfl)
      (try simp only [Act.put, List.setIfInBounds_toArray, List.set_cons_zero, List.set_cons_succ])
      refine wpAnyH_takeD 15 47 (v := ?_) (by kernel_rfl) (by kernel_rfl) (by kernel_rfl) (by kernel_rfl) (by rfl) (fun _ _ _ h => h) ?_ hHeld ?_
      rotate_left 1
      (intro o ho W hSw; simp only [List.getElem?_toArray, List.getElem?_cons_succ, List.getElem?_cons_zero, Option.some.injEq] at ho; subst ho; (try dsimp only at hSw); go_simp; try with_reducible rfl)
      (try simp only [Act.put, List.setIfInBounds_toArray, List.set_cons_zero, List.set_cons_succ])
      refine wpAnyH_takeD 16 48 (v := ?_) (by kernel_rfl) (by kernel_rfl) (by kernel_rfl) (by kernel_rfl) (by rfl) (fun _ _ _ h => h) ?_ hHeld ?_
      rotate_left 1
      (intro o ho W hSw; simp only [List.getElem?_toArray, List.getElem?_cons_succ, List.getElem?_cons_zero, Option.some.injEq] at ho; subst ho; (try dsimp only at hSw); go_simp; try with_reducible rfl)
      (try simp only [Act.put, List.setIfInBounds_toArray, List.set_cons_zero, List.set_cons_succ])
      refine wpAnyH_onlyD 17 (by kernel_rfl) (fun o ho K hK => ?_) (by kernel_rfl)
      simp only [List.getElem?_toArray, List.getElem?_cons_succ, List.getElem?_cons_zero, Option.some.injEq] at ho
      subst ho
      go_simp
      refine (X7.out _ _ T3.out.a).mono ?_
      rintro e w4 ⟨rfl, h⟩
      have T4 := Lib.hid (T3.out.fst h)
      have A4 := Lib.hid (A3.out.fx h (by omega))
      (try have B4 := Lib.hid (B3.out.fx h (by omega)))
      (try have U4 := Lib.hid (U3.out.fx h (by omega)))
      (try have V4 := Lib.hid (V3.out.fx h (by omega)))
      go_wp2_with fail
      refine hK.out _ _ (⟨A4.out.held, B4.out.held, U4.out.held⟩) (fun hHeld => ?_)
      clear hK K
      clear h T3 A3
      (try clear B3)
      (try clear U3)
      (try clear V3)
      refine wpAnyH_grow (fun W => ((W.cell? ⟨w.heap.size, 0, none⟩ = some (.int .i64 (a1)) ∧ W.cell? ⟨w.heap.size, 1, none⟩ = some (.int .i64 (a2)) ∧ W.cell? ⟨w.heap.size, 2, none⟩ = some (.int .i64 (a3))) ∧ (W.cell? ⟨w.heap.size + 1, 0, none⟩ = some (.int .i64 (b1)) ∧ W.cell? ⟨w.heap.size + 1, 1, none⟩ = some (.int .i64 (b2)) ∧ W.cell? ⟨w.heap.size + 1, 2, none⟩ = some (.int .i64 (b3))) ∧ (W.cell? ⟨n1, 0, none⟩ = some (.int .i64 (c1)) ∧ W.cell? ⟨n1, 1, none⟩ = some (.int .i64 (c2)) ∧ W.cell? ⟨n1, 2, none⟩ = some (.int .i64 (c3)))) ∧ W.cell? ⟨n, 0, none⟩ = some (.bool false)) (fun _ h => h.1) ⟨hHeld, T4.out.a.c⟩ (fun hHeld => ?_)
      refine wpAnyH_takeD 18 50 (v := ?_) (by kernel_rfl) (by kernel_rfl) (by kernel_rfl) (by kernel_rfl) (by rfl) (fun _ _ _ h => h) ?_ hHeld ?_
      rotate_left 1
      (intro o ho W hSw; simp only [List.getElem?_toArray, List.getElem?_cons_succ, List.getElem?_cons_zero, Option.some.injEq] at ho; subst ho; (try dsimp only at hSw); go_simp; try with_reducible rfl)
      (try simp only [Act.put, List.setIfInBounds_toArray, List.set_cons_zero, List.set_cons_succ])
      refine wpAnyH_takeD 19 51 (v := ?_) (by kernel_rfl) (by kernel_rfl) (by kernel_rfl) (by kernel_rfl) (by rfl) (fun _ _ _ h => h) ?_ hHeld ?_
      rotate_left 1
      (intro o ho W hSw; simp only [List.getElem?_toArray, List.getElem?_cons_succ, List.getElem?_cons_zero, Option.some.injEq] at ho; subst ho; (try dsimp only at hSw); go_simp; try with_reducible rfl)
      (try simp only [Act.put, List.setIfInBounds_toArray, List.set_cons_zero, List.set_cons_succ])
      refine wpAnyH_takeD 20 52 (v := ?_) (by kernel_rfl) (by kernel_rfl) (by kernel_rfl) (by kernel_rfl) (by rfl) (fun _ _ _ h => h) ?_ hHeld ?_
      rotate_left 1
      (intro o ho W hSw; simp only [List.getElem?_toArray, List.getElem?_cons_succ, List.getElem?_cons_zero, Option.some.injEq] at ho; subst ho; (try dsimp only at hSw); go_simp; try with_reducible rfl)
      (try simp only [Act.put, List.setIfInBounds_toArray, List.set_cons_zero, List.set_cons_succ])
      refine wpAnyH_takeD 21 53 (v := ?_) (by kernel_rfl) (by kernel_rfl) (by kernel_rfl) (by kernel_rfl) (by rfl) (fun _ _ _ h => h) ?_ hHeld ?_
      rotate_left 1
      (intro o ho W hSw; simp only [List.getElem?_toArray, List.getElem?_cons_succ, List.getElem?_cons_zero, Option.some.injEq] at ho; subst ho; (try dsimp only at hSw); go_simp; try with_reducible rfl)
      (try simp only [Act.put, List.setIfInBounds_toArray, List.set_cons_zero, List.set_cons_succ])
      refine wpAnyH_takeD 22 54 (v := ?_) (by kernel_rfl) (by kernel_rfl) (by kernel_rfl) (by kernel_rfl) (by rfl) (fun _ _ _ h => h) ?_ hHeld ?_
      rotate_left 1
      (intro o ho W hSw; simp only [List.getElem?_toArray, List.getElem?_cons_succ, List.getElem?_cons_zero, Option.some.injEq] at ho; subst ho; (try dsimp only at hSw); go_simp; try with_reducible rfl)
      (try simp only [Act.put, List.setIfInBounds_toArray, List.set_cons_zero, List.set_cons_succ])
      refine wpAnyH_takeD 23 55 (v := ?_) (by kernel_rfl) (by kernel_rfl) (by kernel_rfl) (by kernel_rfl) (by rfl) (fun _ _ _ h => h) ?_ hHeld ?_
      rotate_left 1
      (intro o ho W hSw; simp only [List.getElem?_toArray, List.getElem?_cons_succ, List.getElem?_cons_zero, Option.some.injEq] at ho; subst ho; (try dsimp only at hSw); go_simp; try with_reducible rfl)
      (try simp only [Act.put, List.setIfInBounds_toArray, List.set_cons_zero, List.set_cons_succ])
      refine wpAnyH_takeD 24 56 (v := ?_) (by kernel_rfl) (by kernel_rfl) (by kernel_rfl) (by kernel_rfl) (by rfl) (fun _ _ _ h => h) ?_ hHeld ?_
      rotate_left 1
      (intro o ho W hSw; simp only [List.getElem?_toArray, List.getElem?_cons_succ, List.getElem?_cons_zero, Option.some.injEq] at ho; subst ho; (try dsimp only at hSw); go_simp; try with_reducible rfl)
      (try simp only [Act.put, List.setIfInBounds_toArray, List.set_cons_zero, List.set_cons_succ])
      refine wpAnyH_takeD 25 57 (v := ?_) (by kernel_rfl) (by kernel_rfl) (by kernel_rfl) (by kernel_rfl) (by rfl) (fun _ _ _ h => h) ?_ hHeld ?_
      rotate_left 1
      (intro o ho W hSw; simp only [List.getElem?_toArray, List.getElem?_cons_succ, List.getElem?_cons_zero, Option.some.injEq] at ho; subst ho; (try dsimp only at hSw); go_simp; try with_reducible rfl)
      (try simp only [Act.put, List.setIfInBounds_toArray, List.set_cons_zero, List.set_cons_succ])
      refine wpAnyH_takeD 26 58 (v := ?_) (by kernel_rfl) (by kernel_rfl) (by kernel_rfl) (by kernel_rfl) (by rfl) (fun _ _ _ h => h) ?_ hHeld ?_
      rotate_left 1
      (intro o ho W hSw; simp only [List.getElem?_toArray, List.getElem?_cons_succ, List.getElem?_cons_zero, Option.some.injEq] at ho; subst ho; (try dsimp only at hSw); go_simp; try with_reducible rfl)
      (try simp only [Act.put, List.setIfInBounds_toArray, List.set_cons_zero, List.set_cons_succ])
      refine wpAnyH_takeD 27 59 (v := ?_) (by kernel_rfl) (by kernel_rfl) (by kernel_rfl) (by kernel_rfl) (by rfl) (fun _ _ _ h => h) ?_ hHeld ?_
      rotate_left 1
      (intro o ho W hSw; simp only [List.getElem?_toArray, List.getElem?_cons_succ, List.getElem?_cons_zero, Option.some.injEq] at ho; subst ho; (try dsimp only at hSw); go_simp; try with_reducible rfl)
      (try simp only [Act.put, List.setIfInBounds_toArray, List.set_cons_zero, List.set_cons_succ])
      refine wpAnyH_onlyD 28 (by kernel_rfl) (fun o ho K hK => ?_) (by kernel_rfl)
      simp only [List.getElem?_toArray, List.getElem?_cons_succ, List.getElem?_cons_zero, Option.some.injEq] at ho
      subst ho
      go_simp
      refine (vecAwake_any _).mono ?_
      rintro e w5 ⟨rfl, h⟩
      have T5 := Lib.hid (T4.out.more h)
      have A5 := Lib.hid (A4.out.below h A4.out.lt)
      (try have B5 := Lib.hid (B4.out.below h B4.out.lt))
      (try have U5 := Lib.hid (U4.out.below h U4.out.lt))
      (try have V5 := Lib.hid (V4.out.below h V4.out.lt))
      go_wp2_with fail
      refine hK.out _ _ (⟨⟨A5.out.held, B5.out.held, U5.out.held⟩, T5.out.a.c⟩) (fun hHeld => ?_)
      clear hK K
      clear h T4 A4
      (try clear B4)
      (try clear U4)
      (try clear V4)
      refine wpAnyH_takeD 29 61 (v := ?_) (by kernel_rfl) (by kernel_rfl) (by kernel_rfl) (by kernel_rfl) (by rfl) (fun _ _ _ h => h) ?_ hHeld ?_
      rotate_left 1
      (intro o ho W hSw; simp only [List.getElem?_toArray, List.getElem?_cons_succ, List.getElem?_cons_zero, Option.some.injEq] at ho; subst ho; (try dsimp only at hSw); go_simp; try with_reducible rfl)
      (try simp only [Act.put, List.setIfInBounds_toArray, List.set_cons_zero, List.set_cons_succ])
      refine wpAnyH_takeD 30 4 (v := ?_) (by kernel_rfl) (by kernel_rfl) (by kernel_rfl) (by kernel_rfl) (by rfl) (fun _ _ _ h => h) ?_ hHeld ?_
      rotate_left 1
      (intro o ho W hSw; simp only [List.getElem?_toArray, List.getElem?_cons_succ, List.getElem?_cons_zero, Option.some.injEq] at ho; subst ho; (try dsimp only at hSw); go_simp; try with_reducible rfl)
      (try simp only [Act.put, List.setIfInBounds_toArray, List.set_cons_zero, List.set_cons_succ])
      refine wpAnyH_done (by kernel_rfl) ?_ _
      go_wp2
      go_ret
      exact ⟨rfl, T5.out.bl⟩
    · have eb := Lib.hid (decide_eq_false kb)
      clear ka kb ha hb
      go_enter Try.func7, Try.ntmps7
      go_wp2_with fail
      refine calls_gen (S := fun W => VW W (w.heap.size + 1) b1 b2 b3 ∧ Below w.heap.size w W) ⟨VW.new _ (w.heap.size + 1) b1 b2 b3 _ (by simp), by repeat (first | exact Below.refl _ _ | assumption | refine Below.setCell ?_ (by first | omega | (simp; done) | (simp; omega)) _ | refine Below.alloc ?_ (by first | omega | (simp; done) | (simp; omega)) _ | refine below_drewN ?_ _ | refine Below.drew ?_ | refine Below.trans ?_ (Below.mono (by assumption) (by first | omega | (simp; done) | (simp; omega))))⟩ (fun W0 hS => ?_)
      have A0 := Lib.hid hS.1
      have B0 := Lib.hid hS.2
      clear hS
      refine (small_any a1 a2 a3 _).mono ?_
      rw [ea.out]
      rintro e w1 ⟨rfl, h⟩
      have A1 := Lib.hid (A0.out.below h A0.out.lt)
      have B1 := Lib.hid (B0.out.trans (h.mono B0.out.size))
      clear h A0 B0
      have v0 := A1.out.c0
      have v1 := A1.out.c1
      have v2 := A1.out.c2
      have vf := A1.out.f
      go_wp2_with fail
      refine (small_any b1 b2 b3 _).mono ?_
      rw [eb.out]
      rintro e w2 ⟨rfl, h⟩
      have B2 := Lib.hid (B1.out.trans (h.mono B1.out.size))
      clear h
      go_wp2_with fail
      refine (vecAwake_any _).mono ?_
      rintro e w3 ⟨rfl, h⟩
      have B3 := Lib.hid (B2.out.trans (h.mono B2.out.size))
      clear h
      go_wp2
      go_ret
      exact ⟨rfl, B3.out⟩
  · have ea := Lib.hid (decide_eq_false ka)
    clear ka ha hb
    go_enter Try.func7, Try.ntmps7
    go_wp2_with fail
    refine calls_gen (S := fun W => Below w.heap.size w W) (by repeat (first | exact Below.refl _ _ | assumption | refine Below.setCell ?_ (by first | omega | (simp; done) | (simp; omega)) _ | refine Below.alloc ?_ (by first | omega | (simp; done) | (simp; omega)) _ | refine below_drewN ?_ _ | refine Below.drew ?_ | refine Below.trans ?_ (Below.mono (by assumption) (by first | omega | (simp; done) | (simp; omega))))) (fun W0 hS => ?_)
    have B0 := Lib.hid hS
    clear hS
    refine (small_any a1 a2 a3 _).mono ?_
    rw [ea.out]
    rintro e w1 ⟨rfl, h⟩
    have B1 := Lib.hid (B0.out.trans (h.mono B0.out.size))
    clear h
    go_wp2_with fail
    refine (vecAwake_any _).mono ?_
    rintro e w2 ⟨rfl, h⟩
    have B2 := Lib.hid (B1.out.trans (h.mono B1.out.size))
    clear h
    go_wp2
    go_ret
    exact ⟨rfl, B2.out⟩
theorem vsquare_law (a1 a2 a3 b1 b2 b3 : Int) (wa1 : (Lit.int .i64 a1).wf = true) (wa2 : (Lit.int .i64 a2).wf = true) (wa3 : (Lit.int .i64 a3).wf = true) (wb1 : (Lit.int .i64 b1).wf = true) (wb2 : (Lit.int .i64 b2).wf = true) (wb3 : (Lit.int .i64 b3).wf = true) (w : World) :
    Calls Try.prog 7 #[.agg #[.int .i64 a1, .int .i64 a2, .int .i64 a3], .agg #[.int .i64 b1, .int .i64 b2, .int .i64 b3]] w fun e w' => e = .returned (.bool true) ∧ Below w.heap.size w w' :=
  vsquare_walk a1 a2 a3 b1 b2 b3 w (in3_wf wa1 wa2 wa3) (in3_wf wb1 wb2 wb3)
end Go.Proofs.Ytmjohcgngicpoaa
