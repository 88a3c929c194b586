/- The contract of the document's Part. -/
import Derived.Test.YtjilgfgchmdppaaFr
import Derived.Test.YtjilgfgchmdppaaFg
namespace Go.Proofs.Ytjilgfgchmdppaa
open Go.RowKit

theorem CellQ.below {B : Nat} {w w' : World} {n : Nat} {x0 x1 x2 x3 : Int} (k : CellQ w n x0 x1 x2 x3) (hb : Below B w w') (hn : n < B) : CellQ w' n x0 x1 x2 x3 :=
  ⟨(hb.cell (p := ⟨n, 0, none⟩) hn).trans k.c0, (hb.cell (p := ⟨n, 1, none⟩) hn).trans k.c1, (hb.cell (p := ⟨n, 2, none⟩) hn).trans k.c2, (hb.cell (p := ⟨n, 3, none⟩) hn).trans k.c3, fun j => (hb.frozen (p := ⟨n, j, none⟩) hn).trans (k.f j)⟩
theorem CellQ.all {w : World} {n : Nat} {x0 x1 x2 x3 : Int} (k : CellQ w n x0 x1 x2 x3) (v0 v1 v2 v3 : Int) :
    CellQ ((((w.setCell ⟨n, 0, none⟩ (.int .u64 v0)).setCell ⟨n, 1, none⟩ (.int .u64 v1)).setCell ⟨n, 2, none⟩ (.int .u64 v2)).setCell ⟨n, 3, none⟩ (.int .u64 v3)) n v0 v1 v2 v3 :=
  (((k.set0 v0).set1 v1).set2 v2).set3 v3
theorem CellN.far {w : World} {n m : Nat} {b : Bool} {x : Int} (k : CellN w n b x) (hn : m ≠ n) (i : Nat) (v : Value) : CellN (w.setCell ⟨m, i, none⟩ v) n b x :=
  ⟨(World.cell?_setCell_other _ _ _ _ (addr_b hn)).trans k.c0, (World.cell?_setCell_other _ _ _ _ (addr_b hn)).trans k.c1, (World.cell?_setCell_other _ _ _ _ (addr_b hn)).trans k.c2, (World.cell?_setCell_other _ _ _ _ (addr_b hn)).trans k.c3, (World.cell?_setCell_other _ _ _ _ (addr_b hn)).trans k.c4⟩
theorem CellN.far4 {w : World} {n m : Nat} {b : Bool} {x : Int} (k : CellN w n b x) (hn : m ≠ n) (u0 u1 u2 u3 : Value) : CellN ((((w.setCell ⟨m, 0, none⟩ u0).setCell ⟨m, 1, none⟩ u1).setCell ⟨m, 2, none⟩ u2).setCell ⟨m, 3, none⟩ u3) n b x :=
  (((k.far hn 0 u0).far hn 1 u1).far hn 2 u2).far hn 3 u3
theorem below_4 {B : Nat} {w w' : World} {m : Nat} (h : Below B w w') (hm : B ≤ m) (u0 u1 u2 u3 : Value) : Below B w ((((w'.setCell ⟨m, 0, none⟩ u0).setCell ⟨m, 1, none⟩ u1).setCell ⟨m, 2, none⟩ u2).setCell ⟨m, 3, none⟩ u3) :=
  (((h.setCell hm u0).setCell hm u1).setCell hm u2).setCell hm u3

set_option maxHeartbeats 4000000 in
theorem rPart_any (a b : Int) (w : World) (ha : In128 a) (hb : In128 b) :
    Calls Try.prog 32 #[.agg #[.bool (decide (a < 0)), .int .u64 (d0 (a.natAbs)), .int .u64 (d1 (a.natAbs)), .int .u64 (d2 (a.natAbs)), .int .u64 (d3 (a.natAbs))], .agg #[.bool (decide (b < 0)), .int .u64 (d0 (b.natAbs)), .int .u64 (d1 (b.natAbs)), .int .u64 (d2 (b.natAbs)), .int .u64 (d3 (b.natAbs))]] w fun e w' => e = .returned (.int .u32 (partI a b)) ∧ Below w.heap.size w w' := by
  have A := abs128 ha
  have B := abs128 hb
  by_cases p : a < 0
  · have K := Lib.hid (partI_no (b := b) (.inl p))
    have t := cmpI_lt p
    clear p
    go_enter Try.func32, Try.ntmps32
    go_wp2_with fail
    refine (rSign_any a _ ha).mono ?_
    rintro e w1 ⟨rfl, hb1⟩
    have z_w1 := hb1.size
    try simp at z_w1
    have y_w1 : w.heap.size ≤ w1.heap.size := by omega
    go_wp2
    go_ret
    exact ⟨retI K.out, by repeat (first | exact Below.refl _ _ | assumption | refine Below.setCell ?_ (by first | omega | (simp; done) | (simp; omega)) _ | refine Below.alloc ?_ (by first | omega | (simp; done) | (simp; omega)) _ | refine below_drewN ?_ _ | refine Below.drew ?_ | refine Below.trans ?_ (Below.mono (by assumption) (by first | omega | (simp; done) | (simp; omega))))⟩
  · have t := cmpI_ge (show 0 ≤ a by omega)
    by_cases q : b ≤ a
    · have K := Lib.hid (partI_no (.inr q))
      have t2 := cmpI_ge q
      clear p q
      go_enter Try.func32, Try.ntmps32
      go_wp2_with fail
      refine (rSign_any a _ ha).mono ?_
      rintro e w1 ⟨rfl, hb1⟩
      obtain ⟨hc_w1, hf_w1⟩ := bcell hb1
      have z_w1 := hb1.size
      try simp at z_w1
      have z0_w1 : w.heap.size < w1.heap.size := by omega
      have z1_w1 : w.heap.size + 1 < w1.heap.size := by omega
      have y_w1 : w.heap.size ≤ w1.heap.size := by omega
      go_wp2_with fail
      refine (rCmp_any a b _ ha hb).mono ?_
      rintro e w2 ⟨rfl, hb2⟩
      obtain ⟨hc_w2, hf_w2⟩ := bcell hb2
      have z_w2 := hb2.size
      try simp at z_w2
      have y_w2 : w.heap.size ≤ w2.heap.size := by omega
      go_wp2
      go_ret
      exact ⟨retI K.out, by repeat (first | exact Below.refl _ _ | assumption | refine Below.setCell ?_ (by first | omega | (simp; done) | (simp; omega)) _ | refine Below.alloc ?_ (by first | omega | (simp; done) | (simp; omega)) _ | refine below_drewN ?_ _ | refine Below.drew ?_ | refine Below.trans ?_ (Below.mono (by assumption) (by first | omega | (simp; done) | (simp; omega))))⟩
    · have t2 := cmpI_lt (show a < b by omega)
      have K := Lib.hid (Parts.start (show 0 ≤ a by omega) (show a < b by omega))
      have NA := Lib.hid (show (a.natAbs : Int) = a by omega)
      have NB := Lib.hid (show (b.natAbs : Int) = b by omega)
      have A0 := Lib.hid (show 0 ≤ a by omega)
      have AB := Lib.hid (show a < b by omega)
      have BM := Lib.hid (show b < 170141183460469231731687303715884105728 by unfold In128 at hb; omega)
      clear p q
      go_enter Try.func32, Try.ntmps32
      go_wp2_with fail
      refine (rSign_any a _ ha).mono ?_
      rintro e w1 ⟨rfl, hb1⟩
      obtain ⟨hc_w1, hf_w1⟩ := bcell hb1
      have z_w1 := hb1.size
      try simp at z_w1
      have z0_w1 : w.heap.size < w1.heap.size := by omega
      have z1_w1 : w.heap.size + 1 < w1.heap.size := by omega
      have y_w1 : w.heap.size ≤ w1.heap.size := by omega
      go_wp2_with fail
      refine (rCmp_any a b _ ha hb).mono ?_
      rintro e w2 ⟨rfl, hb2⟩
      obtain ⟨hc_w2, hf_w2⟩ := bcell hb2
      have z_w2 := hb2.size
      try simp at z_w2
      have z0_w2 : w.heap.size < w2.heap.size := by omega
      have z1_w2 : w.heap.size + 1 < w2.heap.size := by omega
      have y_w2 : w.heap.size ≤ w2.heap.size := by omega
      have C1 : CellN w2 w.heap.size (decide (a < 0)) a.natAbs := ((((CellN.new w _ _ _).alloc (by simp) _).below hb1 (by simp; omega))).below hb2 (by omega)
      have C2 : CellN w2 (w.heap.size + 1) (decide (b < 0)) b.natAbs := by
        have := CellN.new (w.alloc (.cells #[.bool (decide (a < 0)), .int .u64 (d0 a.natAbs), .int .u64 (d1 a.natAbs), .int .u64 (d2 a.natAbs), .int .u64 (d3 a.natAbs)] 29)) (decide (b < 0)) b.natAbs 29
        have h2 := (this.below hb1 (by simp)).below hb2 (by simp; omega)
        simpa using h2
      have hb2' : Below w.heap.size w w2 := by repeat (first | exact Below.refl _ _ | assumption | refine Below.setCell ?_ (by first | omega | (simp; done) | (simp; omega)) _ | refine Below.alloc ?_ (by first | omega | (simp; done) | (simp; omega)) _ | refine below_drewN ?_ _ | refine Below.drew ?_ | refine Below.trans ?_ (Below.mono (by assumption) (by first | omega | (simp; done) | (simp; omega))))
      have e0 := C1.c0
      have e1 := C1.c1
      have e2 := C1.c2
      have e3 := C1.c3
      have e4 := C1.c4
      clear hb1 hb2 hc_w1 hf_w1 hc_w2 hf_w2 C1
      go_wp2
      have CQ : CellQ (w2.alloc (.cells #[.int .u64 (d0 a.natAbs), .int .u64 (d1 a.natAbs), .int .u64 (d2 a.natAbs), .int .u64 (d3 a.natAbs)] 27)) w2.heap.size (d0 a) (d1 a) (d2 a) (d3 a) := by
        rw [NA.out]
        exact ⟨World.cell?_alloc_new w2 _ _ 0, World.cell?_alloc_new w2 _ _ 1, World.cell?_alloc_new w2 _ _ 2, World.cell?_alloc_new w2 _ _ 3, fun j => by go_simp⟩
      have CN := C2.alloc z1_w2 (.cells #[.int .u64 (d0 a.natAbs), .int .u64 (d1 a.natAbs), .int .u64 (d2 a.natAbs), .int .u64 (d3 a.natAbs)] 27)
      have HB := hb2'.alloc y_w2 (.cells #[.int .u64 (d0 a.natAbs), .int .u64 (d1 a.natAbs), .int .u64 (d2 a.natAbs), .int .u64 (d3 a.natAbs)] 27)
      have SZ : w2.heap.size < (w2.alloc (.cells #[.int .u64 (d0 a.natAbs), .int .u64 (d1 a.natAbs), .int .u64 (d2 a.natAbs), .int .u64 (d3 a.natAbs)] 27)).heap.size := by simp
      go_loopw [5, 7] (fun v i wr => ∃ (k : Nat) (p x : Int), k ≤ 32 ∧ i = .int .i64 k ∧ v = .int .u32 p ∧ Parts a b k p x ∧ CellQ wr w2.heap.size (d0 x) (d1 x) (d2 x) (d3 x) ∧ CellN wr (w.heap.size + 1) (decide (b < 0)) b.natAbs ∧ w2.heap.size < wr.heap.size ∧ Below w.heap.size w wr) (fun _ i _ => 32 - (intOf i).toNat)
      case atStart => exact ⟨0, 0, a, by omega, rfl, rfl, K.out, CQ, CN, SZ, HB⟩
      case round =>
        clear CQ CN HB SZ C2 hb2' e0 e1 e2 e3 e4
        obtain ⟨k, p, x, hk, rfl, rfl, kp, Q, N, hz, hbr⟩ := hrel
        by_cases hlt : k < 32
        · have p0 := kp.p0
          have p1 := kp.bound (by omega)
          have x0 := kp.x0
          have x1 := kp.x1
          have bm := BM.out
          have d2x : (2 * x + 0) % 340282366920938463463374607431768211456 = 2 * x := by omega
          have L0 : 0 ≤ 2 * x := by omega
          have L1 : 2 * x < 340282366920938463463374607431768211456 := by omega
          have X1 : x < 340282366920938463463374607431768211456 := by omega
          have nb := NB.out
          have zr : w.heap.size + 1 < wr.heap.size := by omega
          have ne1 : w2.heap.size ≠ w.heap.size + 1 := by omega
          have KP := Lib.hid kp
          have q0 := Q.c0
          have q1 := Q.c1
          have q2 := Q.c2
          have q3 := Q.c3
          have qf := Q.f
          have n0 := N.c0
          have n1 := N.c1
          have n2 := N.c2
          have n3 := N.c3
          have n4 := N.c4
          by_cases c : 2 * x < b
          · have c2 : decide (2 * x < (b.natAbs : Int)) = true := by rw [decide_eq_true_iff]; omega
            have NX := Lib.hid (show Parts a b (k + 1) (2 * p) (2 * x) by have := KP.out.low (by omega); rw [show 2 * p = p * 2 by omega, show 2 * x = x + x by omega]; exact this)
            clear kp c bm nb
            go_wp2_with fail
            refine (twice_any x 0 _ x0 X1 (by omega) (by omega)).mono ?_
            rw [d2x]
            rintro e w3 ⟨rfl, hb3⟩
            have Q3 := Q.below hb3 hz
            have N3 := N.below hb3 zr
            have B3 := hbr.trans (hb3.mono hbr.size)
            have z3 : w2.heap.size < w3.heap.size := by have := hb3.size; omega
            have r0 := Q3.c0
            have r1 := Q3.c1
            have r2 := Q3.c2
            have r3 := Q3.c3
            have rf := Q3.f
            have o0 := N3.c0
            have o1 := N3.c1
            have o2 := N3.c2
            have o3 := N3.c3
            have o4 := N3.c4
            have Q4 := Q3.all (d0 (2 * x)) (d1 (2 * x)) (d2 (2 * x)) (d3 (2 * x))
            have N4 := N3.far4 ne1 (.int .u64 (d0 (2 * x))) (.int .u64 (d1 (2 * x))) (.int .u64 (d2 (2 * x))) (.int .u64 (d3 (2 * x)))
            have B4 := below_4 B3 y_w2 (.int .u64 (d0 (2 * x))) (.int .u64 (d1 (2 * x))) (.int .u64 (d2 (2 * x))) (.int .u64 (d3 (2 * x)))
            have s0 := Q4.c0
            have s1 := Q4.c1
            have s2 := Q4.c2
            have s3 := Q4.c3
            have sf := Q4.f
            have u0 := N4.c0
            have u1 := N4.c1
            have u2 := N4.c2
            have u3 := N4.c3
            have u4 := N4.c4
            go_wp2_with fail
            refine (less_any (2 * x) b.natAbs _ L0 L1 B.1 B.2).mono ?_
            rw [c2]
            rintro e w4 ⟨rfl, hb4⟩
            have Q5 := Q4.below hb4 (by simpa [World.setCell] using z3)
            have N5 := N4.below hb4 (by simp [World.setCell]; omega)
            have B5 := B4.trans (hb4.mono B4.size)
            have z5 : w2.heap.size < w4.heap.size := by have := hb4.size; simp [World.setCell] at this; omega
            go_wp2
            go_roundw
            case rel => exact ⟨k + 1, _, 2 * x, by omega, by go_num, rfl, NX.out, Q5, N5, z5, B5⟩
            case measure => simp [intOf]; omega
          · have c2 : decide (2 * x < (b.natAbs : Int)) = false := by rw [decide_eq_false_iff_not]; omega
            have NX := Lib.hid (show Parts a b (k + 1) (2 * p + 1) (2 * x - b) by have := KP.out.high (by omega); rw [show 2 * p + 1 = p * 2 + 1 by omega, show 2 * x - b = x - (b - x) by omega]; exact this)
            have dm : (2 * x - (b.natAbs : Int)) % 340282366920938463463374607431768211456 = 2 * x - b := by rw [nb]; omega
            clear kp c bm nb
            go_wp2_with fail
            refine (twice_any x 0 _ x0 X1 (by omega) (by omega)).mono ?_
            rw [d2x]
            rintro e w3 ⟨rfl, hb3⟩
            have Q3 := Q.below hb3 hz
            have N3 := N.below hb3 zr
            have B3 := hbr.trans (hb3.mono hbr.size)
            have z3 : w2.heap.size < w3.heap.size := by have := hb3.size; omega
            have r0 := Q3.c0
            have r1 := Q3.c1
            have r2 := Q3.c2
            have r3 := Q3.c3
            have rf := Q3.f
            have o0 := N3.c0
            have o1 := N3.c1
            have o2 := N3.c2
            have o3 := N3.c3
            have o4 := N3.c4
            have Q4 := Q3.all (d0 (2 * x)) (d1 (2 * x)) (d2 (2 * x)) (d3 (2 * x))
            have N4 := N3.far4 ne1 (.int .u64 (d0 (2 * x))) (.int .u64 (d1 (2 * x))) (.int .u64 (d2 (2 * x))) (.int .u64 (d3 (2 * x)))
            have B4 := below_4 B3 y_w2 (.int .u64 (d0 (2 * x))) (.int .u64 (d1 (2 * x))) (.int .u64 (d2 (2 * x))) (.int .u64 (d3 (2 * x)))
            have s0 := Q4.c0
            have s1 := Q4.c1
            have s2 := Q4.c2
            have s3 := Q4.c3
            have sf := Q4.f
            have u0 := N4.c0
            have u1 := N4.c1
            have u2 := N4.c2
            have u3 := N4.c3
            have u4 := N4.c4
            go_wp2_with fail
            refine (less_any (2 * x) b.natAbs _ L0 L1 B.1 B.2).mono ?_
            rw [c2]
            rintro e w4 ⟨rfl, hb4⟩
            have Q5 := Q4.below hb4 (by simpa [World.setCell] using z3)
            have N5 := N4.below hb4 (by simp [World.setCell]; omega)
            have B5 := B4.trans (hb4.mono B4.size)
            have z5 : w2.heap.size < w4.heap.size := by have := hb4.size; simp [World.setCell] at this; omega
            have v0 := Q5.c0
            have v1 := Q5.c1
            have v2 := Q5.c2
            have v3 := Q5.c3
            have vf := Q5.f
            have y0 := N5.c0
            have y1 := N5.c1
            have y2 := N5.c2
            have y3 := N5.c3
            have y4 := N5.c4
            go_wp2_with fail
            refine (rminus_any (2 * x) b.natAbs _ L0 L1 B.1 B.2).mono ?_
            rw [dm]
            rintro e w5 ⟨rfl, hb5⟩
            have Q6 := Q5.below hb5 z5
            have N6 := N5.below hb5 (by omega)
            have B6 := B5.trans (hb5.mono B5.size)
            have z6 : w2.heap.size < w5.heap.size := by have := hb5.size; omega
            have q60 := Q6.c0
            have q61 := Q6.c1
            have q62 := Q6.c2
            have q63 := Q6.c3
            have q6f := Q6.f
            have n60 := N6.c0
            have n61 := N6.c1
            have n62 := N6.c2
            have n63 := N6.c3
            have n64 := N6.c4
            go_wp2
            go_roundw
            case rel => exact ⟨k + 1, _, 2 * x - b, by omega, by go_num, rfl, NX.out, Q6.all _ _ _ _, N6.far4 ne1 _ _ _ _, by simpa [World.setCell] using z6, below_4 B6 y_w2 _ _ _ _⟩
            case measure => simp [intOf]; omega
        · obtain rfl : k = 32 := by omega
          have E := Lib.hid (kp.done A0.out AB.out)
          clear kp
          go_wp2
          go_ret
          exact ⟨retI E.out, hbr⟩
end Go.Proofs.Ytjilgfgchmdppaa
