/- Contracts of the document's root: Sqrt, Len4, Len3, Len2. -/
import Derived.Test.YtinahmhiopgcnaaGreatBn
import Derived.Test.YtinahmhiopgcnaaGreatBg
import Derived.Test.YtinahmhiopgcnaaGreatBh
import Derived.Test.YtinahmhiopgcnaaGreatBx
import Derived.Test.YtinahmhiopgcnaaGreatBy
import Derived.Deep.RegionWith
import Derived.Deep.DeepCutAuto
import Derived.Test.YtinahmhiopgcnaaGreatBz
namespace Go.Proofs.YtinahmhiopgcnaaGreat
open Go.RowKit

/-- a sum lies in the block n, and whether it fits -/
def SumAt (w : World) (n : Nat) (T : Int) (f : Bool) (t : Value) (W : World) : Prop :=
  t = .bool f ∧ CellO W n (decide (T < 0)) (d0 T.natAbs) (d1 T.natAbs) (d2 T.natAbs) (d3 T.natAbs) ∧ n < W.heap.size ∧ Below w.heap.size w W
theorem cellO_put {w : World} {n : Nat} {b0 : Bool} {x0 x1 x2 x3 : Int} (k : CellO w n b0 x0 x1 x2 x3) (b : Bool) (y0 y1 y2 y3 : Int) :
    CellO (((((w.setCell ⟨n, 0, none⟩ (.bool b)).setCell ⟨n, 1, none⟩ (.int .u64 y0)).setCell ⟨n, 2, none⟩ (.int .u64 y1)).setCell ⟨n, 3, none⟩ (.int .u64 y2)).setCell ⟨n, 4, none⟩ (.int .u64 y3)) n b y0 y1 y2 y3 := by
  have k0 : CellO (w.setCell ⟨n, 0, none⟩ (.bool b)) n b x0 x1 x2 x3 :=
    ⟨World.cell?_setCell_same _ _ _ k.c0, (World.cell?_setCell_other _ _ _ _ (addr_o (by decide))).trans k.c1, (World.cell?_setCell_other _ _ _ _ (addr_o (by decide))).trans k.c2, (World.cell?_setCell_other _ _ _ _ (addr_o (by decide))).trans k.c3, (World.cell?_setCell_other _ _ _ _ (addr_o (by decide))).trans k.c4, fun j => (World.frozen?_setCell _ _ _ _).trans (k.f j)⟩
  exact (((k0.set0 y0).set1 y1).set2 y2).set3 y3
theorem CellO.newR {w : World} {n : Nat} (b : Bool) (x0 x1 x2 x3 : Int) (t : TypeId) (e : n = w.heap.size) : CellO (w.alloc (.cells #[.bool b, .int .u64 x0, .int .u64 x1, .int .u64 x2, .int .u64 x3] t)) n b x0 x1 x2 x3 := by
  subst e
  exact ⟨World.cell?_alloc_new w _ t 0, World.cell?_alloc_new w _ t 1, World.cell?_alloc_new w _ t 2, World.cell?_alloc_new w _ t 3, World.cell?_alloc_new w _ t 4, fun j => by go_simp⟩
theorem CellO.drewR {w : World} {n : Nat} {b : Bool} {x0 x1 x2 x3 : Int} (k : CellO w n b x0 x1 x2 x3) : CellO w.drew n b x0 x1 x2 x3 := ⟨k.c0, k.c1, k.c2, k.c3, k.c4, k.f⟩
theorem fit_yes {n T : Int} (h : clipW n = T ∧ fitW n = true) : T = n ∧ In128 n := by
  have h2 := h.2
  unfold fitW at h2; rw [decide_eq_true_iff] at h2
  exact ⟨by rw [← h.1]; unfold clipW; rw [if_pos h2], h2⟩
theorem fit_no {n T : Int} (h : clipW n = T ∧ fitW n = false) : ¬ In128 n := by
  have h2 := h.2
  unfold fitW at h2; rw [decide_eq_false_iff_not] at h2
  exact h2
theorem far_of {S : Int} (S0 : 0 ≤ S) (h : ¬ In128 S) : 85070591730234615865843651857942052864 ≤ S := by unfold In128 at h; omega

set_option maxHeartbeats 4000000 in
theorem rLen4_any (v x y z : Int) (b k : Nat) (o : Bool) (w : World) (v0 : -9223372036854775808 ≤ v) (v1 : v ≤ 9223372036854775807) (x0 : -9223372036854775808 ≤ x) (x1 : x ≤ 9223372036854775807) (y0 : -9223372036854775808 ≤ y) (y1 : y ≤ 9223372036854775807) (z0 : -9223372036854775808 ≤ z) (z1 : z ≤ 9223372036854775807) (m : MAt w b k o) :
    Calls Tryz.prog 95 #[.pointer (some ⟨b, k, none⟩), .int .i64 v, .int .i64 x, .int .i64 y, .int .i64 z] w fun e w' => e = .returned (.int .i64 (lenF (v * v + x * x + y * y + z * z))) ∧ FxW w.heap.size w b k (o || lenO (v * v + x * x + y * y + z * z)) w' := by
  have IV := Lib.hid (mul_128 v0 v1 v0 v1)
  have IX := Lib.hid (mul_128 x0 x1 x0 x1)
  have IY := Lib.hid (mul_128 y0 y1 y0 y1)
  have IZ := Lib.hid (mul_128 z0 z1 z0 z1)
  have NV := Lib.hid (sq_nn v)
  have NX := Lib.hid (sq_nn x)
  have NY := Lib.hid (sq_nn y)
  have NZ := Lib.hid (sq_nn z)
  have HM := Lib.hid m
  have M0 := m.lt
  obtain ⟨S, hS⟩ : ∃ S, v * v + x * x + y * y + z * z = S := ⟨_, rfl⟩
  rw [hS]
  have HS := Lib.hid hS
  obtain ⟨T1, hT1⟩ : ∃ T1, clipW (v * v + x * x) = T1 := ⟨_, rfl⟩
  obtain ⟨f1, hf1⟩ : ∃ f1, fitW (v * v + x * x) = f1 := ⟨_, rfl⟩
  have HT1 := Lib.hid (And.intro hT1 hf1)
  clear m hS hT1 hf1
  cases f1 with
  | false =>
    have L := Lib.hid (len_far (far_of (S := S) (by have := HS.out; have := NV.out; have := NX.out; have := NY.out; have := NZ.out; omega) (by have := fit_no HT1.out; have := HS.out; have := NV.out; have := NX.out; have := NY.out; have := NZ.out; unfold In128 at *; omega))).2
    go_enter Tryz.func95, Tryz.ntmps95
    go_wp2_with fail
    refine (rMul_any v v _ v0 v1 v0 v1).mono ?_
    rintro e w1 ⟨rfl, hb1⟩
    have z_w1 := hb1.size
    try simp at z_w1
    have y_w1 : w.heap.size ≤ w1.heap.size := by omega
    go_wp2_with fail
    refine (rMul_any x x _ x0 x1 x0 x1).mono ?_
    rintro e w2 ⟨rfl, hb2⟩
    have z_w2 := hb2.size
    try simp at z_w2
    have y_w2 : w.heap.size ≤ w2.heap.size := by omega
    go_wp2_with fail
    refine (rAdd_any (v * v) (x * x) _ IV.out IX.out).mono ?_
    rw [HT1.out.1, HT1.out.2]
    rintro e w3 ⟨rfl, hb3⟩
    have z_w3 := hb3.size
    try simp at z_w3
    have y_w3 : w.heap.size ≤ w3.heap.size := by omega
    have B3 : Below w.heap.size w w3 := by repeat (first | exact Below.refl _ _ | assumption | refine Below.setCell ?_ (by first | omega | (simp; done) | (simp; omega)) _ | refine Below.alloc ?_ (by first | omega | (simp; done) | (simp; omega)) _ | refine below_drewN ?_ _ | refine Below.drew ?_ | refine Below.trans ?_ (Below.mono (by assumption) (by first | omega | (simp; done) | (simp; omega))))
    have C4 : CellO (w3.alloc (.cells #[.bool (decide (T1 < 0)), .int .u64 (d0 T1.natAbs), .int .u64 (d1 T1.natAbs), .int .u64 (d2 T1.natAbs), .int .u64 (d3 T1.natAbs)] 157)) w3.heap.size (decide (T1 < 0)) (d0 T1.natAbs) (d1 T1.natAbs) (d2 T1.natAbs) (d3 T1.natAbs) := CellO.newR _ _ _ _ _ _ rfl
    have B4 := B3.alloc y_w3 (.cells #[.bool (decide (T1 < 0)), .int .u64 (d0 T1.natAbs), .int .u64 (d1 T1.natAbs), .int .u64 (d2 T1.natAbs), .int .u64 (d3 T1.natAbs)] 157)
    have z4 : w3.heap.size < (w3.alloc (.cells #[.bool (decide (T1 < 0)), .int .u64 (d0 T1.natAbs), .int .u64 (d1 T1.natAbs), .int .u64 (d2 T1.natAbs), .int .u64 (d3 T1.natAbs)] 157)).heap.size := by simp
    have yn := y_w3
    clear B3 hb1 hb2 hb3 z_w1 z_w2 z_w3 y_w1 y_w2 y_w3
    clear C4
    have M9 := HM.out.below B4 M0
    have mc := M9.c
    have mf := M9.f
    have BF := Lib.hid B4
    clear M9 B4
    go_wp2
    go_ret
    exact ⟨retI L.out.1.symm, by rw [L.out.2, Bool.or_true]; exact FxW.behind BF.out FxW.put' BF.out.size⟩
  | true =>
    have F1 := Lib.hid (fit_yes HT1.out)
    have IT1 := Lib.hid (show In128 T1 by rw [F1.out.1]; exact F1.out.2)
    obtain ⟨T2, hT2⟩ : ∃ T2, clipW (T1 + y * y) = T2 := ⟨_, rfl⟩
    obtain ⟨f2, hf2⟩ : ∃ f2, fitW (T1 + y * y) = f2 := ⟨_, rfl⟩
    have HT2 := Lib.hid (And.intro hT2 hf2)
    clear hT2 hf2
    go_enter Tryz.func95, Tryz.ntmps95
    go_wp2_with fail
    refine (rMul_any v v _ v0 v1 v0 v1).mono ?_
    rintro e w1 ⟨rfl, hb1⟩
    have z_w1 := hb1.size
    try simp at z_w1
    have y_w1 : w.heap.size ≤ w1.heap.size := by omega
    go_wp2_with fail
    refine (rMul_any x x _ x0 x1 x0 x1).mono ?_
    rintro e w2 ⟨rfl, hb2⟩
    have z_w2 := hb2.size
    try simp at z_w2
    have y_w2 : w.heap.size ≤ w2.heap.size := by omega
    go_wp2_with fail
    refine (rAdd_any (v * v) (x * x) _ IV.out IX.out).mono ?_
    rw [HT1.out.1, HT1.out.2]
    rintro e w3 ⟨rfl, hb3⟩
    have z_w3 := hb3.size
    try simp at z_w3
    have y_w3 : w.heap.size ≤ w3.heap.size := by omega
    have B3 : Below w.heap.size w w3 := by repeat (first | exact Below.refl _ _ | assumption | refine Below.setCell ?_ (by first | omega | (simp; done) | (simp; omega)) _ | refine Below.alloc ?_ (by first | omega | (simp; done) | (simp; omega)) _ | refine below_drewN ?_ _ | refine Below.drew ?_ | refine Below.trans ?_ (Below.mono (by assumption) (by first | omega | (simp; done) | (simp; omega))))
    have C4 : CellO (w3.alloc (.cells #[.bool (decide (T1 < 0)), .int .u64 (d0 T1.natAbs), .int .u64 (d1 T1.natAbs), .int .u64 (d2 T1.natAbs), .int .u64 (d3 T1.natAbs)] 157)) w3.heap.size (decide (T1 < 0)) (d0 T1.natAbs) (d1 T1.natAbs) (d2 T1.natAbs) (d3 T1.natAbs) := CellO.newR _ _ _ _ _ _ rfl
    have B4 := B3.alloc y_w3 (.cells #[.bool (decide (T1 < 0)), .int .u64 (d0 T1.natAbs), .int .u64 (d1 T1.natAbs), .int .u64 (d2 T1.natAbs), .int .u64 (d3 T1.natAbs)] 157)
    have z4 : w3.heap.size < (w3.alloc (.cells #[.bool (decide (T1 < 0)), .int .u64 (d0 T1.natAbs), .int .u64 (d1 T1.natAbs), .int .u64 (d2 T1.natAbs), .int .u64 (d3 T1.natAbs)] 157)).heap.size := by simp
    have yn := y_w3
    clear B3 hb1 hb2 hb3 z_w1 z_w2 z_w3 y_w1 y_w2 y_w3
    go_wp2_with fail
    generalize w3.alloc (.cells #[.bool (decide (T1 < 0)), .int .u64 (d0 T1.natAbs), .int .u64 (d1 T1.natAbs), .int .u64 (d2 T1.natAbs), .int .u64 (d3 T1.natAbs)] 157) = W4 at *
    generalize w3.heap.size = n at *
    have HC := Lib.hid C4
    have HB := Lib.hid B4
    have c0 := HC.out.c0
    have c1 := HC.out.c1
    have c2 := HC.out.c2
    have c3 := HC.out.c3
    have c4 := HC.out.c4
    have cf := HC.out.f
    have zn : n < W4.drew.heap.size := z4
    clear C4 B4
    go_cut [12] (fun t W => SumAt w n T2 f2 t W)
    case first =>
      go_region_with (first
        | (go_at_call 106; refine (rMul_any y y _ y0 y1 y0 y1).mono ?_; rintro e w5 ⟨rfl, hb5⟩; have C5 := HC.out.drewR.below hb5 zn; have z5 : n < w5.heap.size := (by have := hb5.size; omega); have B5 := Lib.hid (HB.out.drew.trans (hb5.mono (by have := HB.out.size; first | omega | exact this))); have e0 := C5.c0; have e1 := C5.c1; have e2 := C5.c2; have e3 := C5.c3; have e4 := C5.c4; have ef := C5.f; have HC5 := Lib.hid C5; clear C5 hb5)
        | (go_at_call 105; refine (rAdd_any T1 (y * y) _ IT1.out IY.out).mono ?_; rw [HT2.out.1, HT2.out.2]; rintro e w6 ⟨rfl, hb6⟩; have C6 := HC5.out.below hb6 z5; have z6 : n < w6.heap.size := (by have := hb6.size; omega); have B6 := Lib.hid (B5.out.trans (hb6.mono B5.out.size)); have g0 := C6.c0; have g1 := C6.c1; have g2 := C6.c2; have g3 := C6.c3; have g4 := C6.c4; have gf := C6.f; have HC6 := Lib.hid C6; clear C6 hb6))
      all_goals
        go_wp2_with fail
        go_meet
        exact ⟨rfl, cellO_put HC6.out _ _ _ _ _, by simp [World.setCell]; omega, by have := B6.out; repeat (first | with_reducible refine Below.setCell ?_ (by first | omega | (simp; done) | (simp; omega)) _ | with_reducible refine Below.alloc ?_ (by first | omega | (simp; done) | (simp; omega)) _ | with_reducible refine below_drewN ?_ _ | with_reducible refine Below.drew ?_ | with_reducible exact Below.refl _ _ | with_reducible assumption | with_reducible refine Below.trans ?_ (Below.mono (by assumption) (by first | omega | (simp; done) | (simp; omega))))⟩
    case rest =>
      obtain ⟨rfl, C7, z7, B7⟩ := hcut
      clear HC HB c0 c1 c2 c3 c4 cf zn z4
      generalize wc = W7 at *
      cases f2 with
      | false =>
        have L := Lib.hid (len_far (far_of (S := S) (by have := HS.out; have := NV.out; have := NX.out; have := NY.out; have := NZ.out; omega) (by have := fit_no HT2.out; have := F1.out.1; have := HS.out; have := NV.out; have := NX.out; have := NY.out; have := NZ.out; unfold In128 at *; omega))).2
        clear C7
        have M9 := HM.out.below B7 M0
        have mc := M9.c
        have mf := M9.f
        have BF := Lib.hid B7
        clear M9 B7
        go_wp2
        go_ret
        exact ⟨retI L.out.1.symm, by rw [L.out.2, Bool.or_true]; exact FxW.behind BF.out FxW.put' BF.out.size⟩
      | true =>
        have F2 := Lib.hid (fit_yes HT2.out)
        have IT2 := Lib.hid (show In128 T2 by rw [F2.out.1]; exact F2.out.2)
        obtain ⟨T3, hT3⟩ : ∃ T3, clipW (T2 + z * z) = T3 := ⟨_, rfl⟩
        obtain ⟨f3, hf3⟩ : ∃ f3, fitW (T2 + z * z) = f3 := ⟨_, rfl⟩
        have HT3 := Lib.hid (And.intro hT3 hf3)
        clear hT3 hf3
        go_wp2_with fail
        have HC := Lib.hid C7
        have HB := Lib.hid B7
        have c0 := HC.out.c0
        have c1 := HC.out.c1
        have c2 := HC.out.c2
        have c3 := HC.out.c3
        have c4 := HC.out.c4
        have cf := HC.out.f
        have zn : n < W7.drew.heap.size := z7
        clear C7 B7
        go_cut [12] (fun t W => SumAt w n T3 f3 t W)
        case first =>
          go_region_with (first
            | (go_at_call 106; refine (rMul_any z z _ z0 z1 z0 z1).mono ?_; rintro e w5 ⟨rfl, hb5⟩; have C5 := HC.out.drewR.below hb5 zn; have z5 : n < w5.heap.size := (by have := hb5.size; omega); have B5 := Lib.hid (HB.out.drew.trans (hb5.mono (by have := HB.out.size; first | omega | exact this))); have e0 := C5.c0; have e1 := C5.c1; have e2 := C5.c2; have e3 := C5.c3; have e4 := C5.c4; have ef := C5.f; have HC5 := Lib.hid C5; clear C5 hb5)
            | (go_at_call 105; refine (rAdd_any T2 (z * z) _ IT2.out IZ.out).mono ?_; rw [HT3.out.1, HT3.out.2]; rintro e w6 ⟨rfl, hb6⟩; have C6 := HC5.out.below hb6 z5; have z6 : n < w6.heap.size := (by have := hb6.size; omega); have B6 := Lib.hid (B5.out.trans (hb6.mono B5.out.size)); have g0 := C6.c0; have g1 := C6.c1; have g2 := C6.c2; have g3 := C6.c3; have g4 := C6.c4; have gf := C6.f; have HC6 := Lib.hid C6; clear C6 hb6))
          all_goals
            go_wp2_with fail
            go_meet
            exact ⟨rfl, cellO_put HC6.out _ _ _ _ _, by simp [World.setCell]; omega, by have := B6.out; repeat (first | with_reducible refine Below.setCell ?_ (by first | omega | (simp; done) | (simp; omega)) _ | with_reducible refine Below.alloc ?_ (by first | omega | (simp; done) | (simp; omega)) _ | with_reducible refine below_drewN ?_ _ | with_reducible refine Below.drew ?_ | with_reducible exact Below.refl _ _ | with_reducible assumption | with_reducible refine Below.trans ?_ (Below.mono (by assumption) (by first | omega | (simp; done) | (simp; omega))))⟩
        case rest =>
          obtain ⟨rfl, C8, z8, B8⟩ := hcut
          clear HC HB c0 c1 c2 c3 c4 cf zn z7
          generalize wc = W8 at *
          cases f3 with
          | false =>
            have L := Lib.hid (len_far (far_of (S := S) (by have := HS.out; have := NV.out; have := NX.out; have := NY.out; have := NZ.out; omega) (by have := fit_no HT3.out; have := F1.out.1; have := F2.out.1; have := HS.out; unfold In128 at *; omega))).2
            clear C8
            have M9 := HM.out.below B8 M0
            have mc := M9.c
            have mf := M9.f
            have BF := Lib.hid B8
            clear M9 B8
            go_wp2
            go_ret
            exact ⟨retI L.out.1.symm, by rw [L.out.2, Bool.or_true]; exact FxW.behind BF.out FxW.put' BF.out.size⟩
          | true =>
            have F3 := fit_yes HT3.out
            have E3 : T3 = S := by have := F1.out.1; have := F2.out.1; have := F3.1; have := HS.out; omega
            have I3 : In128 S := by rw [← E3, F3.1]; exact F3.2
            subst E3
            have R := rootI_64 I3
            have r0 := R.1
            have r1 := R.2
            have I := Lib.hid I3
            clear R F3 I3
            have c0 := C8.c0
            have c1 := C8.c1
            have c2 := C8.c2
            have c3 := C8.c3
            have c4 := C8.c4
            have cf := C8.f
            have HB8 := Lib.hid B8
            clear C8 B8
            go_wp2_with fail
            refine (rRoot_any T3 _ I.out).mono ?_
            rintro e w9 ⟨rfl, hb9⟩
            have B9 := HB8.out.trans (hb9.mono HB8.out.size)
            clear hb9 c0 c1 c2 c3 c4 cf
            by_cases p : T3 < 85070591730234615865843651857942052864
            · have L := len_fit p
              have r2 := L.1
              have E := Lib.hid L.2
              have HB9 := Lib.hid B9
              clear L p B9
              go_wp2
              go_ret
              exact ⟨retI E.out.1.symm, by rw [E.out.2, Bool.or_false]; exact (FxW.refl HM.out).then (C := w.heap.size) HB9.out (Nat.le_refl _)⟩
            · have L0 := len_far (show 85070591730234615865843651857942052864 ≤ T3 by omega)
              have r2 := L0.1
              have L := Lib.hid L0.2
              clear L0 p
              have M9 := HM.out.below B9 M0
              have mc := M9.c
              have mf := M9.f
              have BF := Lib.hid B9
              clear M9 B9
              go_wp2
              go_ret
              exact ⟨retI L.out.1.symm, by rw [L.out.2, Bool.or_true]; exact FxW.behind BF.out FxW.put' BF.out.size⟩
theorem rLen3_any (x y z : Int) (b k : Nat) (o : Bool) (w : World) (x0 : -9223372036854775808 ≤ x) (x1 : x ≤ 9223372036854775807) (y0 : -9223372036854775808 ≤ y) (y1 : y ≤ 9223372036854775807) (z0 : -9223372036854775808 ≤ z) (z1 : z ≤ 9223372036854775807) (m : MAt w b k o) :
    Calls Tryz.prog 88 #[.pointer (some ⟨b, k, none⟩), .int .i64 x, .int .i64 y, .int .i64 z] w fun e w' => e = .returned (.int .i64 (lenF (x * x + y * y + z * z))) ∧ FxW w.heap.size w b k (o || lenO (x * x + y * y + z * z)) w' := by
  have E := Lib.hid (show 0 * 0 + x * x + y * y + z * z = x * x + y * y + z * z by omega)
  go_enter Tryz.func88, Tryz.ntmps88
  go_wp2_with fail
  refine (rLen4_any 0 x y z b k o _ (by omega) (by omega) x0 x1 y0 y1 z0 z1 m).mono ?_
  rw [E.out]
  rintro e w1 ⟨rfl, h⟩
  go_wp2
  go_ret
  exact ⟨rfl, h⟩
end Go.Proofs.YtinahmhiopgcnaaGreat
namespace Go.Proofs.YtinahmhiopgcnaaGreat
open Go.RowKit

theorem div_none {n : Int} (h : n ≠ 0) : divF 0 n = 0 ∧ divO 0 n = false := by
  have e : rq 0 n = 0 := by
    have : rndN 0 (n.natAbs : Int) = 0 := by
      have h1 : (0 : Int) / (n.natAbs : Int) = 0 := Int.zero_ediv _
      have h2 : (0 : Int) % (n.natAbs : Int) = 0 := Int.zero_emod _
      unfold rndN; rw [h1, h2]; split <;> omega
    unfold rq
    rw [show ((0 : Int).natAbs : Int) = 0 from rfl, this]; split <;> rfl
  unfold divF divO quoF quoO
  rw [Int.zero_mul, if_neg h, if_neg h, e]
  decide
theorem rUnit3_any (x y z n : Int) (b k : Nat) (o : Bool) (w : World) (hn : lenF (x * x + y * y + z * z) = n) (x0 : -9223372036854775808 ≤ x) (x1 : x ≤ 9223372036854775807) (y0 : -9223372036854775808 ≤ y) (y1 : y ≤ 9223372036854775807) (z0 : -9223372036854775808 ≤ z) (z1 : z ≤ 9223372036854775807) (m : MAt w b k o) :
    Calls Tryz.prog 77 #[.pointer (some ⟨b, k, none⟩), .int .i64 x, .int .i64 y, .int .i64 z] w fun e w' => e = .returned (if n = 0 then .tuple #[.int .i64 0, .int .i64 0, .int .i64 0, .bool false] else .tuple #[.int .i64 (divF x n), .int .i64 (divF y n), .int .i64 (divF z n), .bool true]) ∧ FxW w.heap.size w b k (if n = 0 then o || lenO (x * x + y * y + z * z) else o || lenO (x * x + y * y + z * z) || divO x n || divO y n || divO z n) w' := by
  have N := Lib.hid (lenF_in (x * x + y * y + z * z))
  have E := Lib.hid hn
  have HM := Lib.hid m
  have M0 := m.lt
  clear m hn
  by_cases c : n = 0
  · rw [if_pos c, if_pos c]
    go_enter Tryz.func77, Tryz.ntmps77
    go_wp2_with fail
    refine (rLen3_any x y z b k o _ x0 x1 y0 y1 z0 z1 HM.out).mono ?_
    rw [E.out]
    rintro e w1 ⟨rfl, h1⟩
    subst c
    go_wp2
    exact bodyPost_ret (v := .tuple #[.int .i64 0, .int .i64 0, .int .i64 0, .bool false]) (by simp [results, Tryz.results77, go_sem]) rfl ⟨rfl, h1⟩
  · rw [if_neg c, if_neg c]
    have t : (n == 0) = false := by simp; exact c
    go_enter Tryz.func77, Tryz.ntmps77
    go_wp2_with fail
    refine (rLen3_any x y z b k o _ x0 x1 y0 y1 z0 z1 HM.out).mono ?_
    rw [E.out]
    rintro e w1 ⟨rfl, h1⟩
    have H1 := Lib.hid h1
    have M1 := Lib.hid (h1.at HM.out M0)
    clear h1
    go_wp2_with fail
    refine (rfDiv_any x n b k _ _ x0 x1 (by have := N.out; rw [E.out] at this; omega) (by have := N.out; rw [E.out] at this; omega) M1.out).mono ?_
    rintro e w2 ⟨rfl, h2⟩
    have H2 := Lib.hid (H1.out.trans (h2.mono H1.out.size))
    have M2 := Lib.hid (h2.at M1.out M1.out.lt)
    clear h2
    go_wp2_with fail
    refine (rfDiv_any y n b k _ _ y0 y1 (by have := N.out; rw [E.out] at this; omega) (by have := N.out; rw [E.out] at this; omega) M2.out).mono ?_
    rintro e w3 ⟨rfl, h3⟩
    have H3 := Lib.hid (H2.out.trans (h3.mono H2.out.size))
    have M3 := Lib.hid (h3.at M2.out M2.out.lt)
    clear h3
    go_wp2_with fail
    refine (rfDiv_any z n b k _ _ z0 z1 (by have := N.out; rw [E.out] at this; omega) (by have := N.out; rw [E.out] at this; omega) M3.out).mono ?_
    rintro e w4 ⟨rfl, h4⟩
    go_wp2
    exact bodyPost_ret (v := .tuple #[.int .i64 (divF x n), .int .i64 (divF y n), .int .i64 (divF z n), .bool true]) (by simp [results, Tryz.results77, go_sem]) rfl ⟨rfl, H3.out.trans (h4.mono H3.out.size)⟩
end Go.Proofs.YtinahmhiopgcnaaGreat
