/- The contract of the document's Add, apart signs, the first size greater. -/
import Derived.Test.YtmdcfnifbkpedaaFj
import Derived.Deep.RegionWith
namespace Go.Proofs.Ytmdcfnifbkpedaa
open Go.RowKit

set_option maxHeartbeats 4000000 in
set_option maxRecDepth 100000 in
theorem rAdd_more (a b : Int) (w : World) (ha : In128 a) (hb : In128 b) (s : (decide (a < 0) == decide (b < 0)) = false) (lt : (b.natAbs : Int) < a.natAbs) :
    Calls Try.prog 45 #[.agg #[.bool (decide (a < 0)), .int .u64 (d0 (a.natAbs)), .int .u64 (d1 (a.natAbs)), .int .u64 (d2 (a.natAbs)), .int .u64 (d3 (a.natAbs))], .agg #[.bool (decide (b < 0)), .int .u64 (d0 (b.natAbs)), .int .u64 (d1 (b.natAbs)), .int .u64 (d2 (b.natAbs)), .int .u64 (d3 (b.natAbs))]] w fun e w' => e = .returned (.tuple #[.agg #[.bool (decide (clipW (a + b) < 0)), .int .u64 (d0 ((clipW (a + b)).natAbs)), .int .u64 (d1 ((clipW (a + b)).natAbs)), .int .u64 (d2 ((clipW (a + b)).natAbs)), .int .u64 (d3 ((clipW (a + b)).natAbs))], .bool (fitW (a + b))]) ∧ Below w.heap.size w w' := by
  have A := abs128 ha
  have B := abs128 hb
  have tl : decide ((a.natAbs : Int) < b.natAbs) = false := by rw [decide_eq_false_iff_not]; omega
  have pm : ((a.natAbs : Int) - b.natAbs) % 340282366920938463463374607431768211456 = (a.natAbs : Int) - b.natAbs := by omega
  obtain ⟨m, hm⟩ : ∃ m : Int, (a.natAbs : Int) - b.natAbs = m := ⟨_, rfl⟩
  rw [hm] at pm
  have SG := Lib.hid (show sgnW (decide (a < 0)) m = a + b by unfold sgnW; by_cases p : a < 0 <;> by_cases q : b < 0 <;> simp [p, q] at s ⊢ <;> omega)
  have M0 := Lib.hid (show 0 ≤ m by omega)
  have M1 := Lib.hid (show m < 340282366920938463463374607431768211456 by omega)
  have ZZ := Lib.hid (show decide (m = 0) = false by rw [decide_eq_false_iff_not]; omega)
  have FT := Lib.hid (show In128 (a + b) by unfold In128 at ha hb ⊢; by_cases p : a < 0 <;> by_cases q : b < 0 <;> simp [p, q] at s <;> omega)
  have ft : fitW (a + b) = true := (clip_of FT.out).2
  have NV := Lib.hid (add_form SG.out M0.out (by omega))
  have PM := Lib.hid pm
  have HM := Lib.hid hm
  have HA := Lib.hid A
  have HB := Lib.hid B
  clear pm hm A B lt
  go_enter Try.func45, Try.ntmps45
  go_wp2_with fail
  refine (less_any _ _ _ HA.out.1 HA.out.2 HB.out.1 HB.out.2).mono ?_
  rw [tl]
  rintro e w1 ⟨rfl, hb1⟩
  obtain ⟨hc_w1, hf_w1⟩ := bcell hb1
  have z_w1 := hb1.size
  try simp at z_w1
  have z0_w1 : w.heap.size < w1.heap.size := by omega
  have z1_w1 : w.heap.size + 1 < w1.heap.size := by omega
  have z2_w1 : w.heap.size + 1 + 1 < w1.heap.size := by omega
  have z3_w1 : w.heap.size + 1 + 1 + 1 < w1.heap.size := by omega
  have y_w1 : w.heap.size ≤ w1.heap.size := by omega
  have HB1 : Hid (Below w.heap.size w w1) := Lib.hid (show Below w.heap.size w w1 by repeat (first | with_reducible refine Below.setCell ?_ (by first | omega | (simp; done) | (simp; omega)) _ | with_reducible refine Below.alloc ?_ (by first | omega | (simp; done) | (simp; omega)) _ | with_reducible refine below_drewN ?_ _ | with_reducible refine Below.drew ?_ | with_reducible exact Below.refl _ _ | with_reducible assumption | with_reducible refine Below.trans ?_ (Below.mono (by assumption) (by first | omega | (simp; done) | (simp; omega)))))
  have y1 : w.heap.size ≤ w1.drew.heap.size := y_w1
  have O1 : CellO w1.drew (w.heap.size + 1 + 1 + 1) false 0 0 0 0 := ⟨by go_simp, by go_simp, by go_simp, by go_simp, by go_simp, fun j => by go_simp⟩
  have N1 : CellN w1.drew w.heap.size (decide (a < 0)) a.natAbs := ⟨by go_simp, by go_simp, by go_simp, by go_simp, by go_simp⟩
  have R1 : CellO w1.drew (w.heap.size + 1 + 1) false 0 0 0 0 := ⟨by go_simp, by go_simp, by go_simp, by go_simp, by go_simp, fun j => by go_simp⟩
  go_wp2
  go_region_with (first | (go_at_call 55; refine (rminus_any _ _ _ HA.out.1 HA.out.2 HB.out.1 HB.out.2).mono ?_; rw [HM.out, PM.out]; rintro e w2 ⟨rfl, hb2⟩; have O2 := O1.below hb2 z3_w1; have N2 := N1.below hb2 z0_w1; have k0 := O2.c0; have k1 := O2.c1; have k2 := O2.c2; have k3 := O2.c3; have k4 := O2.c4; have kf := O2.f; have HB2 := Lib.hid ((HB1.out.drew).trans (hb2.mono y1)); have k5 := N2.c0; have R2 := R1.below hb2 z2_w1; obtain ⟨hc_w2, hf_w2⟩ := bcell hb2; have z3_w2 : w.heap.size + 1 + 1 + 1 < w2.heap.size := (by have := hb2.size; simp at this; omega); have z2_w2 : w.heap.size + 1 + 1 < w2.heap.size := (by omega); have z1_w2 : w.heap.size + 1 < w2.heap.size := (by omega); have z0_w2 : w.heap.size < w2.heap.size := (by omega)))
  all_goals
    go_wp2_with fail
    refine (Zero_any _ _ _ M0.out M1.out).mono ?_
    rw [ZZ.out]
    rintro e w3 ⟨rfl, hb3⟩
    obtain ⟨hc_w3, hf_w3⟩ := bcell hb3
    have z3_w3 : w.heap.size + 1 + 1 + 1 < w3.heap.size := by have := hb3.size; simp at this; omega
    have z2_w3 : w.heap.size + 1 + 1 < w3.heap.size := by omega
    go_wp2_with fail
    refine (Words_any _ _ _ M0.out M1.out).mono ?_
    rw [SG.out]
    rintro e w4 ⟨rfl, hb4⟩
    obtain ⟨hc_w4, hf_w4⟩ := bcell hb4
    have z3_w4 : w.heap.size + 1 + 1 + 1 < w4.heap.size := by have := hb4.size; omega
    have z2_w4 : w.heap.size + 1 + 1 < w4.heap.size := by omega
    have r0 := R2.c0
    have r1 := R2.c1
    have r2 := R2.c2
    have r3 := R2.c3
    have r4 := R2.c4
    have rf := R2.f
    go_wp2
    refine bodyPost_ret (v := .tuple #[.agg #[.bool (decide (a < 0)), .int .u64 (d0 m), .int .u64 (d1 m), .int .u64 (d2 m), .int .u64 (d3 m)], .bool true]) ?_ rfl ?_
    · simp [results, Try.results45, go_sem, hc_w4, hc_w3, r0, r1, r2, r3, r4, z2_w3, z2_w2]
    · refine ⟨by rw [(clip_of FT.out).1, NV.out.1, NV.out.2]; first | rfl | rw [ft], ?_⟩
      repeat (with_reducible refine Below.setCell ?_ (by first | exact Nat.le_refl _ | (show w.heap.size ≤ w.heap.size + 1 + 1; omega)) _)
      refine Below.trans ?_ (hb4.mono (by omega))
      refine Below.trans ?_ (hb3.mono (by simp [World.setCell]; omega))
      repeat (with_reducible refine Below.setCell ?_ (by first | exact Nat.le_refl _ | (show w.heap.size ≤ w.heap.size + 1 + 1 + 1; omega)) _)
      exact HB2.out
end Go.Proofs.Ytmdcfnifbkpedaa
