/- The contract of the document's Add, same signs, at the edges. -/
import Derived.Test.YtmdcfnifbkpedaaFh
namespace Go.Proofs.Ytmdcfnifbkpedaa
open Go.RowKit

set_option maxHeartbeats 4000000 in
set_option maxRecDepth 100000 in
theorem rAdd_same0 (a b : Int) (w : World) (ha : In128 a) (hb : In128 b) (nz : a = 0) (nb : b = 0) :
    Calls Try.prog 45 #[.agg #[.bool (decide (a < 0)), .int .u64 (d0 (a.natAbs)), .int .u64 (d1 (a.natAbs)), .int .u64 (d2 (a.natAbs)), .int .u64 (d3 (a.natAbs))], .agg #[.bool (decide (b < 0)), .int .u64 (d0 (b.natAbs)), .int .u64 (d1 (b.natAbs)), .int .u64 (d2 (b.natAbs)), .int .u64 (d3 (b.natAbs))]] w fun e w' => e = .returned (.tuple #[.agg #[.bool (decide (clipW (a + b) < 0)), .int .u64 (d0 ((clipW (a + b)).natAbs)), .int .u64 (d1 ((clipW (a + b)).natAbs)), .int .u64 (d2 ((clipW (a + b)).natAbs)), .int .u64 (d3 ((clipW (a + b)).natAbs))], .bool (fitW (a + b))]) ∧ Below w.heap.size w w' := by
  have A := abs128 ha
  have B := abs128 hb
  obtain ⟨m, hm⟩ : ∃ m : Int, (0 : Int) = m := ⟨_, rfl⟩
  have PM := Lib.hid (show ((a.natAbs : Int) + b.natAbs) % 340282366920938463463374607431768211456 = m by omega)
  have PD := Lib.hid (show ((a.natAbs : Int) + b.natAbs) / 340282366920938463463374607431768211456 = 0 by omega)
  have ZZ := Lib.hid (show decide (m = 0) = true by rw [decide_eq_true_iff]; omega)
  have HA := Lib.hid A
  have HB := Lib.hid B
  have SG := Lib.hid (show sgnW false m = 0 by unfold sgnW; simp; omega)
  have HS := Lib.hid (show decide (a + b < 0) = false ∧ ((a + b).natAbs : Int) = m ∧ clipW (a + b) = a + b ∧ fitW (a + b) = true by (have e : a + b = 0 := by omega); rw [e]; exact ⟨by decide, by omega, (clip_of (n := 0) (by unfold In128; omega)).1, by decide +kernel⟩)
  have m0 : 0 ≤ m := by omega
  have m1 : m ≤ 0 := by omega
  have ft : fitW 0 = true := by decide +kernel
  have sa : decide (a < 0) = false := by rw [decide_eq_false_iff_not]; omega
  have sb : decide (b < 0) = false := by rw [decide_eq_false_iff_not]; omega
  clear hm A B nz nb
  go_enter Try.func45, Try.ntmps45
  go_wp2_with fail
  refine (rplus_any _ _ _ HA.out.1 HA.out.2 HB.out.1 HB.out.2).mono ?_
  rw [PM.out, PD.out]
  rintro e w1 ⟨rfl, hb1⟩
  obtain ⟨hc_w1, hf_w1⟩ := bcell hb1
  have z_w1 := hb1.size
  try simp at z_w1
  have z0_w1 : w.heap.size < w1.heap.size := by omega
  have z1_w1 : w.heap.size + 1 < w1.heap.size := by omega
  have z2_w1 : w.heap.size + 1 + 1 < w1.heap.size := by omega
  have z3_w1 : w.heap.size + 1 + 1 + 1 < w1.heap.size := by omega
  have y_w1 : w.heap.size ≤ w1.heap.size := by omega
  have R1 : Some5 w1 (w.heap.size + 1 + 1) := by
    have := Some5.new ((w.alloc (.cells #[.bool false, .int .u64 (d0 a.natAbs), .int .u64 (d1 a.natAbs), .int .u64 (d2 a.natAbs), .int .u64 (d3 a.natAbs)] 30)).alloc (.cells #[.bool false, .int .u64 (d0 b.natAbs), .int .u64 (d1 b.natAbs), .int .u64 (d2 b.natAbs), .int .u64 (d3 b.natAbs)] 30)) (.bool false) (.int .u64 0) (.int .u64 0) (.int .u64 0) (.int .u64 0) 30
    simp only [World.size_alloc] at this
    exact (this.alloc (by simp) _).below hb1 (by simp)
  go_wp2_with fail
  refine (Zero_any _ _ _ (by omega) (by omega)).mono ?_
  rw [ZZ.out]
  rintro e w2 ⟨rfl, hb2⟩
  obtain ⟨hc_w2, hf_w2⟩ := bcell hb2
  have z_w2 := hb2.size
  try simp at z_w2
  have z0_w2 : w.heap.size < w2.heap.size := by omega
  have z1_w2 : w.heap.size + 1 < w2.heap.size := by omega
  have z2_w2 : w.heap.size + 1 + 1 < w2.heap.size := by omega
  have z3_w2 : w.heap.size + 1 + 1 + 1 < w2.heap.size := by omega
  have y_w2 : w.heap.size ≤ w2.heap.size := by omega
  have oo : w2.cell? ⟨w.heap.size + 1 + 1 + 1, 0, none⟩ = some (.bool (false)) := by go_simp
  have of : w2.frozen? ⟨w.heap.size + 1 + 1 + 1, 0, none⟩ = false := by go_simp
  have o2 : (w2.setCell ⟨w.heap.size + 1 + 1 + 1, 0, none⟩ (.bool false)).cell? ⟨w.heap.size + 1 + 1 + 1, 0, none⟩ = some (.bool false) := World.cell?_setCell_same _ _ _ oo
  go_wp2_with fail
  refine (Words_any _ _ _ (by omega) (by omega)).mono ?_
  rw [SG.out]
  rintro e w3 ⟨rfl, hb3⟩
  obtain ⟨hc_w3, hf_w3⟩ := bcell hb3
  have z_w3 := hb3.size
  try simp at z_w3
  have z0_w3 : w.heap.size < w3.heap.size := by omega
  have z1_w3 : w.heap.size + 1 < w3.heap.size := by omega
  have z2_w3 : w.heap.size + 1 + 1 < w3.heap.size := by omega
  have z3_w3 : w.heap.size + 1 + 1 + 1 < w3.heap.size := by omega
  have y_w3 : w.heap.size ≤ w3.heap.size := by omega
  have R3 : Some5 w3 (w.heap.size + 1 + 1) := by
    refine Some5.below ?_ hb3 (by simp [World.setCell]; omega)
    repeat (refine Some5.set ?_ _ _)
    refine Some5.below ?_ hb2 (by simp; omega)
    refine Some5.alloc ?_ (by simp [World.setCell]; omega) _
    repeat (refine Some5.set ?_ _ _)
    exact R1
  obtain ⟨⟨v0, t0⟩, ⟨v1, t1⟩, ⟨v2, t2⟩, ⟨v3, t3⟩, ⟨v4, t4⟩⟩ := R3
  go_wp2
  refine bodyPost_ret (v := .tuple #[.agg #[.bool false, .int .u64 (d0 m), .int .u64 (d1 m), .int .u64 (d2 m), .int .u64 (d3 m)], .bool true]) (by simp [results, Try.results45, go_sem, t0, t1, t2, t3, t4]) rfl ⟨by rw [HS.out.2.2.1, HS.out.1, HS.out.2.1, HS.out.2.2.2], by repeat (first | with_reducible refine Below.setCell ?_ (by first | omega | (simp; done) | (simp; omega)) _ | with_reducible refine Below.alloc ?_ (by first | omega | (simp; done) | (simp; omega)) _ | with_reducible refine below_drewN ?_ _ | with_reducible refine Below.drew ?_ | with_reducible exact Below.refl _ _ | with_reducible assumption | with_reducible refine Below.trans ?_ (Below.mono (by assumption) (by first | omega | (simp; done) | (simp; omega))))⟩
set_option maxHeartbeats 4000000 in
set_option maxRecDepth 100000 in
theorem rAdd_carry (a b : Int) (w : World) (ha : In128 a) (hb : In128 b) (s : (decide (a < 0) == decide (b < 0)) = true) (nz : (a.natAbs : Int) + b.natAbs = 340282366920938463463374607431768211456) :
    Calls Try.prog 45 #[.agg #[.bool (decide (a < 0)), .int .u64 (d0 (a.natAbs)), .int .u64 (d1 (a.natAbs)), .int .u64 (d2 (a.natAbs)), .int .u64 (d3 (a.natAbs))], .agg #[.bool (decide (b < 0)), .int .u64 (d0 (b.natAbs)), .int .u64 (d1 (b.natAbs)), .int .u64 (d2 (b.natAbs)), .int .u64 (d3 (b.natAbs))]] w fun e w' => e = .returned (.tuple #[.agg #[.bool (decide (clipW (a + b) < 0)), .int .u64 (d0 ((clipW (a + b)).natAbs)), .int .u64 (d1 ((clipW (a + b)).natAbs)), .int .u64 (d2 ((clipW (a + b)).natAbs)), .int .u64 (d3 ((clipW (a + b)).natAbs))], .bool (fitW (a + b))]) ∧ Below w.heap.size w w' := by
  have A := abs128 ha
  have B := abs128 hb
  obtain ⟨m, hm⟩ : ∃ m : Int, (0 : Int) = m := ⟨_, rfl⟩
  have PM := Lib.hid (show ((a.natAbs : Int) + b.natAbs) % 340282366920938463463374607431768211456 = m by omega)
  have PD := Lib.hid (show ((a.natAbs : Int) + b.natAbs) / 340282366920938463463374607431768211456 = 1 by omega)
  have ZZ := Lib.hid (show decide (m = 0) = true by rw [decide_eq_true_iff]; omega)
  have HA := Lib.hid A
  have HB := Lib.hid B
  have SG := Lib.hid (show sgnW false m = 0 by unfold sgnW; simp; omega)
  have HS := Lib.hid (show clipW (a + b) = 0 ∧ fitW (a + b) = false by (have e : ¬ In128 (a + b) := by (unfold In128; by_cases p : a < 0 <;> by_cases q : b < 0 <;> simp [p, q] at s <;> omega)); exact ⟨by unfold clipW; rw [if_neg e], by unfold fitW; rw [decide_eq_false_iff_not]; exact e⟩)
  have m0 : 0 ≤ m := by omega
  have m1 : m ≤ 0 := by omega
  have ft : fitW 0 = true := by decide +kernel
  clear hm A B nz
  go_enter Try.func45, Try.ntmps45
  go_wp2_with fail
  refine (rplus_any _ _ _ HA.out.1 HA.out.2 HB.out.1 HB.out.2).mono ?_
  rw [PM.out, PD.out]
  rintro e w1 ⟨rfl, hb1⟩
  obtain ⟨hc_w1, hf_w1⟩ := bcell hb1
  have z_w1 := hb1.size
  try simp at z_w1
  have z0_w1 : w.heap.size < w1.heap.size := by omega
  have z1_w1 : w.heap.size + 1 < w1.heap.size := by omega
  have z2_w1 : w.heap.size + 1 + 1 < w1.heap.size := by omega
  have z3_w1 : w.heap.size + 1 + 1 + 1 < w1.heap.size := by omega
  have y_w1 : w.heap.size ≤ w1.heap.size := by omega
  have R1 : Some5 w1 (w.heap.size + 1 + 1) := by
    have := Some5.new ((w.alloc (.cells #[.bool (decide (a < 0)), .int .u64 (d0 a.natAbs), .int .u64 (d1 a.natAbs), .int .u64 (d2 a.natAbs), .int .u64 (d3 a.natAbs)] 30)).alloc (.cells #[.bool (decide (b < 0)), .int .u64 (d0 b.natAbs), .int .u64 (d1 b.natAbs), .int .u64 (d2 b.natAbs), .int .u64 (d3 b.natAbs)] 30)) (.bool false) (.int .u64 0) (.int .u64 0) (.int .u64 0) (.int .u64 0) 30
    simp only [World.size_alloc] at this
    exact (this.alloc (by simp) _).below hb1 (by simp)
  go_wp2_with fail
  refine (Zero_any _ _ _ (by omega) (by omega)).mono ?_
  rw [ZZ.out]
  rintro e w2 ⟨rfl, hb2⟩
  obtain ⟨hc_w2, hf_w2⟩ := bcell hb2
  have z_w2 := hb2.size
  try simp at z_w2
  have z0_w2 : w.heap.size < w2.heap.size := by omega
  have z1_w2 : w.heap.size + 1 < w2.heap.size := by omega
  have z2_w2 : w.heap.size + 1 + 1 < w2.heap.size := by omega
  have z3_w2 : w.heap.size + 1 + 1 + 1 < w2.heap.size := by omega
  have y_w2 : w.heap.size ≤ w2.heap.size := by omega
  have oo : w2.cell? ⟨w.heap.size + 1 + 1 + 1, 0, none⟩ = some (.bool (decide (a < 0))) := by go_simp
  have of : w2.frozen? ⟨w.heap.size + 1 + 1 + 1, 0, none⟩ = false := by go_simp
  have o2 : (w2.setCell ⟨w.heap.size + 1 + 1 + 1, 0, none⟩ (.bool false)).cell? ⟨w.heap.size + 1 + 1 + 1, 0, none⟩ = some (.bool false) := World.cell?_setCell_same _ _ _ oo
  go_wp2_with fail
  refine (Words_any _ _ _ (by omega) (by omega)).mono ?_
  rw [SG.out]
  rintro e w3 ⟨rfl, hb3⟩
  obtain ⟨hc_w3, hf_w3⟩ := bcell hb3
  have z_w3 := hb3.size
  try simp at z_w3
  have z0_w3 : w.heap.size < w3.heap.size := by omega
  have z1_w3 : w.heap.size + 1 < w3.heap.size := by omega
  have z2_w3 : w.heap.size + 1 + 1 < w3.heap.size := by omega
  have z3_w3 : w.heap.size + 1 + 1 + 1 < w3.heap.size := by omega
  have y_w3 : w.heap.size ≤ w3.heap.size := by omega
  have R3 : Some5 w3 (w.heap.size + 1 + 1) := by
    refine Some5.below ?_ hb3 (by simp [World.setCell]; omega)
    repeat (refine Some5.set ?_ _ _)
    refine Some5.below ?_ hb2 (by simp; omega)
    refine Some5.alloc ?_ (by simp [World.setCell]; omega) _
    repeat (refine Some5.set ?_ _ _)
    exact R1
  obtain ⟨⟨v0, t0⟩, ⟨v1, t1⟩, ⟨v2, t2⟩, ⟨v3, t3⟩, ⟨v4, t4⟩⟩ := R3
  go_wp2
  refine bodyPost_ret (v := .tuple #[.agg #[.bool false, .int .u64 0, .int .u64 0, .int .u64 0, .int .u64 0], .bool false]) (by simp [results, Try.results45, go_sem, t0, t1, t2, t3, t4]) rfl ⟨by rw [HS.out.1, HS.out.2]; rfl, by repeat (first | with_reducible refine Below.setCell ?_ (by first | omega | (simp; done) | (simp; omega)) _ | with_reducible refine Below.alloc ?_ (by first | omega | (simp; done) | (simp; omega)) _ | with_reducible refine below_drewN ?_ _ | with_reducible refine Below.drew ?_ | with_reducible exact Below.refl _ _ | with_reducible assumption | with_reducible refine Below.trans ?_ (Below.mono (by assumption) (by first | omega | (simp; done) | (simp; omega))))⟩
end Go.Proofs.Ytmdcfnifbkpedaa
