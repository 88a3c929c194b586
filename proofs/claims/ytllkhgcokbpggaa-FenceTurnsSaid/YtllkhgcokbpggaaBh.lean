/- The contract of the document's Add. -/
import Derived.Test.YtllkhgcokbpggaaBf
import Derived.Test.YtllkhgcokbpggaaBv
import Derived.Deep.RegionWith
namespace Go.Proofs.Ytllkhgcokbpggaa
open Go.RowKit

theorem add_same {a b : Int} (_ha : In128 a) (_hb : In128 b) (s : (decide (a < 0) == decide (b < 0)) = true) : sgnW (decide (a < 0)) ((a.natAbs : Int) + b.natAbs) = a + b := by
  unfold sgnW
  by_cases p : a < 0 <;> by_cases q : b < 0 <;> simp [p, q] at s ⊢ <;> omega
theorem add_form {a b m : Int} (h : sgnW (decide (a < 0)) m = a + b) (m0 : 0 ≤ m) (nz : a + b ≠ 0) : decide (a + b < 0) = decide (a < 0) ∧ ((a + b).natAbs : Int) = m := by
  unfold sgnW at h
  by_cases p : a < 0
  · simp [p] at h ⊢; omega
  · simp [p] at h ⊢; omega
theorem clip_none {n : Int} (h : fitW n = false) : clipW n = 0 := by
  unfold fitW at h; unfold clipW; rw [if_neg (of_decide_eq_false h)]
theorem clip_some {n : Int} (h : fitW n = true) : clipW n = n := by
  unfold fitW at h; unfold clipW; rw [if_pos (of_decide_eq_true h)]
/-- five cells of block n are there -/
structure Some5 (w : World) (n : Nat) : Prop where
  c0 : ∃ v, w.cell? ⟨n, 0, none⟩ = some v
  c1 : ∃ v, w.cell? ⟨n, 1, none⟩ = some v
  c2 : ∃ v, w.cell? ⟨n, 2, none⟩ = some v
  c3 : ∃ v, w.cell? ⟨n, 3, none⟩ = some v
  c4 : ∃ v, w.cell? ⟨n, 4, none⟩ = some v
theorem some_set {w : World} {p a : Addr} {u : Value} (k : ∃ v, w.cell? a = some v) : ∃ v, (w.setCell p u).cell? a = some v := by
  obtain ⟨v, hv⟩ := k
  by_cases h : p = a
  · subst h; exact ⟨u, World.cell?_setCell_same _ _ _ hv⟩
  · exact ⟨v, (World.cell?_setCell_other _ _ _ _ h).trans hv⟩
theorem Some5.set {w : World} {n : Nat} (k : Some5 w n) (p : Addr) (u : Value) : Some5 (w.setCell p u) n := ⟨some_set k.c0, some_set k.c1, some_set k.c2, some_set k.c3, some_set k.c4⟩
theorem Some5.below {B : Nat} {w w' : World} {n : Nat} (k : Some5 w n) (hb : Below B w w') (hn : n < B) : Some5 w' n := ⟨below_some hb hn k.c0, below_some hb hn k.c1, below_some hb hn k.c2, below_some hb hn k.c3, below_some hb hn k.c4⟩
theorem Some5.alloc {w : World} {n : Nat} (k : Some5 w n) (hn : n < w.heap.size) (o : Obj) : Some5 (w.alloc o) n := k.below (B := w.heap.size) ((Below.refl _ _).alloc (Nat.le_refl _) o) hn
theorem Some5.new (w : World) (a b c d e : Value) (t : TypeId) : Some5 (w.alloc (.cells #[a, b, c, d, e] t)) w.heap.size :=
  ⟨⟨a, World.cell?_alloc_new w _ t 0⟩, ⟨b, World.cell?_alloc_new w _ t 1⟩, ⟨c, World.cell?_alloc_new w _ t 2⟩, ⟨d, World.cell?_alloc_new w _ t 3⟩, ⟨e, World.cell?_alloc_new w _ t 4⟩⟩
set_option maxHeartbeats 4000000 in
set_option maxRecDepth 100000 in
theorem rAdd_same (a b : Int) (w : World) (ha : In128 a) (hb : In128 b) (s : (decide (a < 0) == decide (b < 0)) = true) (nz : a + b ≠ 0) (fit : (a.natAbs : Int) + b.natAbs < 340282366920938463463374607431768211456) :
    Calls Try.prog 63 #[.agg #[.bool (decide (a < 0)), .int .u64 (d0 (a.natAbs)), .int .u64 (d1 (a.natAbs)), .int .u64 (d2 (a.natAbs)), .int .u64 (d3 (a.natAbs))], .agg #[.bool (decide (b < 0)), .int .u64 (d0 (b.natAbs)), .int .u64 (d1 (b.natAbs)), .int .u64 (d2 (b.natAbs)), .int .u64 (d3 (b.natAbs))]] w fun e w' => e = .returned (.tuple #[.agg #[.bool (decide (clipW (a + b) < 0)), .int .u64 (d0 ((clipW (a + b)).natAbs)), .int .u64 (d1 ((clipW (a + b)).natAbs)), .int .u64 (d2 ((clipW (a + b)).natAbs)), .int .u64 (d3 ((clipW (a + b)).natAbs))], .bool (fitW (a + b))]) ∧ Below w.heap.size w w' := by
  have A := abs128 ha
  have B := abs128 hb
  have pm : ((a.natAbs : Int) + b.natAbs) % 340282366920938463463374607431768211456 = (a.natAbs : Int) + b.natAbs := by omega
  have pd : ((a.natAbs : Int) + b.natAbs) / 340282366920938463463374607431768211456 = 0 := by omega
  have SG := Lib.hid (add_same ha hb s)
  obtain ⟨m, hm⟩ : ∃ m : Int, (a.natAbs : Int) + b.natAbs = m := ⟨_, rfl⟩
  rw [hm] at pm pd SG
  have m0 : 0 ≤ m := by omega
  have m1 : m < 340282366920938463463374607431768211456 := by omega
  have zz : decide (m = 0) = false := by rw [decide_eq_false_iff_not]; unfold sgnW at SG; omega
  have NV := Lib.hid (show decide (a + b < 0) = decide (a < 0) ∧ ((a + b).natAbs : Int) = m from add_form SG.out m0 nz)
  have PM := Lib.hid pm
  have PD := Lib.hid pd
  have M1 := Lib.hid m1
  have HM := Lib.hid hm
  have HA := Lib.hid A
  have HB := Lib.hid B
  clear pm pd m1 hm A B fit
  go_enter Try.func63, Try.ntmps63
  go_wp2_with fail
  refine (rplus_any _ _ _ HA.out.1 HA.out.2 HB.out.1 HB.out.2).mono ?_
  rw [HM.out, PM.out, PD.out]
  rintro e w1 ⟨rfl, hb1⟩
  obtain ⟨hc_w1, hf_w1⟩ := bcell hb1
  have z_w1 := hb1.size
  try simp at z_w1
  have z0_w1 : w.heap.size < w1.heap.size := by omega
  have z1_w1 : w.heap.size + 1 < w1.heap.size := by omega
  have z2_w1 : w.heap.size + 1 + 1 < w1.heap.size := by omega
  have z3_w1 : w.heap.size + 1 + 1 + 1 < w1.heap.size := by omega
  have y_w1 : w.heap.size ≤ w1.heap.size := by omega
  have R1 : Some5 w1 (w.heap.size + 1 + 1) := by
    have := Some5.new ((w.alloc (.cells #[.bool (decide (a < 0)), .int .u64 (d0 a.natAbs), .int .u64 (d1 a.natAbs), .int .u64 (d2 a.natAbs), .int .u64 (d3 a.natAbs)] 90)).alloc (.cells #[.bool (decide (b < 0)), .int .u64 (d0 b.natAbs), .int .u64 (d1 b.natAbs), .int .u64 (d2 b.natAbs), .int .u64 (d3 b.natAbs)] 90)) (.bool false) (.int .u64 0) (.int .u64 0) (.int .u64 0) (.int .u64 0) 90
    simp only [World.size_alloc] at this
    exact (this.alloc (by simp) _).below hb1 (by simp)
  go_wp2_with fail
  refine (Zero_any _ _ _ m0 M1.out).mono ?_
  rw [zz]
  rintro e w2 ⟨rfl, hb2⟩
  obtain ⟨hc_w2, hf_w2⟩ := bcell hb2
  have z_w2 := hb2.size
  try simp at z_w2
  have z0_w2 : w.heap.size < w2.heap.size := by omega
  have z1_w2 : w.heap.size + 1 < w2.heap.size := by omega
  have z2_w2 : w.heap.size + 1 + 1 < w2.heap.size := by omega
  have z3_w2 : w.heap.size + 1 + 1 + 1 < w2.heap.size := by omega
  have y_w2 : w.heap.size ≤ w2.heap.size := by omega
  go_wp2_with fail
  refine (Words_any _ _ _ m0 M1.out).mono ?_
  rw [SG.out]
  rintro e w3 ⟨rfl, hb3⟩
  obtain ⟨hc_w3, hf_w3⟩ := bcell hb3
  have z_w3 := hb3.size
  try simp at z_w3
  have z0_w3 : w.heap.size < w3.heap.size := by omega
  have z1_w3 : w.heap.size + 1 < w3.heap.size := by omega
  have z2_w3 : w.heap.size + 1 + 1 < w3.heap.size := by omega
  have z3_w3 : w.heap.size + 1 + 1 + 1 < w3.heap.size := by omega
  have y_w3 : w.heap.size ≤ w3.heap.size := by omega
  have R3 : Some5 w3 (w.heap.size + 1 + 1) := by
    refine Some5.below (Some5.below ?_ hb2 (by simp; omega)) hb3 (by omega)
    refine Some5.alloc ?_ (by simp [World.setCell]; omega) _
    repeat (refine Some5.set ?_ _ _)
    exact R1
  obtain ⟨⟨v0, t0⟩, ⟨v1, t1⟩, ⟨v2, t2⟩, ⟨v3, t3⟩, ⟨v4, t4⟩⟩ := R3
  cases hF : fitW (a + b) with
  | false =>
    go_wp2
    refine bodyPost_ret (v := .tuple #[.agg #[.bool false, .int .u64 0, .int .u64 0, .int .u64 0, .int .u64 0], .bool false]) (by simp [results, Try.results63, go_sem, t0, t1, t2, t3, t4]) rfl ⟨by rw [clip_none hF]; first | rfl | (rw [hF]; rfl), by repeat (first | with_reducible refine Below.setCell ?_ (by first | omega | (simp; done) | (simp; omega)) _ | with_reducible refine Below.alloc ?_ (by first | omega | (simp; done) | (simp; omega)) _ | with_reducible refine below_drewN ?_ _ | with_reducible refine Below.drew ?_ | with_reducible exact Below.refl _ _ | with_reducible assumption | with_reducible refine Below.trans ?_ (Below.mono (by assumption) (by first | omega | (simp; done) | (simp; omega))))⟩
  | true =>
    go_wp2
    refine bodyPost_ret (v := .tuple #[.agg #[.bool (decide (a < 0)), .int .u64 (d0 m), .int .u64 (d1 m), .int .u64 (d2 m), .int .u64 (d3 m)], .bool true]) (by simp [results, Try.results63, go_sem, t0, t1, t2, t3, t4]) rfl ⟨by rw [clip_some hF, NV.out.1, NV.out.2]; first | rfl | rw [hF], by repeat (first | with_reducible refine Below.setCell ?_ (by first | omega | (simp; done) | (simp; omega)) _ | with_reducible refine Below.alloc ?_ (by first | omega | (simp; done) | (simp; omega)) _ | with_reducible refine below_drewN ?_ _ | with_reducible refine Below.drew ?_ | with_reducible exact Below.refl _ _ | with_reducible assumption | with_reducible refine Below.trans ?_ (Below.mono (by assumption) (by first | omega | (simp; done) | (simp; omega))))⟩
end Go.Proofs.Ytllkhgcokbpggaa
namespace Go.Proofs.Ytllkhgcokbpggaa
open Go.RowKit

theorem add_form2 {a b m : Int} (h : sgnW (decide (b < 0)) m = a + b) (m0 : 0 ≤ m) (nz : m ≠ 0) : decide (a + b < 0) = decide (b < 0) ∧ ((a + b).natAbs : Int) = m := by
  unfold sgnW at h
  by_cases p : b < 0
  · simp [p] at h ⊢; omega
  · simp [p] at h ⊢; omega
set_option maxHeartbeats 4000000 in
set_option maxRecDepth 100000 in
theorem rAdd_less (a b : Int) (w : World) (ha : In128 a) (hb : In128 b) (s : (decide (a < 0) == decide (b < 0)) = false) (lt : (a.natAbs : Int) < b.natAbs) :
    Calls Try.prog 63 #[.agg #[.bool (decide (a < 0)), .int .u64 (d0 (a.natAbs)), .int .u64 (d1 (a.natAbs)), .int .u64 (d2 (a.natAbs)), .int .u64 (d3 (a.natAbs))], .agg #[.bool (decide (b < 0)), .int .u64 (d0 (b.natAbs)), .int .u64 (d1 (b.natAbs)), .int .u64 (d2 (b.natAbs)), .int .u64 (d3 (b.natAbs))]] w fun e w' => e = .returned (.tuple #[.agg #[.bool (decide (clipW (a + b) < 0)), .int .u64 (d0 ((clipW (a + b)).natAbs)), .int .u64 (d1 ((clipW (a + b)).natAbs)), .int .u64 (d2 ((clipW (a + b)).natAbs)), .int .u64 (d3 ((clipW (a + b)).natAbs))], .bool (fitW (a + b))]) ∧ Below w.heap.size w w' := by
  have A := abs128 ha
  have B := abs128 hb
  have tl : decide ((a.natAbs : Int) < b.natAbs) = true := by rw [decide_eq_true_iff]; exact lt
  have pm : ((b.natAbs : Int) - a.natAbs) % 340282366920938463463374607431768211456 = (b.natAbs : Int) - a.natAbs := by omega
  obtain ⟨m, hm⟩ : ∃ m : Int, (b.natAbs : Int) - a.natAbs = m := ⟨_, rfl⟩
  rw [hm] at pm
  have SG := Lib.hid (show sgnW (decide (b < 0)) m = a + b by unfold sgnW; by_cases p : a < 0 <;> by_cases q : b < 0 <;> simp [p, q] at s ⊢ <;> omega)
  have M0 := Lib.hid (show 0 ≤ m by omega)
  have M1 := Lib.hid (show m < 340282366920938463463374607431768211456 by omega)
  have ZZ := Lib.hid (show decide (m = 0) = false by rw [decide_eq_false_iff_not]; omega)
  have FT := Lib.hid (show In128 (a + b) by unfold In128 at ha hb ⊢; by_cases p : a < 0 <;> by_cases q : b < 0 <;> simp [p, q] at s <;> omega)
  have ft : fitW (a + b) = true := (clip_of FT.out).2
  have NV := Lib.hid (add_form2 SG.out M0.out (show m ≠ 0 by omega))
  have PM := Lib.hid pm
  have HM := Lib.hid hm
  have HA := Lib.hid A
  have HB := Lib.hid B
  clear pm hm A B lt
  go_enter Try.func63, Try.ntmps63
  go_wp2_with fail
  refine (less_any _ _ _ HA.out.1 HA.out.2 HB.out.1 HB.out.2).mono ?_
  rw [tl]
  rintro e w1 ⟨rfl, hb1⟩
  obtain ⟨hc_w1, hf_w1⟩ := bcell hb1
  have z_w1 := hb1.size
  try simp at z_w1
  have z0_w1 : w.heap.size < w1.heap.size := by omega
  have z1_w1 : w.heap.size + 1 < w1.heap.size := by omega
  have z2_w1 : w.heap.size + 1 + 1 < w1.heap.size := by omega
  have z3_w1 : w.heap.size + 1 + 1 + 1 < w1.heap.size := by omega
  have y_w1 : w.heap.size ≤ w1.heap.size := by omega
  have HB1 : Hid (Below w.heap.size w w1) := Lib.hid (show Below w.heap.size w w1 by repeat (first | with_reducible refine Below.setCell ?_ (by first | omega | (simp; done) | (simp; omega)) _ | with_reducible refine Below.alloc ?_ (by first | omega | (simp; done) | (simp; omega)) _ | with_reducible refine below_drewN ?_ _ | with_reducible refine Below.drew ?_ | with_reducible exact Below.refl _ _ | with_reducible assumption | with_reducible refine Below.trans ?_ (Below.mono (by assumption) (by first | omega | (simp; done) | (simp; omega)))))
  have y1 : w.heap.size ≤ w1.drew.heap.size := y_w1
  have O1 : CellO w1.drew (w.heap.size + 1 + 1 + 1) false 0 0 0 0 := ⟨by go_simp, by go_simp, by go_simp, by go_simp, by go_simp, fun j => by go_simp⟩
  have N1 : CellN w1.drew (w.heap.size + 1) (decide (b < 0)) b.natAbs := ⟨by go_simp, by go_simp, by go_simp, by go_simp, by go_simp⟩
  have R1 : CellO w1.drew (w.heap.size + 1 + 1) false 0 0 0 0 := ⟨by go_simp, by go_simp, by go_simp, by go_simp, by go_simp, fun j => by go_simp⟩
  go_wp2
  go_region_with (first | (go_at_call 86; refine (rminus_any _ _ _ HB.out.1 HB.out.2 HA.out.1 HA.out.2).mono ?_; rw [HM.out, PM.out]; rintro e w2 ⟨rfl, hb2⟩; have O2 := O1.below hb2 z3_w1; have N2 := N1.below hb2 z1_w1; have k0 := O2.c0; have k1 := O2.c1; have k2 := O2.c2; have k3 := O2.c3; have k4 := O2.c4; have kf := O2.f; have HB2 := Lib.hid ((HB1.out.drew).trans (hb2.mono y1)); have k5 := N2.c0; have R2 := R1.below hb2 z2_w1; obtain ⟨hc_w2, hf_w2⟩ := bcell hb2; have z3_w2 : w.heap.size + 1 + 1 + 1 < w2.heap.size := (by have := hb2.size; simp at this; omega); have z2_w2 : w.heap.size + 1 + 1 < w2.heap.size := (by omega); have z1_w2 : w.heap.size + 1 < w2.heap.size := (by omega); have z0_w2 : w.heap.size < w2.heap.size := (by omega)))
  all_goals
    go_wp2_with fail
    refine (Zero_any _ _ _ M0.out M1.out).mono ?_
    rw [ZZ.out]
    rintro e w3 ⟨rfl, hb3⟩
    obtain ⟨hc_w3, hf_w3⟩ := bcell hb3
    have z3_w3 : w.heap.size + 1 + 1 + 1 < w3.heap.size := by have := hb3.size; simp at this; omega
    have z2_w3 : w.heap.size + 1 + 1 < w3.heap.size := by omega
    go_wp2_with fail
    refine (Words_any _ _ _ M0.out M1.out).mono ?_
    rw [SG.out]
    rintro e w4 ⟨rfl, hb4⟩
    obtain ⟨hc_w4, hf_w4⟩ := bcell hb4
    have z3_w4 : w.heap.size + 1 + 1 + 1 < w4.heap.size := by have := hb4.size; omega
    have z2_w4 : w.heap.size + 1 + 1 < w4.heap.size := by omega
    have r0 := R2.c0
    have r1 := R2.c1
    have r2 := R2.c2
    have r3 := R2.c3
    have r4 := R2.c4
    have rf := R2.f
    go_wp2
    refine bodyPost_ret (v := .tuple #[.agg #[.bool (decide (b < 0)), .int .u64 (d0 m), .int .u64 (d1 m), .int .u64 (d2 m), .int .u64 (d3 m)], .bool true]) ?_ rfl ?_
    · simp [results, Try.results63, go_sem, hc_w4, hc_w3, r0, r1, r2, r3, r4, z2_w3, z2_w2]
    · refine ⟨by rw [(clip_of FT.out).1, NV.out.1, NV.out.2]; first | rfl | rw [ft], ?_⟩
      repeat (with_reducible refine Below.setCell ?_ (by first | exact Nat.le_refl _ | (show w.heap.size ≤ w.heap.size + 1 + 1; omega)) _)
      refine Below.trans ?_ (hb4.mono (by omega))
      refine Below.trans ?_ (hb3.mono (by simp [World.setCell]; omega))
      repeat (with_reducible refine Below.setCell ?_ (by first | exact Nat.le_refl _ | (show w.heap.size ≤ w.heap.size + 1 + 1 + 1; omega)) _)
      exact HB2.out
end Go.Proofs.Ytllkhgcokbpggaa
namespace Go.Proofs.Ytllkhgcokbpggaa
open Go.RowKit

set_option maxHeartbeats 4000000 in
set_option maxRecDepth 100000 in
theorem rAdd_more (a b : Int) (w : World) (ha : In128 a) (hb : In128 b) (s : (decide (a < 0) == decide (b < 0)) = false) (lt : (b.natAbs : Int) < a.natAbs) :
    Calls Try.prog 63 #[.agg #[.bool (decide (a < 0)), .int .u64 (d0 (a.natAbs)), .int .u64 (d1 (a.natAbs)), .int .u64 (d2 (a.natAbs)), .int .u64 (d3 (a.natAbs))], .agg #[.bool (decide (b < 0)), .int .u64 (d0 (b.natAbs)), .int .u64 (d1 (b.natAbs)), .int .u64 (d2 (b.natAbs)), .int .u64 (d3 (b.natAbs))]] w fun e w' => e = .returned (.tuple #[.agg #[.bool (decide (clipW (a + b) < 0)), .int .u64 (d0 ((clipW (a + b)).natAbs)), .int .u64 (d1 ((clipW (a + b)).natAbs)), .int .u64 (d2 ((clipW (a + b)).natAbs)), .int .u64 (d3 ((clipW (a + b)).natAbs))], .bool (fitW (a + b))]) ∧ Below w.heap.size w w' := by
  have A := abs128 ha
  have B := abs128 hb
  have tl : decide ((a.natAbs : Int) < b.natAbs) = false := by rw [decide_eq_false_iff_not]; omega
  have pm : ((a.natAbs : Int) - b.natAbs) % 340282366920938463463374607431768211456 = (a.natAbs : Int) - b.natAbs := by omega
  obtain ⟨m, hm⟩ : ∃ m : Int, (a.natAbs : Int) - b.natAbs = m := ⟨_, rfl⟩
  rw [hm] at pm
  have SG := Lib.hid (show sgnW (decide (a < 0)) m = a + b by unfold sgnW; by_cases p : a < 0 <;> by_cases q : b < 0 <;> simp [p, q] at s ⊢ <;> omega)
  have M0 := Lib.hid (show 0 ≤ m by omega)
  have M1 := Lib.hid (show m < 340282366920938463463374607431768211456 by omega)
  have ZZ := Lib.hid (show decide (m = 0) = false by rw [decide_eq_false_iff_not]; omega)
  have FT := Lib.hid (show In128 (a + b) by unfold In128 at ha hb ⊢; by_cases p : a < 0 <;> by_cases q : b < 0 <;> simp [p, q] at s <;> omega)
  have ft : fitW (a + b) = true := (clip_of FT.out).2
  have NV := Lib.hid (add_form SG.out M0.out (by omega))
  have PM := Lib.hid pm
  have HM := Lib.hid hm
  have HA := Lib.hid A
  have HB := Lib.hid B
  clear pm hm A B lt
  go_enter Try.func63, Try.ntmps63
  go_wp2_with fail
  refine (less_any _ _ _ HA.out.1 HA.out.2 HB.out.1 HB.out.2).mono ?_
  rw [tl]
  rintro e w1 ⟨rfl, hb1⟩
  obtain ⟨hc_w1, hf_w1⟩ := bcell hb1
  have z_w1 := hb1.size
  try simp at z_w1
  have z0_w1 : w.heap.size < w1.heap.size := by omega
  have z1_w1 : w.heap.size + 1 < w1.heap.size := by omega
  have z2_w1 : w.heap.size + 1 + 1 < w1.heap.size := by omega
  have z3_w1 : w.heap.size + 1 + 1 + 1 < w1.heap.size := by omega
  have y_w1 : w.heap.size ≤ w1.heap.size := by omega
  have HB1 : Hid (Below w.heap.size w w1) := Lib.hid (show Below w.heap.size w w1 by repeat (first | with_reducible refine Below.setCell ?_ (by first | omega | (simp; done) | (simp; omega)) _ | with_reducible refine Below.alloc ?_ (by first | omega | (simp; done) | (simp; omega)) _ | with_reducible refine below_drewN ?_ _ | with_reducible refine Below.drew ?_ | with_reducible exact Below.refl _ _ | with_reducible assumption | with_reducible refine Below.trans ?_ (Below.mono (by assumption) (by first | omega | (simp; done) | (simp; omega)))))
  have y1 : w.heap.size ≤ w1.drew.heap.size := y_w1
  have O1 : CellO w1.drew (w.heap.size + 1 + 1 + 1) false 0 0 0 0 := ⟨by go_simp, by go_simp, by go_simp, by go_simp, by go_simp, fun j => by go_simp⟩
  have N1 : CellN w1.drew w.heap.size (decide (a < 0)) a.natAbs := ⟨by go_simp, by go_simp, by go_simp, by go_simp, by go_simp⟩
  have R1 : CellO w1.drew (w.heap.size + 1 + 1) false 0 0 0 0 := ⟨by go_simp, by go_simp, by go_simp, by go_simp, by go_simp, fun j => by go_simp⟩
  go_wp2
  go_region_with (first | (go_at_call 86; refine (rminus_any _ _ _ HA.out.1 HA.out.2 HB.out.1 HB.out.2).mono ?_; rw [HM.out, PM.out]; rintro e w2 ⟨rfl, hb2⟩; have O2 := O1.below hb2 z3_w1; have N2 := N1.below hb2 z0_w1; have k0 := O2.c0; have k1 := O2.c1; have k2 := O2.c2; have k3 := O2.c3; have k4 := O2.c4; have kf := O2.f; have HB2 := Lib.hid ((HB1.out.drew).trans (hb2.mono y1)); have k5 := N2.c0; have R2 := R1.below hb2 z2_w1; obtain ⟨hc_w2, hf_w2⟩ := bcell hb2; have z3_w2 : w.heap.size + 1 + 1 + 1 < w2.heap.size := (by have := hb2.size; simp at this; omega); have z2_w2 : w.heap.size + 1 + 1 < w2.heap.size := (by omega); have z1_w2 : w.heap.size + 1 < w2.heap.size := (by omega); have z0_w2 : w.heap.size < w2.heap.size := (by omega)))
  all_goals
    go_wp2_with fail
    refine (Zero_any _ _ _ M0.out M1.out).mono ?_
    rw [ZZ.out]
    rintro e w3 ⟨rfl, hb3⟩
    obtain ⟨hc_w3, hf_w3⟩ := bcell hb3
    have z3_w3 : w.heap.size + 1 + 1 + 1 < w3.heap.size := by have := hb3.size; simp at this; omega
    have z2_w3 : w.heap.size + 1 + 1 < w3.heap.size := by omega
    go_wp2_with fail
    refine (Words_any _ _ _ M0.out M1.out).mono ?_
    rw [SG.out]
    rintro e w4 ⟨rfl, hb4⟩
    obtain ⟨hc_w4, hf_w4⟩ := bcell hb4
    have z3_w4 : w.heap.size + 1 + 1 + 1 < w4.heap.size := by have := hb4.size; omega
    have z2_w4 : w.heap.size + 1 + 1 < w4.heap.size := by omega
    have r0 := R2.c0
    have r1 := R2.c1
    have r2 := R2.c2
    have r3 := R2.c3
    have r4 := R2.c4
    have rf := R2.f
    go_wp2
    refine bodyPost_ret (v := .tuple #[.agg #[.bool (decide (a < 0)), .int .u64 (d0 m), .int .u64 (d1 m), .int .u64 (d2 m), .int .u64 (d3 m)], .bool true]) ?_ rfl ?_
    · simp [results, Try.results63, go_sem, hc_w4, hc_w3, r0, r1, r2, r3, r4, z2_w3, z2_w2]
    · refine ⟨by rw [(clip_of FT.out).1, NV.out.1, NV.out.2]; first | rfl | rw [ft], ?_⟩
      repeat (with_reducible refine Below.setCell ?_ (by first | exact Nat.le_refl _ | (show w.heap.size ≤ w.heap.size + 1 + 1; omega)) _)
      refine Below.trans ?_ (hb4.mono (by omega))
      refine Below.trans ?_ (hb3.mono (by simp [World.setCell]; omega))
      repeat (with_reducible refine Below.setCell ?_ (by first | exact Nat.le_refl _ | (show w.heap.size ≤ w.heap.size + 1 + 1 + 1; omega)) _)
      exact HB2.out
end Go.Proofs.Ytllkhgcokbpggaa
namespace Go.Proofs.Ytllkhgcokbpggaa
open Go.RowKit

set_option maxHeartbeats 4000000 in
set_option maxRecDepth 100000 in
theorem rAdd_same0 (a b : Int) (w : World) (ha : In128 a) (hb : In128 b) (nz : a = 0) (nb : b = 0) :
    Calls Try.prog 63 #[.agg #[.bool (decide (a < 0)), .int .u64 (d0 (a.natAbs)), .int .u64 (d1 (a.natAbs)), .int .u64 (d2 (a.natAbs)), .int .u64 (d3 (a.natAbs))], .agg #[.bool (decide (b < 0)), .int .u64 (d0 (b.natAbs)), .int .u64 (d1 (b.natAbs)), .int .u64 (d2 (b.natAbs)), .int .u64 (d3 (b.natAbs))]] w fun e w' => e = .returned (.tuple #[.agg #[.bool (decide (clipW (a + b) < 0)), .int .u64 (d0 ((clipW (a + b)).natAbs)), .int .u64 (d1 ((clipW (a + b)).natAbs)), .int .u64 (d2 ((clipW (a + b)).natAbs)), .int .u64 (d3 ((clipW (a + b)).natAbs))], .bool (fitW (a + b))]) ∧ Below w.heap.size w w' := by
  have A := abs128 ha
  have B := abs128 hb
  obtain ⟨m, hm⟩ : ∃ m : Int, (0 : Int) = m := ⟨_, rfl⟩
  have PM := Lib.hid (show ((a.natAbs : Int) + b.natAbs) % 340282366920938463463374607431768211456 = m by omega)
  have PD := Lib.hid (show ((a.natAbs : Int) + b.natAbs) / 340282366920938463463374607431768211456 = 0 by omega)
  have ZZ := Lib.hid (show decide (m = 0) = true by rw [decide_eq_true_iff]; omega)
  have HA := Lib.hid A
  have HB := Lib.hid B
  have SG := Lib.hid (show sgnW false m = 0 by unfold sgnW; simp; omega)
  have HS := Lib.hid (show decide (a + b < 0) = false ∧ ((a + b).natAbs : Int) = m ∧ clipW (a + b) = a + b ∧ fitW (a + b) = true by (have e : a + b = 0 := by omega); rw [e]; exact ⟨by decide, by omega, (clip_of (n := 0) (by unfold In128; omega)).1, by decide +kernel⟩)
  have m0 : 0 ≤ m := by omega
  have m1 : m ≤ 0 := by omega
  have ft : fitW 0 = true := by decide +kernel
  have sa : decide (a < 0) = false := by rw [decide_eq_false_iff_not]; omega
  have sb : decide (b < 0) = false := by rw [decide_eq_false_iff_not]; omega
  clear hm A B nz nb
  go_enter Try.func63, Try.ntmps63
  go_wp2_with fail
  refine (rplus_any _ _ _ HA.out.1 HA.out.2 HB.out.1 HB.out.2).mono ?_
  rw [PM.out, PD.out]
  rintro e w1 ⟨rfl, hb1⟩
  obtain ⟨hc_w1, hf_w1⟩ := bcell hb1
  have z_w1 := hb1.size
  try simp at z_w1
  have z0_w1 : w.heap.size < w1.heap.size := by omega
  have z1_w1 : w.heap.size + 1 < w1.heap.size := by omega
  have z2_w1 : w.heap.size + 1 + 1 < w1.heap.size := by omega
  have z3_w1 : w.heap.size + 1 + 1 + 1 < w1.heap.size := by omega
  have y_w1 : w.heap.size ≤ w1.heap.size := by omega
  have R1 : Some5 w1 (w.heap.size + 1 + 1) := by
    have := Some5.new ((w.alloc (.cells #[.bool false, .int .u64 (d0 a.natAbs), .int .u64 (d1 a.natAbs), .int .u64 (d2 a.natAbs), .int .u64 (d3 a.natAbs)] 90)).alloc (.cells #[.bool false, .int .u64 (d0 b.natAbs), .int .u64 (d1 b.natAbs), .int .u64 (d2 b.natAbs), .int .u64 (d3 b.natAbs)] 90)) (.bool false) (.int .u64 0) (.int .u64 0) (.int .u64 0) (.int .u64 0) 90
    simp only [World.size_alloc] at this
    exact (this.alloc (by simp) _).below hb1 (by simp)
  go_wp2_with fail
  refine (Zero_any _ _ _ (by omega) (by omega)).mono ?_
  rw [ZZ.out]
  rintro e w2 ⟨rfl, hb2⟩
  obtain ⟨hc_w2, hf_w2⟩ := bcell hb2
  have z_w2 := hb2.size
  try simp at z_w2
  have z0_w2 : w.heap.size < w2.heap.size := by omega
  have z1_w2 : w.heap.size + 1 < w2.heap.size := by omega
  have z2_w2 : w.heap.size + 1 + 1 < w2.heap.size := by omega
  have z3_w2 : w.heap.size + 1 + 1 + 1 < w2.heap.size := by omega
  have y_w2 : w.heap.size ≤ w2.heap.size := by omega
  have oo : w2.cell? ⟨w.heap.size + 1 + 1 + 1, 0, none⟩ = some (.bool (false)) := by go_simp
  have of : w2.frozen? ⟨w.heap.size + 1 + 1 + 1, 0, none⟩ = false := by go_simp
  have o2 : (w2.setCell ⟨w.heap.size + 1 + 1 + 1, 0, none⟩ (.bool false)).cell? ⟨w.heap.size + 1 + 1 + 1, 0, none⟩ = some (.bool false) := World.cell?_setCell_same _ _ _ oo
  go_wp2_with fail
  refine (Words_any _ _ _ (by omega) (by omega)).mono ?_
  rw [SG.out]
  rintro e w3 ⟨rfl, hb3⟩
  obtain ⟨hc_w3, hf_w3⟩ := bcell hb3
  have z_w3 := hb3.size
  try simp at z_w3
  have z0_w3 : w.heap.size < w3.heap.size := by omega
  have z1_w3 : w.heap.size + 1 < w3.heap.size := by omega
  have z2_w3 : w.heap.size + 1 + 1 < w3.heap.size := by omega
  have z3_w3 : w.heap.size + 1 + 1 + 1 < w3.heap.size := by omega
  have y_w3 : w.heap.size ≤ w3.heap.size := by omega
  have R3 : Some5 w3 (w.heap.size + 1 + 1) := by
    refine Some5.below ?_ hb3 (by simp [World.setCell]; omega)
    repeat (refine Some5.set ?_ _ _)
    refine Some5.below ?_ hb2 (by simp; omega)
    refine Some5.alloc ?_ (by simp [World.setCell]; omega) _
    repeat (refine Some5.set ?_ _ _)
    exact R1
  obtain ⟨⟨v0, t0⟩, ⟨v1, t1⟩, ⟨v2, t2⟩, ⟨v3, t3⟩, ⟨v4, t4⟩⟩ := R3
  go_wp2
  refine bodyPost_ret (v := .tuple #[.agg #[.bool false, .int .u64 (d0 m), .int .u64 (d1 m), .int .u64 (d2 m), .int .u64 (d3 m)], .bool true]) (by simp [results, Try.results63, go_sem, t0, t1, t2, t3, t4]) rfl ⟨by rw [HS.out.2.2.1, HS.out.1, HS.out.2.1, HS.out.2.2.2], by repeat (first | with_reducible refine Below.setCell ?_ (by first | omega | (simp; done) | (simp; omega)) _ | with_reducible refine Below.alloc ?_ (by first | omega | (simp; done) | (simp; omega)) _ | with_reducible refine below_drewN ?_ _ | with_reducible refine Below.drew ?_ | with_reducible exact Below.refl _ _ | with_reducible assumption | with_reducible refine Below.trans ?_ (Below.mono (by assumption) (by first | omega | (simp; done) | (simp; omega))))⟩
set_option maxHeartbeats 4000000 in
set_option maxRecDepth 100000 in
theorem rAdd_carry (a b : Int) (w : World) (ha : In128 a) (hb : In128 b) (s : (decide (a < 0) == decide (b < 0)) = true) (nz : (a.natAbs : Int) + b.natAbs = 340282366920938463463374607431768211456) :
    Calls Try.prog 63 #[.agg #[.bool (decide (a < 0)), .int .u64 (d0 (a.natAbs)), .int .u64 (d1 (a.natAbs)), .int .u64 (d2 (a.natAbs)), .int .u64 (d3 (a.natAbs))], .agg #[.bool (decide (b < 0)), .int .u64 (d0 (b.natAbs)), .int .u64 (d1 (b.natAbs)), .int .u64 (d2 (b.natAbs)), .int .u64 (d3 (b.natAbs))]] w fun e w' => e = .returned (.tuple #[.agg #[.bool (decide (clipW (a + b) < 0)), .int .u64 (d0 ((clipW (a + b)).natAbs)), .int .u64 (d1 ((clipW (a + b)).natAbs)), .int .u64 (d2 ((clipW (a + b)).natAbs)), .int .u64 (d3 ((clipW (a + b)).natAbs))], .bool (fitW (a + b))]) ∧ Below w.heap.size w w' := by
  have A := abs128 ha
  have B := abs128 hb
  obtain ⟨m, hm⟩ : ∃ m : Int, (0 : Int) = m := ⟨_, rfl⟩
  have PM := Lib.hid (show ((a.natAbs : Int) + b.natAbs) % 340282366920938463463374607431768211456 = m by omega)
  have PD := Lib.hid (show ((a.natAbs : Int) + b.natAbs) / 340282366920938463463374607431768211456 = 1 by omega)
  have ZZ := Lib.hid (show decide (m = 0) = true by rw [decide_eq_true_iff]; omega)
  have HA := Lib.hid A
  have HB := Lib.hid B
  have SG := Lib.hid (show sgnW false m = 0 by unfold sgnW; simp; omega)
  have HS := Lib.hid (show clipW (a + b) = 0 ∧ fitW (a + b) = false by (have e : ¬ In128 (a + b) := by (unfold In128; by_cases p : a < 0 <;> by_cases q : b < 0 <;> simp [p, q] at s <;> omega)); exact ⟨by unfold clipW; rw [if_neg e], by unfold fitW; rw [decide_eq_false_iff_not]; exact e⟩)
  have m0 : 0 ≤ m := by omega
  have m1 : m ≤ 0 := by omega
  have ft : fitW 0 = true := by decide +kernel
  clear hm A B nz
  go_enter Try.func63, Try.ntmps63
  go_wp2_with fail
  refine (rplus_any _ _ _ HA.out.1 HA.out.2 HB.out.1 HB.out.2).mono ?_
  rw [PM.out, PD.out]
  rintro e w1 ⟨rfl, hb1⟩
  obtain ⟨hc_w1, hf_w1⟩ := bcell hb1
  have z_w1 := hb1.size
  try simp at z_w1
  have z0_w1 : w.heap.size < w1.heap.size := by omega
  have z1_w1 : w.heap.size + 1 < w1.heap.size := by omega
  have z2_w1 : w.heap.size + 1 + 1 < w1.heap.size := by omega
  have z3_w1 : w.heap.size + 1 + 1 + 1 < w1.heap.size := by omega
  have y_w1 : w.heap.size ≤ w1.heap.size := by omega
  have R1 : Some5 w1 (w.heap.size + 1 + 1) := by
    have := Some5.new ((w.alloc (.cells #[.bool (decide (a < 0)), .int .u64 (d0 a.natAbs), .int .u64 (d1 a.natAbs), .int .u64 (d2 a.natAbs), .int .u64 (d3 a.natAbs)] 90)).alloc (.cells #[.bool (decide (b < 0)), .int .u64 (d0 b.natAbs), .int .u64 (d1 b.natAbs), .int .u64 (d2 b.natAbs), .int .u64 (d3 b.natAbs)] 90)) (.bool false) (.int .u64 0) (.int .u64 0) (.int .u64 0) (.int .u64 0) 90
    simp only [World.size_alloc] at this
    exact (this.alloc (by simp) _).below hb1 (by simp)
  go_wp2_with fail
  refine (Zero_any _ _ _ (by omega) (by omega)).mono ?_
  rw [ZZ.out]
  rintro e w2 ⟨rfl, hb2⟩
  obtain ⟨hc_w2, hf_w2⟩ := bcell hb2
  have z_w2 := hb2.size
  try simp at z_w2
  have z0_w2 : w.heap.size < w2.heap.size := by omega
  have z1_w2 : w.heap.size + 1 < w2.heap.size := by omega
  have z2_w2 : w.heap.size + 1 + 1 < w2.heap.size := by omega
  have z3_w2 : w.heap.size + 1 + 1 + 1 < w2.heap.size := by omega
  have y_w2 : w.heap.size ≤ w2.heap.size := by omega
  have oo : w2.cell? ⟨w.heap.size + 1 + 1 + 1, 0, none⟩ = some (.bool (decide (a < 0))) := by go_simp
  have of : w2.frozen? ⟨w.heap.size + 1 + 1 + 1, 0, none⟩ = false := by go_simp
  have o2 : (w2.setCell ⟨w.heap.size + 1 + 1 + 1, 0, none⟩ (.bool false)).cell? ⟨w.heap.size + 1 + 1 + 1, 0, none⟩ = some (.bool false) := World.cell?_setCell_same _ _ _ oo
  go_wp2_with fail
  refine (Words_any _ _ _ (by omega) (by omega)).mono ?_
  rw [SG.out]
  rintro e w3 ⟨rfl, hb3⟩
  obtain ⟨hc_w3, hf_w3⟩ := bcell hb3
  have z_w3 := hb3.size
  try simp at z_w3
  have z0_w3 : w.heap.size < w3.heap.size := by omega
  have z1_w3 : w.heap.size + 1 < w3.heap.size := by omega
  have z2_w3 : w.heap.size + 1 + 1 < w3.heap.size := by omega
  have z3_w3 : w.heap.size + 1 + 1 + 1 < w3.heap.size := by omega
  have y_w3 : w.heap.size ≤ w3.heap.size := by omega
  have R3 : Some5 w3 (w.heap.size + 1 + 1) := by
    refine Some5.below ?_ hb3 (by simp [World.setCell]; omega)
    repeat (refine Some5.set ?_ _ _)
    refine Some5.below ?_ hb2 (by simp; omega)
    refine Some5.alloc ?_ (by simp [World.setCell]; omega) _
    repeat (refine Some5.set ?_ _ _)
    exact R1
  obtain ⟨⟨v0, t0⟩, ⟨v1, t1⟩, ⟨v2, t2⟩, ⟨v3, t3⟩, ⟨v4, t4⟩⟩ := R3
  go_wp2
  refine bodyPost_ret (v := .tuple #[.agg #[.bool false, .int .u64 0, .int .u64 0, .int .u64 0, .int .u64 0], .bool false]) (by simp [results, Try.results63, go_sem, t0, t1, t2, t3, t4]) rfl ⟨by rw [HS.out.1, HS.out.2]; rfl, by repeat (first | with_reducible refine Below.setCell ?_ (by first | omega | (simp; done) | (simp; omega)) _ | with_reducible refine Below.alloc ?_ (by first | omega | (simp; done) | (simp; omega)) _ | with_reducible refine below_drewN ?_ _ | with_reducible refine Below.drew ?_ | with_reducible exact Below.refl _ _ | with_reducible assumption | with_reducible refine Below.trans ?_ (Below.mono (by assumption) (by first | omega | (simp; done) | (simp; omega))))⟩
end Go.Proofs.Ytllkhgcokbpggaa
namespace Go.Proofs.Ytllkhgcokbpggaa
open Go.RowKit

set_option maxHeartbeats 4000000 in
set_option maxRecDepth 100000 in
theorem rAdd_zero (a b : Int) (w : World) (ha : In128 a) (hb : In128 b) (s : (decide (a < 0) == decide (b < 0)) = false) (lt : (b.natAbs : Int) = a.natAbs) :
    Calls Try.prog 63 #[.agg #[.bool (decide (a < 0)), .int .u64 (d0 (a.natAbs)), .int .u64 (d1 (a.natAbs)), .int .u64 (d2 (a.natAbs)), .int .u64 (d3 (a.natAbs))], .agg #[.bool (decide (b < 0)), .int .u64 (d0 (b.natAbs)), .int .u64 (d1 (b.natAbs)), .int .u64 (d2 (b.natAbs)), .int .u64 (d3 (b.natAbs))]] w fun e w' => e = .returned (.tuple #[.agg #[.bool (decide (clipW (a + b) < 0)), .int .u64 (d0 ((clipW (a + b)).natAbs)), .int .u64 (d1 ((clipW (a + b)).natAbs)), .int .u64 (d2 ((clipW (a + b)).natAbs)), .int .u64 (d3 ((clipW (a + b)).natAbs))], .bool (fitW (a + b))]) ∧ Below w.heap.size w w' := by
  have A := abs128 ha
  have B := abs128 hb
  have tl : decide ((a.natAbs : Int) < b.natAbs) = false := by rw [decide_eq_false_iff_not]; omega
  have pm : ((a.natAbs : Int) - b.natAbs) % 340282366920938463463374607431768211456 = (a.natAbs : Int) - b.natAbs := by omega
  obtain ⟨m, hm⟩ : ∃ m : Int, (a.natAbs : Int) - b.natAbs = m := ⟨_, rfl⟩
  rw [hm] at pm
  have z : a + b = 0 := by by_cases p : a < 0 <;> by_cases q : b < 0 <;> simp [p, q] at s <;> omega
  have SG := Lib.hid (show sgnW false m = a + b by unfold sgnW; simp; omega)
  have M0 := Lib.hid (show 0 ≤ m by omega)
  have M1 := Lib.hid (show m < 340282366920938463463374607431768211456 by omega)
  have ZZ := Lib.hid (show decide (m = 0) = true by rw [decide_eq_true_iff]; omega)
  have FT := Lib.hid (show In128 (a + b) by unfold In128 at ha hb ⊢; by_cases p : a < 0 <;> by_cases q : b < 0 <;> simp [p, q] at s <;> omega)
  have ft : fitW (a + b) = true := (clip_of FT.out).2
  have NV := Lib.hid (show decide (a + b < 0) = false ∧ ((a + b).natAbs : Int) = m from ⟨by rw [z]; decide, by omega⟩)
  have PM := Lib.hid pm
  have HM := Lib.hid hm
  have HA := Lib.hid A
  have HB := Lib.hid B
  clear pm hm A B lt z
  go_enter Try.func63, Try.ntmps63
  go_wp2_with fail
  refine (less_any _ _ _ HA.out.1 HA.out.2 HB.out.1 HB.out.2).mono ?_
  rw [tl]
  rintro e w1 ⟨rfl, hb1⟩
  obtain ⟨hc_w1, hf_w1⟩ := bcell hb1
  have z_w1 := hb1.size
  try simp at z_w1
  have z0_w1 : w.heap.size < w1.heap.size := by omega
  have z1_w1 : w.heap.size + 1 < w1.heap.size := by omega
  have z2_w1 : w.heap.size + 1 + 1 < w1.heap.size := by omega
  have z3_w1 : w.heap.size + 1 + 1 + 1 < w1.heap.size := by omega
  have y_w1 : w.heap.size ≤ w1.heap.size := by omega
  have HB1 : Hid (Below w.heap.size w w1) := Lib.hid (show Below w.heap.size w w1 by repeat (first | with_reducible refine Below.setCell ?_ (by first | omega | (simp; done) | (simp; omega)) _ | with_reducible refine Below.alloc ?_ (by first | omega | (simp; done) | (simp; omega)) _ | with_reducible refine below_drewN ?_ _ | with_reducible refine Below.drew ?_ | with_reducible exact Below.refl _ _ | with_reducible assumption | with_reducible refine Below.trans ?_ (Below.mono (by assumption) (by first | omega | (simp; done) | (simp; omega)))))
  have y1 : w.heap.size ≤ w1.drew.heap.size := y_w1
  have O1 : CellO w1.drew (w.heap.size + 1 + 1 + 1) false 0 0 0 0 := ⟨by go_simp, by go_simp, by go_simp, by go_simp, by go_simp, fun j => by go_simp⟩
  have N1 : CellN w1.drew w.heap.size (decide (a < 0)) a.natAbs := ⟨by go_simp, by go_simp, by go_simp, by go_simp, by go_simp⟩
  have R1 : CellO w1.drew (w.heap.size + 1 + 1) false 0 0 0 0 := ⟨by go_simp, by go_simp, by go_simp, by go_simp, by go_simp, fun j => by go_simp⟩
  go_wp2
  go_region_with (first | (go_at_call 86; refine (rminus_any _ _ _ HA.out.1 HA.out.2 HB.out.1 HB.out.2).mono ?_; rw [HM.out, PM.out]; rintro e w2 ⟨rfl, hb2⟩; have O2 := O1.below hb2 z3_w1; have N2 := N1.below hb2 z0_w1; have k0 := O2.c0; have k1 := O2.c1; have k2 := O2.c2; have k3 := O2.c3; have k4 := O2.c4; have kf := O2.f; have HB2 := Lib.hid ((HB1.out.drew).trans (hb2.mono y1)); have k5 := N2.c0; have R2 := R1.below hb2 z2_w1; obtain ⟨hc_w2, hf_w2⟩ := bcell hb2; have z3_w2 : w.heap.size + 1 + 1 + 1 < w2.heap.size := (by have := hb2.size; simp at this; omega); have z2_w2 : w.heap.size + 1 + 1 < w2.heap.size := (by omega); have z1_w2 : w.heap.size + 1 < w2.heap.size := (by omega); have z0_w2 : w.heap.size < w2.heap.size := (by omega)))
  all_goals
    go_wp2_with fail
    refine (Zero_any _ _ _ M0.out M1.out).mono ?_
    rw [ZZ.out]
    rintro e w3 ⟨rfl, hb3⟩
    obtain ⟨hc_w3, hf_w3⟩ := bcell hb3
    have z3_w3 : w.heap.size + 1 + 1 + 1 < w3.heap.size := by have := hb3.size; simp at this; omega
    have z2_w3 : w.heap.size + 1 + 1 < w3.heap.size := by omega
    go_wp2_with fail
    refine (Words_any _ _ _ M0.out M1.out).mono ?_
    rw [SG.out]
    rintro e w4 ⟨rfl, hb4⟩
    obtain ⟨hc_w4, hf_w4⟩ := bcell hb4
    have z3_w4 : w.heap.size + 1 + 1 + 1 < w4.heap.size := by have := hb4.size; simp [World.setCell] at this; omega
    have z2_w4 : w.heap.size + 1 + 1 < w4.heap.size := by omega
    have r0 := R2.c0
    have r1 := R2.c1
    have r2 := R2.c2
    have r3 := R2.c3
    have r4 := R2.c4
    have rf := R2.f
    go_wp2
    refine bodyPost_ret (v := .tuple #[.agg #[.bool false, .int .u64 (d0 m), .int .u64 (d1 m), .int .u64 (d2 m), .int .u64 (d3 m)], .bool true]) ?_ rfl ?_
    · simp [results, Try.results63, go_sem, hc_w4, hc_w3, r0, r1, r2, r3, r4, z2_w3, z2_w2]
    · refine ⟨by rw [(clip_of FT.out).1, NV.out.1, NV.out.2]; first | rfl | rw [ft], ?_⟩
      repeat (with_reducible refine Below.setCell ?_ (by first | exact Nat.le_refl _ | (show w.heap.size ≤ w.heap.size + 1 + 1; omega)) _)
      refine Below.trans ?_ (hb4.mono (by simp [World.setCell]; omega))
      repeat (with_reducible refine Below.setCell ?_ (by first | exact Nat.le_refl _ | (show w.heap.size ≤ w.heap.size + 1 + 1 + 1; omega)) _)
      refine Below.trans ?_ (hb3.mono (by simp [World.setCell]; omega))
      repeat (with_reducible refine Below.setCell ?_ (by first | exact Nat.le_refl _ | (show w.heap.size ≤ w.heap.size + 1 + 1 + 1; omega)) _)
      exact HB2.out
end Go.Proofs.Ytllkhgcokbpggaa
namespace Go.Proofs.Ytllkhgcokbpggaa
open Go.RowKit

theorem rAdd_any (a b : Int) (w : World) (ha : In128 a) (hb : In128 b) :
    Calls Try.prog 63 #[.agg #[.bool (decide (a < 0)), .int .u64 (d0 (a.natAbs)), .int .u64 (d1 (a.natAbs)), .int .u64 (d2 (a.natAbs)), .int .u64 (d3 (a.natAbs))], .agg #[.bool (decide (b < 0)), .int .u64 (d0 (b.natAbs)), .int .u64 (d1 (b.natAbs)), .int .u64 (d2 (b.natAbs)), .int .u64 (d3 (b.natAbs))]] w fun e w' => e = .returned (.tuple #[.agg #[.bool (decide (clipW (a + b) < 0)), .int .u64 (d0 ((clipW (a + b)).natAbs)), .int .u64 (d1 ((clipW (a + b)).natAbs)), .int .u64 (d2 ((clipW (a + b)).natAbs)), .int .u64 (d3 ((clipW (a + b)).natAbs))], .bool (fitW (a + b))]) ∧ Below w.heap.size w w' := by
  have A := abs128 ha
  have B := abs128 hb
  have ha' := ha
  have hb' := hb
  unfold In128 at ha' hb'
  cases s : (decide (a < 0) == decide (b < 0)) with
  | true =>
    by_cases c : (a.natAbs : Int) + b.natAbs = 340282366920938463463374607431768211456
    · exact rAdd_carry a b w ha hb s c
    · by_cases z : a + b = 0
      · have e : a = 0 ∧ b = 0 := by by_cases p : a < 0 <;> by_cases q : b < 0 <;> simp [p, q] at s <;> omega
        exact rAdd_same0 a b w ha hb e.1 e.2
      · exact rAdd_same a b w ha hb s z (by omega)
  | false =>
    rcases Int.lt_trichotomy (a.natAbs : Int) (b.natAbs : Int) with h | h | h
    · exact rAdd_less a b w ha hb s h
    · exact rAdd_zero a b w ha hb s h.symm
    · exact rAdd_more a b w ha hb s h
end Go.Proofs.Ytllkhgcokbpggaa
