/- The walk of WideAdd. -/
import Derived.Test.YtbigjdhehaihoaaLs
namespace Go.Proofs.Ytbigjdhehaihoaa
open Go.RowKit

set_option maxRecDepth 100000 in
set_option maxHeartbeats 16000000 in
theorem wadd_walk (a b : Int) (w : World) (ha : In128 a) (hb' : In128 b) :
    Calls Try.prog 3 #[.agg #[.int .i64 (hiW a), .int .u64 (loW a)], .agg #[.int .i64 (hiW b), .int .u64 (loW b)]] w fun e w' => e = .returned (.bool true) ∧ Below w.heap.size w w' := by
  obtain ⟨S, hS⟩ : ∃ S, clipW (a + b) = S := ⟨_, rfl⟩
  obtain ⟨f, hf⟩ : ∃ f, fitW (a + b) = f := ⟨_, rfl⟩
  have IS := Lib.hid (show In128 S by rw [← hS]; exact clipW_in _)
  have HSF := Lib.hid (And.intro hS hf)
  clear hS hf
  go_enter Try.func3, Try.ntmps3
  go_wp2_with fail
  refine (Add_any _ _ _ _ a b _ (isW_of ha) (isW_of hb')).mono ?_
  rw [HSF.out.1, HSF.out.2]
  rintro e w1 ⟨rfl, hb1⟩
  obtain ⟨hc_w1, hf_w1⟩ := bcell hb1
  have z_w1 := hb1.size
  try simp at z_w1
  have z0_w1 : w.heap.size < w1.heap.size := by omega
  have z1_w1 : w.heap.size + 1 < w1.heap.size := by omega
  have y_w1 : w.heap.size ≤ w1.heap.size := by omega
  have CA : CellW w1 w.heap.size (hiW a) (loW a) := ((CellW.new w _ _ _).alloc (by simp) _).below hb1 (by simp; omega)
  have CB : CellW w1 (w.heap.size + 1) (hiW b) (loW b) := (CellW.newAt _ _ _ (by simp)).below hb1 (by simp)
  have B1 : Below w.heap.size w w1 := by repeat (first | exact Below.refl _ _ | assumption | refine Below.setCell ?_ (by first | omega | (simp; done) | (simp; omega)) _ | refine Below.alloc ?_ (by first | omega | (simp; done) | (simp; omega)) _ | refine below_drewN ?_ _ | refine Below.drew ?_ | refine Below.trans ?_ (Below.mono (by assumption) (by first | omega | (simp; done) | (simp; omega))))
  have W1 := Lib.hid B1
  have z1 := z1_w1
  clear hc_w1 hf_w1 hb1 z_w1 z0_w1 z1_w1 y_w1 B1
  go_wp2_with fail
  have CS : CellW (w1.alloc (.cells #[.int .i64 (hiW S), .int .u64 (loW S)] 24)) w1.heap.size (hiW S) (loW S) := CellW.new w1 _ _ _
  have CA1 := CA.alloc (by omega) (.cells #[.int .i64 (hiW S), .int .u64 (loW S)] 24)
  have CB1 := CB.alloc (by omega) (.cells #[.int .i64 (hiW S), .int .u64 (loW S)] 24)
  have W2 := Lib.hid (W1.out.alloc (by omega) (.cells #[.int .i64 (hiW S), .int .u64 (loW S)] 24))
  have zs : w1.heap.size < (w1.alloc (.cells #[.int .i64 (hiW S), .int .u64 (loW S)] 24)).heap.size := by simp
  generalize w1.alloc (.cells #[.int .i64 (hiW S), .int .u64 (loW S)] 24) = W0 at *
  generalize w1.heap.size = n5 at *
  have a0 := CA1.c0
  have a1 := CA1.c1
  have b0 := CB1.c0
  have b1 := CB1.c1
  have HA := Lib.hid CA1
  have HB := Lib.hid CB1
  have HS := Lib.hid CS
  clear CA1 CB1 CS CA CB W1
  have za : w.heap.size < W0.heap.size := by omega
  have zb : w.heap.size + 1 < W0.heap.size := by omega
  go_cut [7, 8] (fun s t W => MadeN W0 S f s t W)
  case first =>
    have SS := Lib.hid (startS W0 w.heap.size (w.heap.size + 1) HA.out HB.out za zb)
    go_region_held3 (fun W => ((W.cell? ⟨w.heap.size, 0, none⟩ = some (.int .i64 (hiW a)) ∧ W.cell? ⟨w.heap.size, 1, none⟩ = some (.int .u64 (loW a))) ∧ (W.cell? ⟨w.heap.size + 1, 0, none⟩ = some (.int .i64 (hiW b)) ∧ W.cell? ⟨w.heap.size + 1, 1, none⟩ = some (.int .u64 (loW b))) ∧ w.heap.size < W.heap.size ∧ w.heap.size + 1 < W.heap.size ∧ w.heap.size < W0.heap.size ∧ w.heap.size + 1 < W0.heap.size ∧ Below W0.heap.size W0 W))
      (first | with_reducible exact keepD SS.out | with_reducible exact keepD (keepA _ SS.out) | with_reducible exact keepA _ (by assumption) | with_reducible exact keepS hb (by assumption) | with_reducible exact keepQ (by omega) (by assumption) | with_reducible exact keepP (by omega) (by assumption))
      (first
        | (go_at_call_of 15 (hiW a); (with_reducible refine (of_any a _ ha).mono ?_); rintro e w5 ⟨rfl, hb⟩; have hb5 := hb; have z5 : W0.heap.size ≤ w5.heap.size := (by have := hb.size; (try simp at this); omega); (try (have z5b : W0.heap.size < w5.heap.size := (by have := hb.size; (try simp at this); omega))); obtain ⟨hc_w5, hf_w5⟩ := bcell hb)
        | (go_at_call_of 15 (hiW b); (with_reducible refine (of_any b _ hb').mono ?_); rintro e w6 ⟨rfl, hb⟩; have hb6 := hb; have z6 : W0.heap.size ≤ w6.heap.size := (by have := hb.size; (try simp at this); omega); (try (have z6b : W0.heap.size < w6.heap.size := (by have := hb.size; (try simp at this); omega))); (try (have z6c : w5.heap.size < w6.heap.size := (by have := hb.size; (try simp at this); omega))); obtain ⟨hc_w6, hf_w6⟩ := bcell hb)
        | (go_at_call 14; (with_reducible refine (rAdd_any a b _ ha hb').mono ?_); rw [HSF.out.1, HSF.out.2]; rintro e w7 ⟨rfl, hb⟩; have hb7 := hb; have z7 : W0.heap.size ≤ w7.heap.size := (by have := hb.size; (try simp at this); omega); (try (have z7b : W0.heap.size < w7.heap.size := (by have := hb.size; (try simp at this); omega))); (try (have z7c : w5.heap.size < w7.heap.size := (by have := hb.size; (try simp at this); omega))); (try (have z7d : w6.heap.size < w7.heap.size := (by have := hb.size; (try simp at this); omega))); obtain ⟨hc_w7, hf_w7⟩ := bcell hb))
    all_goals
      go_wp2_with fail
      go_meet
      refine ⟨_, rfl, rfl, ?_, ?_, ?_, ?_⟩
      · first
          | with_reducible exact CellN.new _ _ _ _
          | with_reducible exact cellN_put ((CellO.newAt (w := w6) _ (by rfl)).below hb7 (by simp)) _ _
          | with_reducible exact cellN_put (((CellO.newAt (w := w5) _ (by rfl)).below hb6 (by simp)).below hb7 (by omega)) _ _
          | with_reducible exact cellN_put (((((CellO.newAt (w := W0) _ (by rfl)).drew).below hb5 (by first | (simp; done) | (show W0.heap.size < (W0.alloc _).heap.size; simp))).below hb6 (by omega)).below hb7 (by omega)) _ _
      · omega
      · first | (simp; done) | (simp [World.setCell]; done) | (simp [World.setCell]; omega)
      · repeat (first | with_reducible refine Below.setCell ?_ (by first | omega | (simp; done) | (simp; omega)) _ | with_reducible refine Below.alloc ?_ (by first | omega | (simp; done) | (simp; omega)) _ | with_reducible refine below_drewN ?_ _ | with_reducible refine Below.drew ?_ | with_reducible exact Below.refl _ _ | with_reducible assumption | with_reducible refine Below.trans ?_ (Below.mono (by assumption) (by first | omega | (simp; done) | (simp; omega))))
  case rest =>
    obtain ⟨g, rfl, rfl, CN, zg0, zg, BW⟩ := hcut
    have HB0 := Lib.hid (W2.out.trans (BW.mono (by omega)))
    have HA1 := Lib.hid (HA.out.below BW za)
    have HS1 := Lib.hid (HS.out.below BW zs)
    have HN1 := Lib.hid CN
    have yw : W0.heap.size ≤ wc.heap.size := BW.size
    clear BW CN
    have za1 : w.heap.size < wc.heap.size := by omega
    have zs1 : n5 < wc.heap.size := by omega
    have HNU := Lib.hid (show clipW (-a) = clipW (-a) ∧ fitW (-a) = fitW (-a) from ⟨rfl, rfl⟩)
    obtain ⟨N, hN⟩ : ∃ N, clipW (-a) = N := ⟨_, rfl⟩
    obtain ⟨u, hu⟩ : ∃ u, fitW (-a) = u := ⟨_, rfl⟩
    have AB := abs128 ha
    have NU := Lib.hid (And.intro hN hu)
    have AB0 := Lib.hid AB
    clear HNU hN hu AB
    have c0 := HA1.out.c0
    have c1 := HA1.out.c1
    go_wp2_with fail
    refine (Neg_any _ _ a _ (isW_of ha)).mono ?_
    rw [NU.out.1, NU.out.2]
    rintro e w3 ⟨rfl, hb3⟩
    have HB3 := Lib.hid (HB0.out.trans (hb3.mono (by omega)))
    have A3 := Lib.hid (HA1.out.below hb3 za1)
    have S3 := Lib.hid (HS1.out.below hb3 zs1)
    have N3 := Lib.hid (HN1.out.below hb3 zg)
    have y3 : wc.heap.size ≤ w3.heap.size := hb3.size
    have za3 : w.heap.size < w3.heap.size := by omega
    have zs3 : n5 < w3.heap.size := by omega
    have zg3 : g < w3.heap.size := by omega
    clear hb3 c0 c1
    have c0 := A3.out.c0
    have c1 := A3.out.c1
    go_wp2_with fail
    refine (of_any a _ ha).mono ?_
    rintro e w4 ⟨rfl, hb4⟩
    have K4 : Below w3.heap.size w3 w4 := ((Below.refl _ _).alloc (Nat.le_refl _) _).trans (hb4.mono (by simp))
    have HB4 := Lib.hid (HB3.out.trans (K4.mono (by omega)))
    have S4 := Lib.hid (S3.out.below K4 zs3)
    have N4 := Lib.hid (N3.out.below K4 zg3)
    have U4 := Lib.hid ((CellW.new w3 (hiW N) (loW N) 24).below hb4 (by simp))
    have y4 : w3.heap.size < w4.heap.size := by have := hb4.size; simp at this; omega
    have zs4 : n5 < w4.heap.size := by omega
    have zg4 : g < w4.heap.size := by omega
    obtain ⟨n9, hn9⟩ : ∃ n9, w3.heap.size = n9 := ⟨_, rfl⟩
    rw [hn9] at U4 y4 ⊢
    clear hb4 K4 c0 c1 hn9
    by_cases z : a = 0
    · have da : decide (a < 0) = false := by rw [decide_eq_false_iff_not]; omega
      have Z := Lib.hid (show decide ((a.natAbs : Int) = 0) = true by rw [decide_eq_true_iff]; omega)
      have SG := Lib.hid (show sgnW false a.natAbs = -a by unfold sgnW; simp; omega)
      clear z
      go_wp2_with fail
      refine (Zero_any _ _ _ AB0.out.1 AB0.out.2).mono ?_
      rw [Z.out]
      rintro e w5 ⟨rfl, hb5⟩
      have K5 : Below w4.heap.size w4 w5 := ((Below.refl _ _).alloc (Nat.le_refl _) _).trans (hb5.mono (by simp))
      have HB5 := Lib.hid (HB4.out.trans (K5.mono (by omega)))
      have S5 := Lib.hid (S4.out.below K5 zs4)
      have N5 := Lib.hid (N4.out.below K5 zg4)
      have U5 := Lib.hid (U4.out.below K5 y4)
      have y5 : w4.heap.size < w5.heap.size := by have := hb5.size; simp at this; omega
      clear K5
      have oo : w5.cell? ⟨w4.heap.size, 0, none⟩ = some (.bool true) := (hb5.cell (p := ⟨w4.heap.size, 0, none⟩) (by simp)).trans (World.cell?_alloc_new w4 _ _ 0)
      have of : w5.frozen? ⟨w4.heap.size, 0, none⟩ = false := (hb5.frozen (p := ⟨w4.heap.size, 0, none⟩) (by simp)).trans (by go_simp)
      have p1 : w5.cell? ⟨w4.heap.size, 1, none⟩ = some (.int .u64 (d0 a.natAbs)) := (hb5.cell (p := ⟨w4.heap.size, 1, none⟩) (by simp)).trans (World.cell?_alloc_new w4 _ _ 1)
      have p2 : w5.cell? ⟨w4.heap.size, 2, none⟩ = some (.int .u64 (d1 a.natAbs)) := (hb5.cell (p := ⟨w4.heap.size, 2, none⟩) (by simp)).trans (World.cell?_alloc_new w4 _ _ 2)
      have p3 : w5.cell? ⟨w4.heap.size, 3, none⟩ = some (.int .u64 (d2 a.natAbs)) := (hb5.cell (p := ⟨w4.heap.size, 3, none⟩) (by simp)).trans (World.cell?_alloc_new w4 _ _ 3)
      have p4 : w5.cell? ⟨w4.heap.size, 4, none⟩ = some (.int .u64 (d3 a.natAbs)) := (hb5.cell (p := ⟨w4.heap.size, 4, none⟩) (by simp)).trans (World.cell?_alloc_new w4 _ _ 4)
      have o2 : (w5.setCell ⟨w4.heap.size, 0, none⟩ (.bool false)).cell? ⟨w4.heap.size, 0, none⟩ = some (.bool false) := World.cell?_setCell_same _ _ _ oo
      clear hb5
      go_wp2_with fail
      refine (Words_any _ _ _ AB0.out.1 AB0.out.2).mono ?_
      rw [SG.out, NU.out.1, NU.out.2]
      rintro e w6 ⟨rfl, hb6⟩
      have K6 : Below w4.heap.size w5 w6 := ((Below.refl w4.heap.size w5).setCell (p := ⟨w4.heap.size, 0, none⟩) (Nat.le_refl _) _).trans (hb6.mono (by simp [World.setCell]; omega))
      have HB6 := Lib.hid (HB5.out.trans (K6.mono (by omega)))
      have S6 := S5.out.below K6 zs4
      have N6 := N5.out.below K6 zg4
      have U6 := Lib.hid (U5.out.below K6 y4)
      have y6 : w5.heap.size ≤ w6.heap.size := K6.size
      have s0 := S6.c0
      have s1 := S6.c1
      have q0 := N6.c0
      have q1 := N6.c1
      have q2 := N6.c2
      have q3 := N6.c3
      have q4 := N6.c4
      clear K6 S6 N6 hb6
      go_wp2_with fail
      refine (same_yes S _ IS.out).mono ?_
      rintro e w7 ⟨rfl, hb7⟩
      have HB7 := Lib.hid (HB6.out.trans (hb7.mono (by omega)))
      have U7 := U6.out.below hb7 (by omega)
      have t0 := U7.c0
      have t1 := U7.c1
      clear U7 hb7 s0 s1 q0 q1 q2 q3 q4
      go_wp2_with fail
      refine (awake_any _).mono ?_
      rintro e w8 ⟨rfl, hb8⟩
      have HB8 := Lib.hid (HB7.out.trans (hb8.mono HB7.out.size))
      clear hb8
      go_wp2
      go_ret
      exact ⟨rfl, HB8.out⟩
    · have Z := Lib.hid (show decide ((a.natAbs : Int) = 0) = false by rw [decide_eq_false_iff_not]; omega)
      obtain ⟨nb, hnb⟩ : ∃ nb, (!decide (a < 0)) = nb := ⟨_, rfl⟩
      have SG := Lib.hid (show sgnW nb a.natAbs = -a by rw [← hnb]; unfold sgnW; by_cases p : a < 0 <;> simp [p] <;> omega)
      clear z
      go_wp2_with fail
      refine (Zero_any _ _ _ AB0.out.1 AB0.out.2).mono ?_
      rw [Z.out]
      rintro e w5 ⟨rfl, hb5⟩
      have K5 : Below w4.heap.size w4 w5 := ((Below.refl _ _).alloc (Nat.le_refl _) _).trans (hb5.mono (by simp))
      have HB5 := Lib.hid (HB4.out.trans (K5.mono (by omega)))
      have S5 := Lib.hid (S4.out.below K5 zs4)
      have N5 := Lib.hid (N4.out.below K5 zg4)
      have U5 := Lib.hid (U4.out.below K5 y4)
      have y5 : w4.heap.size < w5.heap.size := by have := hb5.size; simp at this; omega
      clear K5
      have oo : w5.cell? ⟨w4.heap.size, 0, none⟩ = some (.bool nb) := (hb5.cell (p := ⟨w4.heap.size, 0, none⟩) (by simp)).trans (World.cell?_alloc_new w4 _ _ 0)
      have p1 : w5.cell? ⟨w4.heap.size, 1, none⟩ = some (.int .u64 (d0 a.natAbs)) := (hb5.cell (p := ⟨w4.heap.size, 1, none⟩) (by simp)).trans (World.cell?_alloc_new w4 _ _ 1)
      have p2 : w5.cell? ⟨w4.heap.size, 2, none⟩ = some (.int .u64 (d1 a.natAbs)) := (hb5.cell (p := ⟨w4.heap.size, 2, none⟩) (by simp)).trans (World.cell?_alloc_new w4 _ _ 2)
      have p3 : w5.cell? ⟨w4.heap.size, 3, none⟩ = some (.int .u64 (d2 a.natAbs)) := (hb5.cell (p := ⟨w4.heap.size, 3, none⟩) (by simp)).trans (World.cell?_alloc_new w4 _ _ 3)
      have p4 : w5.cell? ⟨w4.heap.size, 4, none⟩ = some (.int .u64 (d3 a.natAbs)) := (hb5.cell (p := ⟨w4.heap.size, 4, none⟩) (by simp)).trans (World.cell?_alloc_new w4 _ _ 4)
      clear hb5
      go_wp2_with fail
      refine (Words_any _ _ _ AB0.out.1 AB0.out.2).mono ?_
      rw [SG.out, NU.out.1, NU.out.2]
      rintro e w6 ⟨rfl, hb6⟩
      have K6 : Below w4.heap.size w5 w6 := hb6.mono (by omega)
      have HB6 := Lib.hid (HB5.out.trans (K6.mono (by omega)))
      have S6 := S5.out.below K6 zs4
      have N6 := N5.out.below K6 zg4
      have U6 := Lib.hid (U5.out.below K6 y4)
      have y6 : w5.heap.size ≤ w6.heap.size := K6.size
      have s0 := S6.c0
      have s1 := S6.c1
      have q0 := N6.c0
      have q1 := N6.c1
      have q2 := N6.c2
      have q3 := N6.c3
      have q4 := N6.c4
      clear K6 S6 N6 hb6
      go_wp2_with fail
      refine (same_yes S _ IS.out).mono ?_
      rintro e w7 ⟨rfl, hb7⟩
      have HB7 := Lib.hid (HB6.out.trans (hb7.mono (by omega)))
      have U7 := U6.out.below hb7 (by omega)
      have t0 := U7.c0
      have t1 := U7.c1
      clear U7 hb7 s0 s1 q0 q1 q2 q3 q4
      go_wp2_with fail
      refine (awake_any _).mono ?_
      rintro e w8 ⟨rfl, hb8⟩
      have HB8 := Lib.hid (HB7.out.trans (hb8.mono HB7.out.size))
      clear hb8
      go_wp2
      go_ret
      exact ⟨rfl, HB8.out⟩
theorem wadd_law (h l k m : Int) (wh : (Lit.int .i64 h).wf = true) (wl : (Lit.int .u64 l).wf = true) (wk : (Lit.int .i64 k).wf = true) (wm : (Lit.int .u64 m).wf = true) (w : World) :
    Calls Try.prog 3 #[.agg #[.int .i64 h, .int .u64 l], .agg #[.int .i64 k, .int .u64 m]] w fun e w' => e = .returned (.bool true) ∧ Below w.heap.size w w' := by
  obtain ⟨a, rfl, rfl, ha⟩ := wide_of wh wl
  obtain ⟨b, rfl, rfl, hb⟩ := wide_of wk wm
  exact wadd_walk a b w ha hb
end Go.Proofs.Ytbigjdhehaihoaa
