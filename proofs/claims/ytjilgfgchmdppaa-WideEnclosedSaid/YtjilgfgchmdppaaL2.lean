/- The walk of WideEnclosed. -/
import Derived.Test.YtjilgfgchmdppaaL0
namespace Go.Proofs.Ytjilgfgchmdppaa
open Go.RowKit

set_option maxHeartbeats 4000000 in
theorem enclosed_walk (a : Int) (w : World) (ha : In128 a) :
    Calls Try.prog 10 #[.agg #[.int .i64 (hiW a), .int .u64 (loW a)]] w fun e w' => e = .returned (.bool true) ∧ Below w.heap.size w w' := by
  by_cases p : a < 0
  · have hR := rootI_neg (n := a) (by omega)
    have t := cmpI_lt p
    clear p
    go_enter Try.func10, Try.ntmps10
    go_wp2_with fail
    refine (Root_any _ _ a _ (isW_of ha)).mono ?_
    rw [hR]
    rintro e w1 ⟨rfl, hb1⟩
    obtain ⟨hc_w1, hf_w1⟩ := bcell hb1
    have z_w1 := hb1.size
    try simp at z_w1
    have z0_w1 : w.heap.size < w1.heap.size := by omega
    have y_w1 : w.heap.size ≤ w1.heap.size := by omega
    go_wp2_with fail
    refine (Sign_n a _ ha).mono ?_
    rintro e w2 ⟨rfl, hb2⟩
    obtain ⟨hc_w2, hf_w2⟩ := bcell hb2
    have z_w2 := hb2.size
    try simp at z_w2
    have z0_w2 : w.heap.size < w2.heap.size := by omega
    have y_w2 : w.heap.size ≤ w2.heap.size := by omega
    go_wp2_with fail
    refine (awake_any _).mono ?_
    rintro e w3 ⟨rfl, hb3⟩
    obtain ⟨hc_w3, hf_w3⟩ := bcell hb3
    have z_w3 := hb3.size
    try simp at z_w3
    have z0_w3 : w.heap.size < w3.heap.size := by omega
    have y_w3 : w.heap.size ≤ w3.heap.size := by omega
    go_wp2
    go_ret
    exact ⟨rfl, by repeat (first | exact Below.refl _ _ | assumption | refine Below.setCell ?_ (by first | omega | (simp; done) | (simp; omega)) _ | refine Below.alloc ?_ (by first | omega | (simp; done) | (simp; omega)) _ | refine below_drewN ?_ _ | refine Below.drew ?_ | refine Below.trans ?_ (Below.mono (by assumption) (by first | omega | (simp; done) | (simp; omega))))⟩
  · have K := rootI_is (n := a) (by omega)
    obtain ⟨s, hs⟩ : ∃ s, rootI a = s := ⟨_, rfl⟩
    rw [hs] at K
    have s0 := K.s0
    have t : ¬ cmpI a 0 < 0 := by have := cmpI_ge (show 0 ≤ a by omega); omega
    have HK := Lib.hid K
    have s1 := root_small K (by unfold In128 at ha; omega)
    clear K
    by_cases q : 4611686018427387904 ≤ s
    · have t1 : (s == 0) = false := by simp; omega
      have t2 : 0 < cmpI a 0 := by
        have := HK.out.lo
        have h3 : s * 1 ≤ s * s := Int.mul_le_mul_of_nonneg_left (by omega) (by omega)
        unfold cmpI; rw [if_neg (by omega), if_neg (by omega)]; omega
      clear p
      go_enter Try.func10, Try.ntmps10
      go_wp2_with fail
      refine (Root_any _ _ a _ (isW_of ha)).mono ?_
      rw [hs]
      rintro e w1 ⟨rfl, hb1⟩
      obtain ⟨hc_w1, hf_w1⟩ := bcell hb1
      have z_w1 := hb1.size
      try simp at z_w1
      have z0_w1 : w.heap.size < w1.heap.size := by omega
      have y_w1 : w.heap.size ≤ w1.heap.size := by omega
      go_wp2_with fail
      refine (Sign_n a _ ha).mono ?_
      rintro e w2 ⟨rfl, hb2⟩
      obtain ⟨hc_w2, hf_w2⟩ := bcell hb2
      have z_w2 := hb2.size
      try simp at z_w2
      have z0_w2 : w.heap.size < w2.heap.size := by omega
      have y_w2 : w.heap.size ≤ w2.heap.size := by omega
      go_wp2_with fail
      refine (awake_any _).mono ?_
      rintro e w3 ⟨rfl, hb3⟩
      obtain ⟨hc_w3, hf_w3⟩ := bcell hb3
      have z_w3 := hb3.size
      try simp at z_w3
      have z0_w3 : w.heap.size < w3.heap.size := by omega
      have y_w3 : w.heap.size ≤ w3.heap.size := by omega
      go_wp2
      go_ret
      exact ⟨rfl, by repeat (first | exact Below.refl _ _ | assumption | refine Below.setCell ?_ (by first | omega | (simp; done) | (simp; omega)) _ | refine Below.alloc ?_ (by first | omega | (simp; done) | (simp; omega)) _ | refine below_drewN ?_ _ | refine Below.drew ?_ | refine Below.trans ?_ (Below.mono (by assumption) (by first | omega | (simp; done) | (simp; omega))))⟩
    · have l1 : s * s ≤ 4611686018427387904 * 4611686018427387904 := Int.mul_le_mul (by omega) (by omega) s0 (by omega)
      have l0 : 0 ≤ s * s := Int.mul_nonneg s0 s0
      have l2 : (s + 1) * (s + 1) = s * s + 2 * s + 1 := by grind
      have i1 : In128 (s * s) := by unfold In128; omega
      have i2 : In128 ((s + 1) * (s + 1)) := by unfold In128; omega
      have t1 : cmpI (s * s) a ≤ 0 := by have := HK.out.lo; unfold cmpI; split <;> (try split) <;> omega
      have t2 : 0 < cmpI ((s + 1) * (s + 1)) a := by have := HK.out.hi; unfold cmpI; rw [if_neg (by omega), if_neg (by omega)]; omega
      have u1 : IntKind.i64.wrap s = s := IntWalk.i64_in _ (by omega)
      have u2 : IntKind.i64.wrap (s + 1) = s + 1 := IntWalk.i64_in _ (by omega)
      have s2 : s + 1 ≤ 9223372036854775807 := by omega
      have s3 : -9223372036854775808 ≤ s + 1 := by omega
      have s4 : s ≤ 9223372036854775807 := by omega
      have s5 : -9223372036854775808 ≤ s := by omega
      clear p l1 l0 l2
      go_enter Try.func10, Try.ntmps10
      go_wp2_with fail
      refine (Root_any _ _ a _ (isW_of ha)).mono ?_
      rw [hs]
      rintro e w1 ⟨rfl, hb1⟩
      obtain ⟨hc_w1, hf_w1⟩ := bcell hb1
      have z_w1 := hb1.size
      try simp at z_w1
      have z0_w1 : w.heap.size < w1.heap.size := by omega
      have y_w1 : w.heap.size ≤ w1.heap.size := by omega
      go_wp2_with fail
      refine (Sign_n a _ ha).mono ?_
      rintro e w2 ⟨rfl, hb2⟩
      obtain ⟨hc_w2, hf_w2⟩ := bcell hb2
      have z_w2 := hb2.size
      try simp at z_w2
      have z0_w2 : w.heap.size < w2.heap.size := by omega
      have y_w2 : w.heap.size ≤ w2.heap.size := by omega
      go_wp2_with fail
      have C : CellW w2 w.heap.size (hiW a) (loW a) := ((CellW.new w _ _ _).below hb1 (by simp)).below hb2 (by omega)
      have HS := Lib.hid (start1 (B := w.heap.size) (w := w) C z0_w2 y_w2 (by repeat (first | exact Below.refl _ _ | assumption | refine Below.setCell ?_ (by first | omega | (simp; done) | (simp; omega)) _ | refine Below.alloc ?_ (by first | omega | (simp; done) | (simp; omega)) _ | refine below_drewN ?_ _ | refine Below.drew ?_ | refine Below.trans ?_ (Below.mono (by assumption) (by first | omega | (simp; done) | (simp; omega))))))
      clear hc_w1 hf_w1 hc_w2 hf_w2 hb1 hb2 z_w1 z_w2 y_w1 y_w2 C
      go_region_held3 (fun W => (W.cell? ⟨w.heap.size, 0, none⟩ = some (.int .i64 (hiW a)) ∧ W.cell? ⟨w.heap.size, 1, none⟩ = some (.int .u64 (loW a))) ∧ w.heap.size < W.heap.size ∧ w.heap.size ≤ W.heap.size ∧ Below w.heap.size w W)
        (first | exact keep1 ((Below.refl _ _).drew) HS.out | exact keep1 hb (by assumption))
        (first
          | (go_at_call 12; refine (Mul_any _ _ _ (by assumption) (by assumption) (by assumption) (by assumption)).mono ?_; rintro e w' ⟨rfl, hb⟩)
          | (go_at_call 23; refine (Cmp_n _ _ _ (by assumption) ha).mono ?_; rintro e w' ⟨rfl, hb⟩)
          | (go_at_call 16; refine (awake_any _).mono ?_; rintro e w' ⟨rfl, hb⟩))
      go_wp2
      go_ret
      exact ⟨rfl, end1 (by assumption)⟩

theorem enclosed_law (h l : Int) (wh : (Lit.int .i64 h).wf = true) (wl : (Lit.int .u64 l).wf = true) (w : World) :
    Calls Try.prog 10 #[.agg #[.int .i64 h, .int .u64 l]] w fun e w' => e = .returned (.bool true) ∧ Below w.heap.size w w' := by
  obtain ⟨a, rfl, rfl, ha⟩ := wide_of wh wl
  exact enclosed_walk a w ha
end Go.Proofs.Ytjilgfgchmdppaa
