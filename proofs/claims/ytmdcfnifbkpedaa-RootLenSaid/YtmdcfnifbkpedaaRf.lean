/- Of chicanelaw03: awake; the walks of RootSqrt and RootBetween. -/
import Derived.Test.YtmdcfnifbkpedaaBq
import Derived.Test.YtmdcfnifbkpedaaBr
import Derived.Deep.RegionHeld3
import Derived.OpenShut
namespace Go.Proofs.Ytmdcfnifbkpedaa
open Go.RowKit

theorem root_two : sqrtF 8589934592 = 6074000999 := rootI_eq ⟨by omega, by omega, by omega⟩
theorem len_five : lenF (12884901888 * 12884901888 + 17179869184 * 17179869184) = 21474836480 ∧ lenO (12884901888 * 12884901888 + 17179869184 * 17179869184) = false := by
  have h : rootI (12884901888 * 12884901888 + 17179869184 * 17179869184) = 21474836480 := rootI_eq ⟨by omega, by omega, by omega⟩
  have l := len_fit (S := 12884901888 * 12884901888 + 17179869184 * 17179869184) (by omega)
  exact ⟨l.2.1.trans h, l.2.2⟩
set_option maxHeartbeats 1000000 in
theorem rootAwake_any (w : World) :
    Calls Try.prog 16 #[] w fun e w' => e = .returned (.bool true) ∧ Below w.heap.size w w' := by
  go_enter Try.func16, Try.ntmps16
  go_wp2_with fail
  have m0 : MAt (w.alloc (.cells #[.bool false] 41)) w.heap.size 0 false := MAt.new w _ _
  have M0 := Lib.hid m0
  clear m0
  refine (Sqrt_any 8589934592 _ (by omega) (by omega)).mono ?_
  rw [root_two]
  rintro e w1 ⟨rfl, h1⟩
  have M1 := Lib.hid (M0.out.below h1 M0.out.lt)
  have B1 := Lib.hid (((Below.refl w.heap.size w).alloc (Nat.le_refl _) _).trans (h1.mono (by simp)))
  clear h1
  go_wp2_with fail
  refine (Len2_any 12884901888 17179869184 w.heap.size 0 false _ (by omega) (by omega) (by omega) (by omega) M1.out).mono ?_
  rw [len_five.1, len_five.2]
  rintro e w2 ⟨rfl, h2⟩
  have M2 := h2.at M1.out M1.out.lt
  have B2 := Lib.hid (B1.out.trans (h2.below (C := w.heap.size) B1.out.size (Nat.le_refl _)))
  have c2 : w2.cell? ⟨w.heap.size, 0, none⟩ = some (.bool false) := M2.c
  clear h2 M2
  go_wp2
  go_ret
  exact ⟨rfl, B2.out⟩
theorem rsqrt_walk (a : Int) (w : World) (a0 : -9223372036854775808 ≤ a) (a1 : a ≤ 9223372036854775807) :
    Calls Try.prog 4 #[.int .i64 a] w fun e w' => e = .returned (.bool true) ∧ Below w.heap.size w w' := by
  go_enter Try.func4, Try.ntmps4
  go_wp2_with fail
  refine (Sqrt_any a _ a0 a1).mono ?_
  rintro e w1 ⟨rfl, hb1⟩
  obtain ⟨hc_w1, hf_w1⟩ := bcell hb1
  have z_w1 := hb1.size
  try simp at z_w1
  have y_w1 : w.heap.size ≤ w1.heap.size := by omega
  go_wp2_with fail
  refine (rSqrt_any a _ a0 a1).mono ?_
  rintro e w2 ⟨rfl, hb2⟩
  obtain ⟨hc_w2, hf_w2⟩ := bcell hb2
  have z_w2 := hb2.size
  try simp at z_w2
  have y_w2 : w.heap.size ≤ w2.heap.size := by omega
  go_wp2_with fail
  refine (rootAwake_any _).mono ?_
  rintro e w3 ⟨rfl, hb3⟩
  obtain ⟨hc_w3, hf_w3⟩ := bcell hb3
  have z_w3 := hb3.size
  try simp at z_w3
  have y_w3 : w.heap.size ≤ w3.heap.size := by omega
  go_wp2
  go_ret
  exact ⟨rfl, by repeat (first | exact Below.refl _ _ | assumption | refine Below.setCell ?_ (by first | omega | (simp; done) | (simp; omega)) _ | refine Below.alloc ?_ (by first | omega | (simp; done) | (simp; omega)) _ | refine below_drewN ?_ _ | refine Below.drew ?_ | refine Below.trans ?_ (Below.mono (by assumption) (by first | omega | (simp; done) | (simp; omega))))⟩
theorem rsqrt_law (a : Int) (wa : (Lit.int .i64 a).wf = true) (w : World) :
    Calls Try.prog 4 #[.int .i64 a] w fun e w' => e = .returned (.bool true) ∧ Below w.heap.size w w' := by
  have A := bounds_i64 wa
  exact rsqrt_walk a w A.1 A.2
set_option maxHeartbeats 4000000 in
theorem between_walk (a : Int) (w : World) (a0 : -9223372036854775808 ≤ a) (a1 : a ≤ 9223372036854775807) :
    Calls Try.prog 7 #[.int .i64 a] w fun e w' => e = .returned (.bool true) ∧ Below w.heap.size w w' := by
  by_cases p : a ≤ 0
  · have hs : sqrtF a = 0 := rootI_neg (by omega)
    go_enter Try.func7, Try.ntmps7
    go_wp2_with fail
    refine (Sqrt_any a _ a0 a1).mono ?_
    rw [hs]
    rintro e w1 ⟨rfl, hb1⟩
    obtain ⟨hc_w1, hf_w1⟩ := bcell hb1
    have z_w1 := hb1.size
    try simp at z_w1
    have y_w1 : w.heap.size ≤ w1.heap.size := by omega
    go_wp2_with fail
    refine (rootAwake_any _).mono ?_
    rintro e w2 ⟨rfl, hb2⟩
    obtain ⟨hc_w2, hf_w2⟩ := bcell hb2
    have z_w2 := hb2.size
    try simp at z_w2
    have y_w2 : w.heap.size ≤ w2.heap.size := by omega
    go_wp2
    go_ret
    exact ⟨rfl, by repeat (first | exact Below.refl _ _ | assumption | refine Below.setCell ?_ (by first | omega | (simp; done) | (simp; omega)) _ | refine Below.alloc ?_ (by first | omega | (simp; done) | (simp; omega)) _ | refine below_drewN ?_ _ | refine Below.drew ?_ | refine Below.trans ?_ (Below.mono (by assumption) (by first | omega | (simp; done) | (simp; omega))))⟩
  · have K : IsRoot (a * 4294967296) (sqrtF a) := rootI_is (by omega)
    have s9 := (sqrtF_in (a := a) ⟨a0, a1⟩).2
    obtain ⟨s, hs⟩ : ∃ s, sqrtF a = s := ⟨_, rfl⟩
    have HS := Lib.hid hs
    rw [hs] at K s9
    obtain ⟨n, hn⟩ : ∃ n, a * 4294967296 = n := ⟨_, rfl⟩
    have HN := Lib.hid hn
    have i0 : In128 n := by unfold In128; omega
    rw [hn] at K
    have s0 := K.s0
    have l1 : s * s ≤ 281474976710656 * 281474976710656 := Int.mul_le_mul (by omega) (by omega) s0 (by omega)
    have l0 : 0 ≤ s * s := Int.mul_nonneg s0 s0
    have l2 : (s + 1) * (s + 1) = s * s + 2 * s + 1 := by grind
    have i1 : In128 (s * s) := by unfold In128; omega
    have i2 : In128 ((s + 1) * (s + 1)) := by unfold In128; omega
    have t1 : cmpI (s * s) n ≤ 0 := by have := K.lo; unfold cmpI; split <;> (try split) <;> omega
    have t2 : 0 < cmpI ((s + 1) * (s + 1)) n := by have := K.hi; unfold cmpI; rw [if_neg (by omega), if_neg (by omega)]; omega
    have u1 : IntKind.i64.wrap s = s := IntWalk.i64_in _ (by omega)
    have u2 : IntKind.i64.wrap (s + 1) = s + 1 := IntWalk.i64_in _ (by omega)
    have s2 : s + 1 ≤ 9223372036854775807 := by omega
    have s3 : -9223372036854775808 ≤ s + 1 := by omega
    have s4 : s ≤ 9223372036854775807 := by omega
    have s5 : -9223372036854775808 ≤ s := by omega
    clear K l1 l0 l2 hs hn
    go_enter Try.func7, Try.ntmps7
    go_wp2_with fail
    refine (Sqrt_any a _ a0 a1).mono ?_
    rw [HS.out]
    rintro e w1 ⟨rfl, hb1⟩
    obtain ⟨hc_w1, hf_w1⟩ := bcell hb1
    have z_w1 := hb1.size
    try simp at z_w1
    have y_w1 : w.heap.size ≤ w1.heap.size := by omega
    go_wp2_with fail
    refine (Mul_any a 4294967296 _ a0 a1 (by omega) (by omega)).mono ?_
    rw [HN.out]
    rintro e w2 ⟨rfl, hb2⟩
    obtain ⟨hc_w2, hf_w2⟩ := bcell hb2
    have z_w2 := hb2.size
    try simp at z_w2
    have y_w2 : w.heap.size ≤ w2.heap.size := by omega
    have B2 : Below w.heap.size w w2 := by repeat (first | exact Below.refl _ _ | assumption | refine Below.setCell ?_ (by first | omega | (simp; done) | (simp; omega)) _ | refine Below.alloc ?_ (by first | omega | (simp; done) | (simp; omega)) _ | refine below_drewN ?_ _ | refine Below.drew ?_ | refine Below.trans ?_ (Below.mono (by assumption) (by first | omega | (simp; done) | (simp; omega))))
    have HB2 := Lib.hid B2
    have y2 : w.heap.size ≤ w2.heap.size := B2.size
    clear hb1 hb2 hc_w1 hf_w1 hc_w2 hf_w2 B2 p s9
    go_wp2_with fail
    have CN : CellW (w2.alloc (.cells #[.int .i64 (hiW n), .int .u64 (loW n)] 24)) w2.heap.size (hiW n) (loW n) := CellW.new w2 _ _ _
    have B3 := HB2.out.alloc y2 (.cells #[.int .i64 (hiW n), .int .u64 (loW n)] 24)
    have S0 := Lib.hid (start1 (B := w.heap.size) (w := w) CN (by simp) (by simp; omega) B3)
    clear B3 CN
    generalize w2.alloc (.cells #[.int .i64 (hiW n), .int .u64 (loW n)] 24) = W3 at *
    generalize w2.heap.size = n3 at *
    go_region_held3 (fun W => (W.cell? ⟨n3, 0, none⟩ = some (.int .i64 (hiW n)) ∧ W.cell? ⟨n3, 1, none⟩ = some (.int .u64 (loW n))) ∧ n3 < W.heap.size ∧ w.heap.size ≤ W.heap.size ∧ Below w.heap.size w W)
      (first | with_reducible exact keep1 ((Below.refl _ _).drew) S0.out | with_reducible exact keep1 hb (by assumption))
      (first
        | (go_at_call 27; refine (Mul_any _ _ _ (by assumption) (by assumption) (by assumption) (by assumption)).mono ?_; rintro e w5 ⟨rfl, hb⟩)
        | (go_at_call 28; refine (Cmp_n _ _ _ (by assumption) i0).mono ?_; rintro e w5 ⟨rfl, hb⟩)
        | (go_at_call 16; (with_reducible refine (rootAwake_any _).mono ?_); rintro e w5 ⟨rfl, hb⟩))
    all_goals
      go_wp2
      go_ret
      exact ⟨rfl, end1 (by assumption)⟩
theorem between_law (a : Int) (wa : (Lit.int .i64 a).wf = true) (w : World) :
    Calls Try.prog 7 #[.int .i64 a] w fun e w' => e = .returned (.bool true) ∧ Below w.heap.size w w' := by
  have A := bounds_i64 wa
  exact between_walk a w A.1 A.2
end Go.Proofs.Ytmdcfnifbkpedaa
