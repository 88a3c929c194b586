/- Contracts of the document's answers: of, Sign, Cmp. -/
import Derived.Test.YtjilgfgchmdppaaFb
import Derived.Test.YtjilgfgchmdppaaL0
namespace Go.Proofs.Ytjilgfgchmdppaa
open Go.RowKit

theorem abs128 {n : Int} (h : In128 n) : (0 : Int) ≤ n.natAbs ∧ (n.natAbs : Int) < 340282366920938463463374607431768211456 := by
  unfold In128 at h; omega

theorem of_any (n : Int) (w : World) (h : In128 n) :
    Calls Try.prog 19 #[.agg #[.int .i64 (hiW n), .int .u64 (loW n)]] w fun e w' => e = .returned (.agg #[.bool (decide (n < 0)), .int .u64 (d0 (n.natAbs)), .int .u64 (d1 (n.natAbs)), .int .u64 (d2 (n.natAbs)), .int .u64 (d3 (n.natAbs))]) ∧ Below w.heap.size w w' := by
  go_enter Try.func19, Try.ntmps19
  go_wp2_with fail
  refine (From_any _ _ n _ (isW_of h)).mono ?_
  rintro e w1 ⟨rfl, hb1⟩
  obtain ⟨hc_w1, hf_w1⟩ := bcell hb1
  have z_w1 := hb1.size
  try simp at z_w1
  have z0_w1 : w.heap.size < w1.heap.size := by omega
  have z1_w1 : w.heap.size + 1 < w1.heap.size := by omega
  have y_w1 : w.heap.size ≤ w1.heap.size := by omega
  go_wp2
  exact bodyPost_ret (v := .agg #[.bool (decide (n < 0)), .int .u64 (d0 (n.natAbs)), .int .u64 (d1 (n.natAbs)), .int .u64 (d2 (n.natAbs)), .int .u64 (d3 (n.natAbs))]) (by simp [results, Try.results19, go_sem, hc_w1]) rfl ⟨rfl, by repeat (first | exact Below.refl _ _ | assumption | refine Below.setCell ?_ (by first | omega | (simp; done) | (simp; omega)) _ | refine Below.alloc ?_ (by first | omega | (simp; done) | (simp; omega)) _ | refine below_drewN ?_ _ | refine Below.drew ?_ | refine Below.trans ?_ (Below.mono (by assumption) (by first | omega | (simp; done) | (simp; omega))))⟩

theorem rSign_any (n : Int) (w : World) (h : In128 n) :
    Calls Try.prog 26 #[.agg #[.bool (decide (n < 0)), .int .u64 (d0 (n.natAbs)), .int .u64 (d1 (n.natAbs)), .int .u64 (d2 (n.natAbs)), .int .u64 (d3 (n.natAbs))]] w fun e w' => e = .returned (.int .i64 (cmpI n 0)) ∧ Below w.heap.size w w' := by
  have A := abs128 h
  by_cases p : n = 0
  · have z : decide ((n.natAbs : Int) = 0) = true := by rw [decide_eq_true_iff]; omega
    have K := Lib.hid (show 0 = cmpI n 0 by unfold cmpI; rw [if_pos p])
    clear p
    go_enter Try.func26, Try.ntmps26
    go_wp2_with fail
    refine (Zero_any _ _ _ A.1 A.2).mono ?_
    rw [z]
    rintro e w1 ⟨rfl, hb1⟩
    obtain ⟨hc_w1, hf_w1⟩ := bcell hb1
    have z_w1 := hb1.size
    try simp at z_w1
    have z0_w1 : w.heap.size < w1.heap.size := by omega
    have y_w1 : w.heap.size ≤ w1.heap.size := by omega
    go_wp2
    go_ret
    exact ⟨retI K.out, by repeat (first | exact Below.refl _ _ | assumption | refine Below.setCell ?_ (by first | omega | (simp; done) | (simp; omega)) _ | refine Below.alloc ?_ (by first | omega | (simp; done) | (simp; omega)) _ | refine below_drewN ?_ _ | refine Below.drew ?_ | refine Below.trans ?_ (Below.mono (by assumption) (by first | omega | (simp; done) | (simp; omega))))⟩
  · have z : decide ((n.natAbs : Int) = 0) = false := by rw [decide_eq_false_iff_not]; omega
    by_cases q : n < 0
    · have K := Lib.hid (show -1 = cmpI n 0 by unfold cmpI; rw [if_neg p, if_pos q])
      clear p
      go_enter Try.func26, Try.ntmps26
      go_wp2_with fail
      refine (Zero_any _ _ _ A.1 A.2).mono ?_
      rw [z]
      rintro e w1 ⟨rfl, hb1⟩
      obtain ⟨hc_w1, hf_w1⟩ := bcell hb1
      have z_w1 := hb1.size
      try simp at z_w1
      have z0_w1 : w.heap.size < w1.heap.size := by omega
      have y_w1 : w.heap.size ≤ w1.heap.size := by omega
      go_wp2
      go_ret
      exact ⟨retI K.out, by repeat (first | exact Below.refl _ _ | assumption | refine Below.setCell ?_ (by first | omega | (simp; done) | (simp; omega)) _ | refine Below.alloc ?_ (by first | omega | (simp; done) | (simp; omega)) _ | refine below_drewN ?_ _ | refine Below.drew ?_ | refine Below.trans ?_ (Below.mono (by assumption) (by first | omega | (simp; done) | (simp; omega))))⟩
    · have K := Lib.hid (show 1 = cmpI n 0 by unfold cmpI; rw [if_neg p, if_neg q])
      clear p
      go_enter Try.func26, Try.ntmps26
      go_wp2_with fail
      refine (Zero_any _ _ _ A.1 A.2).mono ?_
      rw [z]
      rintro e w1 ⟨rfl, hb1⟩
      obtain ⟨hc_w1, hf_w1⟩ := bcell hb1
      have z_w1 := hb1.size
      try simp at z_w1
      have z0_w1 : w.heap.size < w1.heap.size := by omega
      have y_w1 : w.heap.size ≤ w1.heap.size := by omega
      go_wp2
      go_ret
      exact ⟨retI K.out, by repeat (first | exact Below.refl _ _ | assumption | refine Below.setCell ?_ (by first | omega | (simp; done) | (simp; omega)) _ | refine Below.alloc ?_ (by first | omega | (simp; done) | (simp; omega)) _ | refine below_drewN ?_ _ | refine Below.drew ?_ | refine Below.trans ?_ (Below.mono (by assumption) (by first | omega | (simp; done) | (simp; omega))))⟩
end Go.Proofs.Ytjilgfgchmdppaa
