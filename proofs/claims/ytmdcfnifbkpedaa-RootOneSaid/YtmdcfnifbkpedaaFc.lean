/- Contracts of the document's answers: of, Sign, Cmp. -/
import Derived.Test.YtmdcfnifbkpedaaFb
import Derived.Test.YtmdcfnifbkpedaaFu
import Derived.Test.YtmdcfnifbkpedaaFo
import Derived.Test.YtmdcfnifbkpedaaL0
namespace Go.Proofs.Ytmdcfnifbkpedaa
open Go.RowKit

theorem rSign_any (n : Int) (w : World) (h : In128 n) :
    Calls Try.prog 59 #[.agg #[.bool (decide (n < 0)), .int .u64 (d0 (n.natAbs)), .int .u64 (d1 (n.natAbs)), .int .u64 (d2 (n.natAbs)), .int .u64 (d3 (n.natAbs))]] w fun e w' => e = .returned (.int .i64 (cmpI n 0)) ∧ Below w.heap.size w w' := by
  have A := abs128 h
  by_cases p : n = 0
  · have z : decide ((n.natAbs : Int) = 0) = true := by rw [decide_eq_true_iff]; omega
    have K := Lib.hid (show 0 = cmpI n 0 by unfold cmpI; rw [if_pos p])
    clear p
    go_enter Try.func59, Try.ntmps59
    go_wp2_with fail
    refine (Zero_any _ _ _ A.1 A.2).mono ?_
    rw [z]
    rintro e w1 ⟨rfl, hb1⟩
    obtain ⟨hc_w1, hf_w1⟩ := bcell hb1
    have z_w1 := hb1.size
    try simp at z_w1
    have z0_w1 : w.heap.size < w1.heap.size := by omega
    have y_w1 : w.heap.size ≤ w1.heap.size := by omega
    go_wp2
    go_ret
    exact ⟨retI K.out, by repeat (first | exact Below.refl _ _ | assumption | refine Below.setCell ?_ (by first | omega | (simp; done) | (simp; omega)) _ | refine Below.alloc ?_ (by first | omega | (simp; done) | (simp; omega)) _ | refine below_drewN ?_ _ | refine Below.drew ?_ | refine Below.trans ?_ (Below.mono (by assumption) (by first | omega | (simp; done) | (simp; omega))))⟩
  · have z : decide ((n.natAbs : Int) = 0) = false := by rw [decide_eq_false_iff_not]; omega
    by_cases q : n < 0
    · have K := Lib.hid (show -1 = cmpI n 0 by unfold cmpI; rw [if_neg p, if_pos q])
      clear p
      go_enter Try.func59, Try.ntmps59
      go_wp2_with fail
      refine (Zero_any _ _ _ A.1 A.2).mono ?_
      rw [z]
      rintro e w1 ⟨rfl, hb1⟩
      obtain ⟨hc_w1, hf_w1⟩ := bcell hb1
      have z_w1 := hb1.size
      try simp at z_w1
      have z0_w1 : w.heap.size < w1.heap.size := by omega
      have y_w1 : w.heap.size ≤ w1.heap.size := by omega
      go_wp2
      go_ret
      exact ⟨retI K.out, by repeat (first | exact Below.refl _ _ | assumption | refine Below.setCell ?_ (by first | omega | (simp; done) | (simp; omega)) _ | refine Below.alloc ?_ (by first | omega | (simp; done) | (simp; omega)) _ | refine below_drewN ?_ _ | refine Below.drew ?_ | refine Below.trans ?_ (Below.mono (by assumption) (by first | omega | (simp; done) | (simp; omega))))⟩
    · have K := Lib.hid (show 1 = cmpI n 0 by unfold cmpI; rw [if_neg p, if_neg q])
      clear p
      go_enter Try.func59, Try.ntmps59
      go_wp2_with fail
      refine (Zero_any _ _ _ A.1 A.2).mono ?_
      rw [z]
      rintro e w1 ⟨rfl, hb1⟩
      obtain ⟨hc_w1, hf_w1⟩ := bcell hb1
      have z_w1 := hb1.size
      try simp at z_w1
      have z0_w1 : w.heap.size < w1.heap.size := by omega
      have y_w1 : w.heap.size ≤ w1.heap.size := by omega
      go_wp2
      go_ret
      exact ⟨retI K.out, by repeat (first | exact Below.refl _ _ | assumption | refine Below.setCell ?_ (by first | omega | (simp; done) | (simp; omega)) _ | refine Below.alloc ?_ (by first | omega | (simp; done) | (simp; omega)) _ | refine below_drewN ?_ _ | refine Below.drew ?_ | refine Below.trans ?_ (Below.mono (by assumption) (by first | omega | (simp; done) | (simp; omega))))⟩
end Go.Proofs.Ytmdcfnifbkpedaa
