/- Contracts of the document's answers: less, plus, minus, twice, bit. -/
import Derived.Test.YtmdcfnifbkpedaaFa
import Derived.LoopN
namespace Go.Proofs.Ytmdcfnifbkpedaa
open Go.RowKit

set_option maxHeartbeats 1000000 in
theorem less_any (m k : Int) (w : World) (m0 : 0 ≤ m) (m1 : m < 340282366920938463463374607431768211456) (k0 : 0 ≤ k) (k1 : k < 340282366920938463463374607431768211456) :
    Calls Try.prog 37 #[.agg #[.int .u64 (d0 (m)), .int .u64 (d1 (m)), .int .u64 (d2 (m)), .int .u64 (d3 (m))], .agg #[.int .u64 (d0 (k)), .int .u64 (d1 (k)), .int .u64 (d2 (k)), .int .u64 (d3 (k))]] w fun e w' => e = .returned (.bool (decide (m < k))) ∧ Below w.heap.size w w' := by
  have A := Lib.hid (isD_of m0 m1)
  have B := Lib.hid (isD_of k0 k1)
  clear m0 m1 k0 k1
  generalize d0 m = a0 at *
  generalize d1 m = a1 at *
  generalize d2 m = a2 at *
  generalize d3 m = a3 at *
  generalize d0 k = b0 at *
  generalize d1 k = b1 at *
  generalize d2 k = b2 at *
  generalize d3 k = b3 at *
  by_cases e3 : a3 = b3
  · by_cases e2 : a2 = b2
    · by_cases e1 : a1 = b1
      · by_cases e0 : a0 = b0
        · have T : decide (m < k) = false := by have := A.out.e; have := B.out.e; rw [decide_eq_false_iff_not]; omega
          have HT := Lib.hid T
          clear T
          subst e3 e2 e1 e0
          go_enter Try.func37, Try.ntmps37
          go_wp2
          refine wp_loop_rounds 5 ?_
          rw [rounds_succ]
          go_wp2
          go_quiet (fail)
          go_wp2
          rw [rounds_succ]
          go_wp2
          go_quiet (fail)
          go_wp2
          rw [rounds_succ]
          go_wp2
          go_quiet (fail)
          go_wp2
          rw [rounds_succ]
          go_wp2
          go_quiet (fail)
          go_wp2
          rw [rounds_succ]
          go_wp2
          go_ret
          exact ⟨retB HT.out.symm, by repeat (first | exact Below.refl _ _ | assumption | refine Below.setCell ?_ (by first | omega | (simp; done) | (simp; omega)) _ | refine Below.alloc ?_ (by first | omega | (simp; done) | (simp; omega)) _ | refine below_drewN ?_ _ | refine Below.drew ?_ | refine Below.trans ?_ (Below.mono (by assumption) (by first | omega | (simp; done) | (simp; omega))))⟩
        · have T : decide (m < k) = decide (a0 < b0) := by have := A.out; have := B.out; obtain ⟨_, _, _, _, _, _, _, _, _⟩ := this; have := A.out; obtain ⟨_, _, _, _, _, _, _, _, _⟩ := this; rw [Bool.eq_iff_iff]; simp; omega
          have HT := Lib.hid T
          clear T
          have t : (a0 != b0) = true := by simpa using e0
          clear e0
          subst e3 e2 e1
          go_enter Try.func37, Try.ntmps37
          go_wp2
          refine wp_loop_rounds 5 ?_
          rw [rounds_succ]
          go_wp2
          go_quiet (fail)
          go_wp2
          rw [rounds_succ]
          go_wp2
          go_quiet (fail)
          go_wp2
          rw [rounds_succ]
          go_wp2
          go_quiet (fail)
          go_wp2
          rw [rounds_succ]
          go_wp2
          go_quiet (fail)
          go_wp2
          go_quiet (fail)
          go_wp2
          go_ret
          exact ⟨retB HT.out.symm, by repeat (first | exact Below.refl _ _ | assumption | refine Below.setCell ?_ (by first | omega | (simp; done) | (simp; omega)) _ | refine Below.alloc ?_ (by first | omega | (simp; done) | (simp; omega)) _ | refine below_drewN ?_ _ | refine Below.drew ?_ | refine Below.trans ?_ (Below.mono (by assumption) (by first | omega | (simp; done) | (simp; omega))))⟩
      · have T : decide (m < k) = decide (a1 < b1) := by have := A.out; have := B.out; obtain ⟨_, _, _, _, _, _, _, _, _⟩ := this; have := A.out; obtain ⟨_, _, _, _, _, _, _, _, _⟩ := this; rw [Bool.eq_iff_iff]; simp; omega
        have HT := Lib.hid T
        clear T
        have t : (a1 != b1) = true := by simpa using e1
        clear e1
        subst e3 e2
        go_enter Try.func37, Try.ntmps37
        go_wp2
        refine wp_loop_rounds 5 ?_
        rw [rounds_succ]
        go_wp2
        go_quiet (fail)
        go_wp2
        rw [rounds_succ]
        go_wp2
        go_quiet (fail)
        go_wp2
        rw [rounds_succ]
        go_wp2
        go_quiet (fail)
        go_wp2
        go_quiet (fail)
        go_wp2
        go_ret
        exact ⟨retB HT.out.symm, by repeat (first | exact Below.refl _ _ | assumption | refine Below.setCell ?_ (by first | omega | (simp; done) | (simp; omega)) _ | refine Below.alloc ?_ (by first | omega | (simp; done) | (simp; omega)) _ | refine below_drewN ?_ _ | refine Below.drew ?_ | refine Below.trans ?_ (Below.mono (by assumption) (by first | omega | (simp; done) | (simp; omega))))⟩
    · have T : decide (m < k) = decide (a2 < b2) := by have := A.out; have := B.out; obtain ⟨_, _, _, _, _, _, _, _, _⟩ := this; have := A.out; obtain ⟨_, _, _, _, _, _, _, _, _⟩ := this; rw [Bool.eq_iff_iff]; simp; omega
      have HT := Lib.hid T
      clear T
      have t : (a2 != b2) = true := by simpa using e2
      clear e2
      subst e3
      go_enter Try.func37, Try.ntmps37
      go_wp2
      refine wp_loop_rounds 5 ?_
      rw [rounds_succ]
      go_wp2
      go_quiet (fail)
      go_wp2
      rw [rounds_succ]
      go_wp2
      go_quiet (fail)
      go_wp2
      go_quiet (fail)
      go_wp2
      go_ret
      exact ⟨retB HT.out.symm, by repeat (first | exact Below.refl _ _ | assumption | refine Below.setCell ?_ (by first | omega | (simp; done) | (simp; omega)) _ | refine Below.alloc ?_ (by first | omega | (simp; done) | (simp; omega)) _ | refine below_drewN ?_ _ | refine Below.drew ?_ | refine Below.trans ?_ (Below.mono (by assumption) (by first | omega | (simp; done) | (simp; omega))))⟩
  · have T : decide (m < k) = decide (a3 < b3) := by have := A.out; have := B.out; obtain ⟨_, _, _, _, _, _, _, _, _⟩ := this; have := A.out; obtain ⟨_, _, _, _, _, _, _, _, _⟩ := this; rw [Bool.eq_iff_iff]; simp; omega
    have HT := Lib.hid T
    clear T
    have t : (a3 != b3) = true := by simpa using e3
    clear e3
    go_enter Try.func37, Try.ntmps37
    go_wp2
    refine wp_loop_rounds 5 ?_
    rw [rounds_succ]
    go_wp2
    go_quiet (fail)
    go_wp2
    go_quiet (fail)
    go_wp2
    go_ret
    exact ⟨retB HT.out.symm, by repeat (first | exact Below.refl _ _ | assumption | refine Below.setCell ?_ (by first | omega | (simp; done) | (simp; omega)) _ | refine Below.alloc ?_ (by first | omega | (simp; done) | (simp; omega)) _ | refine below_drewN ?_ _ | refine Below.drew ?_ | refine Below.trans ?_ (Below.mono (by assumption) (by first | omega | (simp; done) | (simp; omega))))⟩
theorem twice_d {a0 a1 a2 a3 m c : Int} (k : IsD a0 a1 a2 a3 m) : (2 * a0 + c) % 4294967296 = d0 ((2 * m + c) % 340282366920938463463374607431768211456) ∧ (2 * a1 + (2 * a0 + c) / 4294967296) % 4294967296 = d1 ((2 * m + c) % 340282366920938463463374607431768211456) ∧
    (2 * a2 + (2 * a1 + (2 * a0 + c) / 4294967296) / 4294967296) % 4294967296 = d2 ((2 * m + c) % 340282366920938463463374607431768211456) ∧ (2 * a3 + (2 * a2 + (2 * a1 + (2 * a0 + c) / 4294967296) / 4294967296) / 4294967296) % 4294967296 = d3 ((2 * m + c) % 340282366920938463463374607431768211456) := by
  obtain ⟨_, _, _, _, _, _, _, _, _⟩ := k
  unfold d0 d1 d2 d3
  omega
set_option maxHeartbeats 1000000 in
theorem twice_any (m c : Int) (w : World) (m0 : 0 ≤ m) (m1 : m < 340282366920938463463374607431768211456) (c0 : 0 ≤ c) (c1 : c ≤ 1) :
    Calls Try.prog 36 #[.agg #[.int .u64 (d0 (m)), .int .u64 (d1 (m)), .int .u64 (d2 (m)), .int .u64 (d3 (m))], .int .u64 c] w fun e w' => e = .returned (.agg #[.int .u64 (d0 ((2 * m + c) % 340282366920938463463374607431768211456)), .int .u64 (d1 ((2 * m + c) % 340282366920938463463374607431768211456)), .int .u64 (d2 ((2 * m + c) % 340282366920938463463374607431768211456)), .int .u64 (d3 ((2 * m + c) % 340282366920938463463374607431768211456))]) ∧ Below w.heap.size w w' := by
  have A := Lib.hid (isD_of m0 m1)
  have D := d_bd m
  clear m0 m1
  generalize d0 m = a0 at *
  generalize d1 m = a1 at *
  generalize d2 m = a2 at *
  generalize d3 m = a3 at *
  go_enter Try.func36, Try.ntmps36
  go_wp2
  refine wp_loop_rounds 5 ?_
  rw [rounds_succ]
  go_wp2_with fail
  refine (low_any _ _ (by omega) (by omega)).mono ?_
  rintro e w1 ⟨rfl, rfl⟩
  go_wp2
  rw [rounds_succ]
  go_wp2_with fail
  refine (low_any _ _ (by omega) (by omega)).mono ?_
  rintro e w1 ⟨rfl, rfl⟩
  go_wp2
  rw [rounds_succ]
  go_wp2_with fail
  refine (low_any _ _ (by omega) (by omega)).mono ?_
  rintro e w1 ⟨rfl, rfl⟩
  go_wp2
  rw [rounds_succ]
  go_wp2_with fail
  refine (low_any _ _ (by omega) (by omega)).mono ?_
  rintro e w1 ⟨rfl, rfl⟩
  go_wp2
  rw [rounds_succ]
  go_wp2
  exact bodyPost_ret (v := .agg #[.int .u64 (d0 ((2 * m + c) % 340282366920938463463374607431768211456)), .int .u64 (d1 ((2 * m + c) % 340282366920938463463374607431768211456)), .int .u64 (d2 ((2 * m + c) % 340282366920938463463374607431768211456)), .int .u64 (d3 ((2 * m + c) % 340282366920938463463374607431768211456))]) (by simp [results, Try.results36, go_sem]; exact twice_d A.out) rfl ⟨rfl, by repeat (first | exact Below.refl _ _ | assumption | refine Below.setCell ?_ (by first | omega | (simp; done) | (simp; omega)) _ | refine Below.alloc ?_ (by first | omega | (simp; done) | (simp; omega)) _ | refine below_drewN ?_ _ | refine Below.drew ?_ | refine Below.trans ?_ (Below.mono (by assumption) (by first | omega | (simp; done) | (simp; omega))))⟩
end Go.Proofs.Ytmdcfnifbkpedaa
