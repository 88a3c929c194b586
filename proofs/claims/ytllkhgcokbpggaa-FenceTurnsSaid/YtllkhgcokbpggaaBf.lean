/- Contracts of the document's answers: low, Size, Of, From, Zero, Words. -/
import Derived.Test.YtllkhgcokbpggaaBw
import Derived.Test.YtllkhgcokbpggaaBn
import Derived.LoopN
namespace Go.Proofs.Ytllkhgcokbpggaa
open Go.RowKit

theorem low_any (n : Int) (w : World) (n0 : 0 ≤ n) (n1 : n ≤ 18446744073709551615) :
    Calls Try.prog 89 #[.int .u64 n] w fun e w' => e = .returned (.int .u64 (n % 4294967296)) ∧ w' = w := by
  go_enter Try.func89, Try.ntmps89
  go_wp2
  go_ret
  exact ⟨rfl, rfl⟩
theorem Size_any (n : Int) (w : World) (h0 : -9223372036854775808 ≤ n) (h1 : n ≤ 9223372036854775807) :
    Calls Try.prog 88 #[.int .i64 n] w fun e w' => e = .returned (.int .u64 n.natAbs) ∧ w' = w := by
  by_cases p : n < 0
  · go_enter Try.func88, Try.ntmps88
    go_wp2
    go_ret
    exact ⟨retI (by first | omega | (rw [IntKind.wrap_u64]; omega)), rfl⟩
  · go_enter Try.func88, Try.ntmps88
    go_wp2
    go_ret
    exact ⟨retI (by first | omega | (rw [IntKind.wrap_u64]; omega)), rfl⟩
theorem retN {b b' : Bool} {x0 x1 x2 x3 y0 y1 y2 y3 : Int} (h : b = b') (h0 : x0 = y0) (h1 : x1 = y1) (h2 : x2 = y2) (h3 : x3 = y3) : Ending.returned (.agg #[.bool b, .int .u64 x0, .int .u64 x1, .int .u64 x2, .int .u64 x3]) = .returned (.agg #[.bool b', .int .u64 y0, .int .u64 y1, .int .u64 y2, .int .u64 y3]) := by rw [h, h0, h1, h2, h3]
theorem Zero_any (b : Bool) (m : Int) (w : World) (m0 : 0 ≤ m) (m1 : m < 340282366920938463463374607431768211456) :
    Calls Try.prog 73 #[.agg #[.bool (b), .int .u64 (d0 (m)), .int .u64 (d1 (m)), .int .u64 (d2 (m)), .int .u64 (d3 (m))]] w fun e w' => e = .returned (.bool (decide (m = 0))) ∧ Below w.heap.size w w' := by
  have K := Lib.hid (isD_of m0 m1).e
  have D := d_bd m
  generalize d0 m = a0 at *
  generalize d1 m = a1 at *
  generalize d2 m = a2 at *
  generalize d3 m = a3 at *
  go_enter Try.func73, Try.ntmps73
  go_wp2
  all_goals
    go_ret
    exact ⟨retB (by have := K.out; rw [Bool.eq_iff_iff]; simp; omega), by repeat (first | exact Below.refl _ _ | assumption | refine Below.setCell ?_ (by first | omega | (simp; done) | (simp; omega)) _ | refine Below.alloc ?_ (by first | omega | (simp; done) | (simp; omega)) _ | refine below_drewN ?_ _ | refine Below.drew ?_ | refine Below.trans ?_ (Below.mono (by assumption) (by first | omega | (simp; done) | (simp; omega))))⟩
theorem from_pos {h l n : Int} (k : IsW h l n) (p : ¬ h < 0) : h * 18446744073709551616 + l = n.natAbs := by
  obtain ⟨_, _, _, _, _⟩ := k
  omega
theorem from_neg0 {h l n x y z u : Int} (k : IsW h l n) (p : h < 0) (q : l = 0) (hx : x = h + 18446744073709551616) (hy : y = 18446744073709551615 - x) (_hz : z = 18446744073709551615 - l) (hu : u = y + 1) :
    0 ≤ u ∧ u ≤ 18446744073709551615 ∧ u * 18446744073709551616 + 0 = n.natAbs := by
  obtain ⟨_, _, _, _, _⟩ := k
  omega
theorem from_neg1 {h l n x y z : Int} (k : IsW h l n) (p : h < 0) (_q : ¬ l = 0) (hx : x = h + 18446744073709551616) (hy : y = 18446744073709551615 - x) (hz : z = 18446744073709551615 - l) :
    y * 18446744073709551616 + (z + 1) = n.natAbs := by
  obtain ⟨_, _, _, _, _⟩ := k
  omega
theorem words_no {b : Bool} {m : Int} (m0 : 0 ≤ m) (m1 : m < 340282366920938463463374607431768211456) (h : 9223372036854775808 < m / 18446744073709551616 ∨ m / 18446744073709551616 = 9223372036854775808 ∧ (m % 18446744073709551616 ≠ 0 ∨ b = false)) : 0 = hiW (clipW (sgnW b m)) ∧ 0 = loW (clipW (sgnW b m)) ∧ false = fitW (sgnW b m) := by
  refine clip_no ?_
  unfold In128 sgnW
  cases b
  · simp; omega
  · simp at h ⊢; omega
theorem words_yes {b : Bool} {m : Int} (m0 : 0 ≤ m) (m1 : m < 340282366920938463463374607431768211456) (h : ¬ (9223372036854775808 < m / 18446744073709551616 ∨ m / 18446744073709551616 = 9223372036854775808 ∧ (m % 18446744073709551616 ≠ 0 ∨ b = false))) : In128 (sgnW b m) := by
  unfold In128 sgnW
  cases b
  · simp at h ⊢; omega
  · simp at h ⊢; omega
theorem ret3 {a a' c c' : Int} {x x' : Bool} (h1 : a = a') (h2 : c = c') (h3 : x = x') : Ending.returned (.tuple #[.int .i64 a, .int .u64 c, .bool x]) = .returned (.tuple #[.int .i64 a', .int .u64 c', .bool x']) := by rw [h1, h2, h3]
theorem clip_of {n : Int} (k : In128 n) : clipW n = n ∧ fitW n = true := by
  refine ⟨by unfold clipW; rw [if_pos k], by simp [fitW, k]⟩
theorem words_pos {m H L : Int} (k : In128 (sgnW false m)) (eH : m / 18446744073709551616 = H) (eL : m % 18446744073709551616 = L) (h0 : 0 ≤ H) (h1 : H ≤ 9223372036854775807) :
    Ending.returned (.tuple #[.int .i64 (wrap64 H), .int .u64 L, .bool true]) = .returned (.tuple #[.int .i64 (hiW (clipW (sgnW false m))), .int .u64 (loW (clipW (sgnW false m))), .bool (fitW (sgnW false m))]) := by
  have c := clip_of k
  rw [c.1, c.2]
  exact ret3 (by unfold hiW sgnW wrap64; simp; omega) (by unfold loW sgnW; simp; omega) rfl
theorem words_neg0 {m H L y v : Int} (k : In128 (sgnW true m)) (eH : m / 18446744073709551616 = H) (eL : m % 18446744073709551616 = L) (h0 : 0 ≤ H) (h1 : H ≤ 9223372036854775808) (q : L = 0) (hy : y = 18446744073709551615 - H) (hv : IntKind.u64.wrap (y + 1) = v) :
    Ending.returned (.tuple #[.int .i64 (wrap64 v), .int .u64 0, .bool true]) = .returned (.tuple #[.int .i64 (hiW (clipW (sgnW true m))), .int .u64 (loW (clipW (sgnW true m))), .bool (fitW (sgnW true m))]) := by
  have c := clip_of k
  rw [c.1, c.2]
  rw [IntKind.wrap_u64] at hv
  exact ret3 (by unfold hiW sgnW wrap64; simp; omega) (by unfold loW sgnW; simp; omega) rfl
theorem words_neg1 {m H L y z : Int} (k : In128 (sgnW true m)) (eH : m / 18446744073709551616 = H) (eL : m % 18446744073709551616 = L) (h0 : 0 ≤ H) (h1 : H ≤ 9223372036854775807) (q : ¬ L = 0) (hy : y = 18446744073709551615 - H) (hz : z = 18446744073709551615 - L) :
    Ending.returned (.tuple #[.int .i64 (wrap64 y), .int .u64 (z + 1), .bool true]) = .returned (.tuple #[.int .i64 (hiW (clipW (sgnW true m))), .int .u64 (loW (clipW (sgnW true m))), .bool (fitW (sgnW true m))]) := by
  have c := clip_of k
  rw [c.1, c.2]
  exact ret3 (by unfold hiW sgnW wrap64; simp; omega) (by unfold loW sgnW; simp; omega) rfl
set_option maxHeartbeats 2000000 in
theorem Words_any (b : Bool) (m : Int) (w : World) (m0 : 0 ≤ m) (m1 : m < 340282366920938463463374607431768211456) :
    Calls Try.prog 87 #[.agg #[.bool (b), .int .u64 (d0 (m)), .int .u64 (d1 (m)), .int .u64 (d2 (m)), .int .u64 (d3 (m))]] w fun e w' => e = .returned (.tuple #[.int .i64 (hiW (clipW (sgnW b m))), .int .u64 (loW (clipW (sgnW b m))), .bool (fitW (sgnW b m))]) ∧ Below w.heap.size w w' := by
  have dh := (d_hi m0 m1).1
  have dl := (d_hi m0 m1).2
  have D := d_bd m
  obtain ⟨H, eH⟩ : ∃ H, m / 18446744073709551616 = H := ⟨_, rfl⟩
  obtain ⟨L, eL⟩ : ∃ L, m % 18446744073709551616 = L := ⟨_, rfl⟩
  have H0 : 0 ≤ H := by omega
  have H1 : H ≤ 18446744073709551615 := by omega
  have L0 : 0 ≤ L := by omega
  have L1 : L ≤ 18446744073709551615 := by omega
  rw [eH] at dh
  rw [eL] at dl
  have EH := Lib.hid eH
  have EL := Lib.hid eL
  have M0 := Lib.hid m0
  have M1 := Lib.hid m1
  clear eH eL m0 m1
  have sg := sgn_u64
  by_cases c1 : 9223372036854775808 < H
  · have K := Lib.hid (words_no (b := b) M0.out M1.out (by rw [EH.out]; exact .inl c1))
    go_enter Try.func87, Try.ntmps87
    go_wp2
    go_ret3
    exact ⟨ret3 K.out.1 K.out.2.1 K.out.2.2, by repeat (first | exact Below.refl _ _ | assumption | refine Below.setCell ?_ (by first | omega | (simp; done) | (simp; omega)) _ | refine Below.alloc ?_ (by first | omega | (simp; done) | (simp; omega)) _ | refine below_drewN ?_ _ | refine Below.drew ?_ | refine Below.trans ?_ (Below.mono (by assumption) (by first | omega | (simp; done) | (simp; omega))))⟩
  · by_cases c2 : H = 9223372036854775808
    · have t1 : (H == 9223372036854775808) = true := by simp; omega
      by_cases c3 : L = 0
      · cases b with
        | false =>
          have K := Lib.hid (words_no (b := false) M0.out M1.out (by rw [EH.out]; exact .inr ⟨c2, .inr rfl⟩))
          have t2 : (L != 0) = false := by simp; omega
          clear c2 c3
          go_enter Try.func87, Try.ntmps87
          go_wp2
          go_ret3
          exact ⟨ret3 K.out.1 K.out.2.1 K.out.2.2, by repeat (first | exact Below.refl _ _ | assumption | refine Below.setCell ?_ (by first | omega | (simp; done) | (simp; omega)) _ | refine Below.alloc ?_ (by first | omega | (simp; done) | (simp; omega)) _ | refine below_drewN ?_ _ | refine Below.drew ?_ | refine Below.trans ?_ (Below.mono (by assumption) (by first | omega | (simp; done) | (simp; omega))))⟩
        | true =>
          have K := Lib.hid (words_yes (b := true) M0.out M1.out (by rw [EH.out, EL.out]; simp; omega))
          have t2 : (L != 0) = false := by simp; omega
          obtain ⟨y, hy, y0, y1, Hy⟩ := turn_ex H H0 H1
          obtain ⟨z, hz, z0, z1, Hz⟩ := turn_ex L L0 L1
          obtain ⟨u, hu⟩ : ∃ u, IntKind.u64.wrap (z + 1) = u := ⟨_, rfl⟩
          have hu0 : u = 0 := by rw [← hu, IntKind.wrap_u64, Hz.out, c3]; rfl
          subst hu0
          obtain ⟨v, hv⟩ : ∃ v, IntKind.u64.wrap (y + 1) = v := ⟨_, rfl⟩
          have HV := Lib.hid (words_neg0 K.out EH.out EL.out H0 (by omega) c3 Hy.out hv)
          clear c2 c3
          go_enter Try.func87, Try.ntmps87
          go_wp2
          go_ret3
          exact ⟨HV.out, by repeat (first | exact Below.refl _ _ | assumption | refine Below.setCell ?_ (by first | omega | (simp; done) | (simp; omega)) _ | refine Below.alloc ?_ (by first | omega | (simp; done) | (simp; omega)) _ | refine below_drewN ?_ _ | refine Below.drew ?_ | refine Below.trans ?_ (Below.mono (by assumption) (by first | omega | (simp; done) | (simp; omega))))⟩
      · have K := Lib.hid (words_no (b := b) M0.out M1.out (by rw [EH.out, EL.out]; exact .inr ⟨c2, .inl c3⟩))
        have t2 : (L != 0) = true := by simp; omega
        clear c2 c3
        go_enter Try.func87, Try.ntmps87
        go_wp2
        go_ret3
        exact ⟨ret3 K.out.1 K.out.2.1 K.out.2.2, by repeat (first | exact Below.refl _ _ | assumption | refine Below.setCell ?_ (by first | omega | (simp; done) | (simp; omega)) _ | refine Below.alloc ?_ (by first | omega | (simp; done) | (simp; omega)) _ | refine below_drewN ?_ _ | refine Below.drew ?_ | refine Below.trans ?_ (Below.mono (by assumption) (by first | omega | (simp; done) | (simp; omega))))⟩
    · have t1 : (H == 9223372036854775808) = false := by simp; omega
      have K := Lib.hid (words_yes (b := b) M0.out M1.out (by rw [EH.out]; omega))
      cases b with
      | false =>
        have HV := Lib.hid (words_pos K.out EH.out EL.out H0 (by omega))
        clear c2
        go_enter Try.func87, Try.ntmps87
        go_wp2
        go_ret3
        exact ⟨HV.out, by repeat (first | exact Below.refl _ _ | assumption | refine Below.setCell ?_ (by first | omega | (simp; done) | (simp; omega)) _ | refine Below.alloc ?_ (by first | omega | (simp; done) | (simp; omega)) _ | refine below_drewN ?_ _ | refine Below.drew ?_ | refine Below.trans ?_ (Below.mono (by assumption) (by first | omega | (simp; done) | (simp; omega))))⟩
      | true =>
        by_cases c3 : L = 0
        ·
          obtain ⟨y, hy, y0, y1, Hy⟩ := turn_ex H H0 H1
          obtain ⟨z, hz, z0, z1, Hz⟩ := turn_ex L L0 L1
          obtain ⟨u, hu⟩ : ∃ u, IntKind.u64.wrap (z + 1) = u := ⟨_, rfl⟩
          have hu0 : u = 0 := by rw [← hu, IntKind.wrap_u64, Hz.out, c3]; rfl
          subst hu0
          obtain ⟨v, hv⟩ : ∃ v, IntKind.u64.wrap (y + 1) = v := ⟨_, rfl⟩
          have HV := Lib.hid (words_neg0 K.out EH.out EL.out H0 (by omega) c3 Hy.out hv)
          clear c2 c3
          go_enter Try.func87, Try.ntmps87
          go_wp2
          go_ret3
          exact ⟨HV.out, by repeat (first | exact Below.refl _ _ | assumption | refine Below.setCell ?_ (by first | omega | (simp; done) | (simp; omega)) _ | refine Below.alloc ?_ (by first | omega | (simp; done) | (simp; omega)) _ | refine below_drewN ?_ _ | refine Below.drew ?_ | refine Below.trans ?_ (Below.mono (by assumption) (by first | omega | (simp; done) | (simp; omega))))⟩
        ·
          obtain ⟨y, hy, y0, y1, Hy⟩ := turn_ex H H0 H1
          obtain ⟨z, hz, z0, z1, Hz⟩ := turn_ex L L0 L1
          have zb : z + 1 ≤ 18446744073709551615 := by have := Hz.out; omega
          have t3 : (z + 1 == 0) = false := by simp; omega
          have HV := Lib.hid (words_neg1 K.out EH.out EL.out H0 (by omega) c3 Hy.out Hz.out)
          clear c2 c3
          go_enter Try.func87, Try.ntmps87
          go_wp2
          go_ret3
          exact ⟨HV.out, by repeat (first | exact Below.refl _ _ | assumption | refine Below.setCell ?_ (by first | omega | (simp; done) | (simp; omega)) _ | refine Below.alloc ?_ (by first | omega | (simp; done) | (simp; omega)) _ | refine below_drewN ?_ _ | refine Below.drew ?_ | refine Below.trans ?_ (Below.mono (by assumption) (by first | omega | (simp; done) | (simp; omega))))⟩
end Go.Proofs.Ytllkhgcokbpggaa
namespace Go.Proofs.Ytllkhgcokbpggaa
open Go.RowKit

end Go.Proofs.Ytllkhgcokbpggaa
namespace Go.Proofs.Ytllkhgcokbpggaa
open Go.RowKit

set_option maxHeartbeats 1000000 in
theorem less_any (m k : Int) (w : World) (m0 : 0 ≤ m) (m1 : m < 340282366920938463463374607431768211456) (k0 : 0 ≤ k) (k1 : k < 340282366920938463463374607431768211456) :
    Calls Try.prog 85 #[.agg #[.int .u64 (d0 (m)), .int .u64 (d1 (m)), .int .u64 (d2 (m)), .int .u64 (d3 (m))], .agg #[.int .u64 (d0 (k)), .int .u64 (d1 (k)), .int .u64 (d2 (k)), .int .u64 (d3 (k))]] w fun e w' => e = .returned (.bool (decide (m < k))) ∧ Below w.heap.size w w' := by
  have A := Lib.hid (isD_of m0 m1)
  have B := Lib.hid (isD_of k0 k1)
  clear m0 m1 k0 k1
  generalize d0 m = a0 at *
  generalize d1 m = a1 at *
  generalize d2 m = a2 at *
  generalize d3 m = a3 at *
  generalize d0 k = b0 at *
  generalize d1 k = b1 at *
  generalize d2 k = b2 at *
  generalize d3 k = b3 at *
  by_cases e3 : a3 = b3
  · by_cases e2 : a2 = b2
    · by_cases e1 : a1 = b1
      · by_cases e0 : a0 = b0
        · have T : decide (m < k) = false := by have := A.out.e; have := B.out.e; rw [decide_eq_false_iff_not]; omega
          have HT := Lib.hid T
          clear T
          subst e3 e2 e1 e0
          go_enter Try.func85, Try.ntmps85
          go_wp2
          refine wp_loop_rounds 5 ?_
          rw [rounds_succ]
          go_wp2
          go_quiet (fail)
          go_wp2
          rw [rounds_succ]
          go_wp2
          go_quiet (fail)
          go_wp2
          rw [rounds_succ]
          go_wp2
          go_quiet (fail)
          go_wp2
          rw [rounds_succ]
          go_wp2
          go_quiet (fail)
          go_wp2
          rw [rounds_succ]
          go_wp2
          go_ret
          exact ⟨retB HT.out.symm, by repeat (first | exact Below.refl _ _ | assumption | refine Below.setCell ?_ (by first | omega | (simp; done) | (simp; omega)) _ | refine Below.alloc ?_ (by first | omega | (simp; done) | (simp; omega)) _ | refine below_drewN ?_ _ | refine Below.drew ?_ | refine Below.trans ?_ (Below.mono (by assumption) (by first | omega | (simp; done) | (simp; omega))))⟩
        · have T : decide (m < k) = decide (a0 < b0) := by have := A.out; have := B.out; obtain ⟨_, _, _, _, _, _, _, _, _⟩ := this; have := A.out; obtain ⟨_, _, _, _, _, _, _, _, _⟩ := this; rw [Bool.eq_iff_iff]; simp; omega
          have HT := Lib.hid T
          clear T
          have t : (a0 != b0) = true := by simpa using e0
          clear e0
          subst e3 e2 e1
          go_enter Try.func85, Try.ntmps85
          go_wp2
          refine wp_loop_rounds 5 ?_
          rw [rounds_succ]
          go_wp2
          go_quiet (fail)
          go_wp2
          rw [rounds_succ]
          go_wp2
          go_quiet (fail)
          go_wp2
          rw [rounds_succ]
          go_wp2
          go_quiet (fail)
          go_wp2
          rw [rounds_succ]
          go_wp2
          go_quiet (fail)
          go_wp2
          go_quiet (fail)
          go_wp2
          go_ret
          exact ⟨retB HT.out.symm, by repeat (first | exact Below.refl _ _ | assumption | refine Below.setCell ?_ (by first | omega | (simp; done) | (simp; omega)) _ | refine Below.alloc ?_ (by first | omega | (simp; done) | (simp; omega)) _ | refine below_drewN ?_ _ | refine Below.drew ?_ | refine Below.trans ?_ (Below.mono (by assumption) (by first | omega | (simp; done) | (simp; omega))))⟩
      · have T : decide (m < k) = decide (a1 < b1) := by have := A.out; have := B.out; obtain ⟨_, _, _, _, _, _, _, _, _⟩ := this; have := A.out; obtain ⟨_, _, _, _, _, _, _, _, _⟩ := this; rw [Bool.eq_iff_iff]; simp; omega
        have HT := Lib.hid T
        clear T
        have t : (a1 != b1) = true := by simpa using e1
        clear e1
        subst e3 e2
        go_enter Try.func85, Try.ntmps85
        go_wp2
        refine wp_loop_rounds 5 ?_
        rw [rounds_succ]
        go_wp2
        go_quiet (fail)
        go_wp2
        rw [rounds_succ]
        go_wp2
        go_quiet (fail)
        go_wp2
        rw [rounds_succ]
        go_wp2
        go_quiet (fail)
        go_wp2
        go_quiet (fail)
        go_wp2
        go_ret
        exact ⟨retB HT.out.symm, by repeat (first | exact Below.refl _ _ | assumption | refine Below.setCell ?_ (by first | omega | (simp; done) | (simp; omega)) _ | refine Below.alloc ?_ (by first | omega | (simp; done) | (simp; omega)) _ | refine below_drewN ?_ _ | refine Below.drew ?_ | refine Below.trans ?_ (Below.mono (by assumption) (by first | omega | (simp; done) | (simp; omega))))⟩
    · have T : decide (m < k) = decide (a2 < b2) := by have := A.out; have := B.out; obtain ⟨_, _, _, _, _, _, _, _, _⟩ := this; have := A.out; obtain ⟨_, _, _, _, _, _, _, _, _⟩ := this; rw [Bool.eq_iff_iff]; simp; omega
      have HT := Lib.hid T
      clear T
      have t : (a2 != b2) = true := by simpa using e2
      clear e2
      subst e3
      go_enter Try.func85, Try.ntmps85
      go_wp2
      refine wp_loop_rounds 5 ?_
      rw [rounds_succ]
      go_wp2
      go_quiet (fail)
      go_wp2
      rw [rounds_succ]
      go_wp2
      go_quiet (fail)
      go_wp2
      go_quiet (fail)
      go_wp2
      go_ret
      exact ⟨retB HT.out.symm, by repeat (first | exact Below.refl _ _ | assumption | refine Below.setCell ?_ (by first | omega | (simp; done) | (simp; omega)) _ | refine Below.alloc ?_ (by first | omega | (simp; done) | (simp; omega)) _ | refine below_drewN ?_ _ | refine Below.drew ?_ | refine Below.trans ?_ (Below.mono (by assumption) (by first | omega | (simp; done) | (simp; omega))))⟩
  · have T : decide (m < k) = decide (a3 < b3) := by have := A.out; have := B.out; obtain ⟨_, _, _, _, _, _, _, _, _⟩ := this; have := A.out; obtain ⟨_, _, _, _, _, _, _, _, _⟩ := this; rw [Bool.eq_iff_iff]; simp; omega
    have HT := Lib.hid T
    clear T
    have t : (a3 != b3) = true := by simpa using e3
    clear e3
    go_enter Try.func85, Try.ntmps85
    go_wp2
    refine wp_loop_rounds 5 ?_
    rw [rounds_succ]
    go_wp2
    go_quiet (fail)
    go_wp2
    go_quiet (fail)
    go_wp2
    go_ret
    exact ⟨retB HT.out.symm, by repeat (first | exact Below.refl _ _ | assumption | refine Below.setCell ?_ (by first | omega | (simp; done) | (simp; omega)) _ | refine Below.alloc ?_ (by first | omega | (simp; done) | (simp; omega)) _ | refine below_drewN ?_ _ | refine Below.drew ?_ | refine Below.trans ?_ (Below.mono (by assumption) (by first | omega | (simp; done) | (simp; omega))))⟩
theorem twice_d {a0 a1 a2 a3 m c : Int} (k : IsD a0 a1 a2 a3 m) : (2 * a0 + c) % 4294967296 = d0 ((2 * m + c) % 340282366920938463463374607431768211456) ∧ (2 * a1 + (2 * a0 + c) / 4294967296) % 4294967296 = d1 ((2 * m + c) % 340282366920938463463374607431768211456) ∧
    (2 * a2 + (2 * a1 + (2 * a0 + c) / 4294967296) / 4294967296) % 4294967296 = d2 ((2 * m + c) % 340282366920938463463374607431768211456) ∧ (2 * a3 + (2 * a2 + (2 * a1 + (2 * a0 + c) / 4294967296) / 4294967296) / 4294967296) % 4294967296 = d3 ((2 * m + c) % 340282366920938463463374607431768211456) := by
  obtain ⟨_, _, _, _, _, _, _, _, _⟩ := k
  unfold d0 d1 d2 d3
  omega
end Go.Proofs.Ytllkhgcokbpggaa
namespace Go.Proofs.Ytllkhgcokbpggaa
open Go.RowKit

theorem abs128 {n : Int} (h : In128 n) : (0 : Int) ≤ n.natAbs ∧ (n.natAbs : Int) < 340282366920938463463374607431768211456 := by
  unfold In128 at h; omega

structure CellN (w : World) (n : Nat) (b : Bool) (m : Int) : Prop where
  c0 : w.cell? ⟨n, 0, none⟩ = some (.bool b)
  c1 : w.cell? ⟨n, 1, none⟩ = some (.int .u64 (d0 m))
  c2 : w.cell? ⟨n, 2, none⟩ = some (.int .u64 (d1 m))
  c3 : w.cell? ⟨n, 3, none⟩ = some (.int .u64 (d2 m))
  c4 : w.cell? ⟨n, 4, none⟩ = some (.int .u64 (d3 m))
theorem CellN.new (w : World) (b : Bool) (m : Int) (t : TypeId) : CellN (w.alloc (.cells #[.bool b, .int .u64 (d0 m), .int .u64 (d1 m), .int .u64 (d2 m), .int .u64 (d3 m)] t)) w.heap.size b m :=
  ⟨World.cell?_alloc_new w _ t 0, World.cell?_alloc_new w _ t 1, World.cell?_alloc_new w _ t 2, World.cell?_alloc_new w _ t 3, World.cell?_alloc_new w _ t 4⟩
theorem CellN.below {B : Nat} {w w' : World} {n : Nat} {b : Bool} {m : Int} (k : CellN w n b m) (hb : Below B w w') (hn : n < B) : CellN w' n b m :=
  ⟨(hb.cell (p := ⟨n, 0, none⟩) hn).trans k.c0, (hb.cell (p := ⟨n, 1, none⟩) hn).trans k.c1, (hb.cell (p := ⟨n, 2, none⟩) hn).trans k.c2, (hb.cell (p := ⟨n, 3, none⟩) hn).trans k.c3, (hb.cell (p := ⟨n, 4, none⟩) hn).trans k.c4⟩
theorem CellN.alloc {w : World} {n : Nat} {b : Bool} {m : Int} (k : CellN w n b m) (hn : n < w.heap.size) (o : Obj) : CellN (w.alloc o) n b m :=
  k.below (B := w.heap.size) ((Below.refl _ _).alloc (Nat.le_refl _) o) hn

theorem startN {B : Nat} {w W : World} {n m : Nat} {b c : Bool} {x y : Int} (A : CellN W n b x) (C : CellN W m c y) (g : n < W.heap.size) (i : m < W.heap.size) (z : B ≤ W.heap.size) (k : Below B w W) :
    (W.cell? ⟨n, 0, none⟩ = some (.bool (b)) ∧ W.cell? ⟨n, 1, none⟩ = some (.int .u64 (d0 (x))) ∧ W.cell? ⟨n, 2, none⟩ = some (.int .u64 (d1 (x))) ∧ W.cell? ⟨n, 3, none⟩ = some (.int .u64 (d2 (x))) ∧ W.cell? ⟨n, 4, none⟩ = some (.int .u64 (d3 (x)))) ∧ (W.cell? ⟨m, 0, none⟩ = some (.bool (c)) ∧ W.cell? ⟨m, 1, none⟩ = some (.int .u64 (d0 (y))) ∧ W.cell? ⟨m, 2, none⟩ = some (.int .u64 (d1 (y))) ∧ W.cell? ⟨m, 3, none⟩ = some (.int .u64 (d2 (y))) ∧ W.cell? ⟨m, 4, none⟩ = some (.int .u64 (d3 (y)))) ∧ n < W.heap.size ∧ m < W.heap.size ∧ B ≤ W.heap.size ∧ Below B w W :=
  ⟨⟨A.c0, A.c1, A.c2, A.c3, A.c4⟩, ⟨C.c0, C.c1, C.c2, C.c3, C.c4⟩, g, i, z, k⟩
theorem keepN {B : Nat} {w W W' : World} {n m : Nat} {b c : Bool} {x y : Int} (hb : Below W.heap.size W W')
    (h : (W.cell? ⟨n, 0, none⟩ = some (.bool (b)) ∧ W.cell? ⟨n, 1, none⟩ = some (.int .u64 (d0 (x))) ∧ W.cell? ⟨n, 2, none⟩ = some (.int .u64 (d1 (x))) ∧ W.cell? ⟨n, 3, none⟩ = some (.int .u64 (d2 (x))) ∧ W.cell? ⟨n, 4, none⟩ = some (.int .u64 (d3 (x)))) ∧ (W.cell? ⟨m, 0, none⟩ = some (.bool (c)) ∧ W.cell? ⟨m, 1, none⟩ = some (.int .u64 (d0 (y))) ∧ W.cell? ⟨m, 2, none⟩ = some (.int .u64 (d1 (y))) ∧ W.cell? ⟨m, 3, none⟩ = some (.int .u64 (d2 (y))) ∧ W.cell? ⟨m, 4, none⟩ = some (.int .u64 (d3 (y)))) ∧ n < W.heap.size ∧ m < W.heap.size ∧ B ≤ W.heap.size ∧ Below B w W) :
    (W'.cell? ⟨n, 0, none⟩ = some (.bool (b)) ∧ W'.cell? ⟨n, 1, none⟩ = some (.int .u64 (d0 (x))) ∧ W'.cell? ⟨n, 2, none⟩ = some (.int .u64 (d1 (x))) ∧ W'.cell? ⟨n, 3, none⟩ = some (.int .u64 (d2 (x))) ∧ W'.cell? ⟨n, 4, none⟩ = some (.int .u64 (d3 (x)))) ∧ (W'.cell? ⟨m, 0, none⟩ = some (.bool (c)) ∧ W'.cell? ⟨m, 1, none⟩ = some (.int .u64 (d0 (y))) ∧ W'.cell? ⟨m, 2, none⟩ = some (.int .u64 (d1 (y))) ∧ W'.cell? ⟨m, 3, none⟩ = some (.int .u64 (d2 (y))) ∧ W'.cell? ⟨m, 4, none⟩ = some (.int .u64 (d3 (y)))) ∧ n < W'.heap.size ∧ m < W'.heap.size ∧ B ≤ W'.heap.size ∧ Below B w W' := by
  obtain ⟨⟨a0, a1, a2, a3, a4⟩, ⟨c0, c1, c2, c3, c4⟩, g, i, z, k⟩ := h
  have A : CellN W n b x := ⟨a0, a1, a2, a3, a4⟩
  have C : CellN W m c y := ⟨c0, c1, c2, c3, c4⟩
  have := hb.size
  exact startN (A.below hb g) (C.below hb i) (by omega) (by omega) (by omega) (k.trans (hb.mono z))
theorem endN {B : Nat} {w W : World} {n m : Nat} {b c : Bool} {x y : Int} (h : (W.cell? ⟨n, 0, none⟩ = some (.bool (b)) ∧ W.cell? ⟨n, 1, none⟩ = some (.int .u64 (d0 (x))) ∧ W.cell? ⟨n, 2, none⟩ = some (.int .u64 (d1 (x))) ∧ W.cell? ⟨n, 3, none⟩ = some (.int .u64 (d2 (x))) ∧ W.cell? ⟨n, 4, none⟩ = some (.int .u64 (d3 (x)))) ∧ (W.cell? ⟨m, 0, none⟩ = some (.bool (c)) ∧ W.cell? ⟨m, 1, none⟩ = some (.int .u64 (d0 (y))) ∧ W.cell? ⟨m, 2, none⟩ = some (.int .u64 (d1 (y))) ∧ W.cell? ⟨m, 3, none⟩ = some (.int .u64 (d2 (y))) ∧ W.cell? ⟨m, 4, none⟩ = some (.int .u64 (d3 (y)))) ∧ n < W.heap.size ∧ m < W.heap.size ∧ B ≤ W.heap.size ∧ Below B w W) : Below B w W := h.2.2.2.2.2

/-- a sign and four digits lie in block n, and may be written -/
structure CellO (w : World) (n : Nat) (b : Bool) (x0 x1 x2 x3 : Int) : Prop where
  c0 : w.cell? ⟨n, 0, none⟩ = some (.bool b)
  c1 : w.cell? ⟨n, 1, none⟩ = some (.int .u64 x0)
  c2 : w.cell? ⟨n, 2, none⟩ = some (.int .u64 x1)
  c3 : w.cell? ⟨n, 3, none⟩ = some (.int .u64 x2)
  c4 : w.cell? ⟨n, 4, none⟩ = some (.int .u64 x3)
  f : ∀ j, w.frozen? ⟨n, j, none⟩ = false
theorem addr_o {n i j : Nat} (h : i ≠ j) : (⟨n, i, none⟩ : Addr) ≠ ⟨n, j, none⟩ := fun e => h (congrArg Addr.off e)
theorem addr_b {n m i j : Nat} (h : n ≠ m) : (⟨n, i, none⟩ : Addr) ≠ ⟨m, j, none⟩ := fun e => h (congrArg Addr.block e)
theorem CellO.set0 {w : World} {n : Nat} {b : Bool} {x0 x1 x2 x3 : Int} (k : CellO w n b x0 x1 x2 x3) (v : Int) : CellO (w.setCell ⟨n, 1, none⟩ (.int .u64 v)) n b v x1 x2 x3 :=
  ⟨(World.cell?_setCell_other _ _ _ _ (addr_o (by decide))).trans k.c0, World.cell?_setCell_same _ _ _ k.c1, (World.cell?_setCell_other _ _ _ _ (addr_o (by decide))).trans k.c2, (World.cell?_setCell_other _ _ _ _ (addr_o (by decide))).trans k.c3, (World.cell?_setCell_other _ _ _ _ (addr_o (by decide))).trans k.c4, fun j => (World.frozen?_setCell _ _ _ _).trans (k.f j)⟩
theorem CellO.set1 {w : World} {n : Nat} {b : Bool} {x0 x1 x2 x3 : Int} (k : CellO w n b x0 x1 x2 x3) (v : Int) : CellO (w.setCell ⟨n, 2, none⟩ (.int .u64 v)) n b x0 v x2 x3 :=
  ⟨(World.cell?_setCell_other _ _ _ _ (addr_o (by decide))).trans k.c0, (World.cell?_setCell_other _ _ _ _ (addr_o (by decide))).trans k.c1, World.cell?_setCell_same _ _ _ k.c2, (World.cell?_setCell_other _ _ _ _ (addr_o (by decide))).trans k.c3, (World.cell?_setCell_other _ _ _ _ (addr_o (by decide))).trans k.c4, fun j => (World.frozen?_setCell _ _ _ _).trans (k.f j)⟩
theorem CellO.set2 {w : World} {n : Nat} {b : Bool} {x0 x1 x2 x3 : Int} (k : CellO w n b x0 x1 x2 x3) (v : Int) : CellO (w.setCell ⟨n, 3, none⟩ (.int .u64 v)) n b x0 x1 v x3 :=
  ⟨(World.cell?_setCell_other _ _ _ _ (addr_o (by decide))).trans k.c0, (World.cell?_setCell_other _ _ _ _ (addr_o (by decide))).trans k.c1, (World.cell?_setCell_other _ _ _ _ (addr_o (by decide))).trans k.c2, World.cell?_setCell_same _ _ _ k.c3, (World.cell?_setCell_other _ _ _ _ (addr_o (by decide))).trans k.c4, fun j => (World.frozen?_setCell _ _ _ _).trans (k.f j)⟩
theorem CellO.set3 {w : World} {n : Nat} {b : Bool} {x0 x1 x2 x3 : Int} (k : CellO w n b x0 x1 x2 x3) (v : Int) : CellO (w.setCell ⟨n, 4, none⟩ (.int .u64 v)) n b x0 x1 x2 v :=
  ⟨(World.cell?_setCell_other _ _ _ _ (addr_o (by decide))).trans k.c0, (World.cell?_setCell_other _ _ _ _ (addr_o (by decide))).trans k.c1, (World.cell?_setCell_other _ _ _ _ (addr_o (by decide))).trans k.c2, (World.cell?_setCell_other _ _ _ _ (addr_o (by decide))).trans k.c3, World.cell?_setCell_same _ _ _ k.c4, fun j => (World.frozen?_setCell _ _ _ _).trans (k.f j)⟩
theorem CellO.drewN {w : World} {n : Nat} {b : Bool} {x0 x1 x2 x3 : Int} (k : CellO w n b x0 x1 x2 x3) (q : Nat) : CellO (w.drewN q) n b x0 x1 x2 x3 := ⟨k.c0, k.c1, k.c2, k.c3, k.c4, k.f⟩
theorem CellO.below {B : Nat} {w w' : World} {n : Nat} {b : Bool} {x0 x1 x2 x3 : Int} (k : CellO w n b x0 x1 x2 x3) (hb : Below B w w') (hn : n < B) : CellO w' n b x0 x1 x2 x3 :=
  ⟨(hb.cell (p := ⟨n, 0, none⟩) hn).trans k.c0, (hb.cell (p := ⟨n, 1, none⟩) hn).trans k.c1, (hb.cell (p := ⟨n, 2, none⟩) hn).trans k.c2, (hb.cell (p := ⟨n, 3, none⟩) hn).trans k.c3, (hb.cell (p := ⟨n, 4, none⟩) hn).trans k.c4, fun j => (hb.frozen (p := ⟨n, j, none⟩) hn).trans (k.f j)⟩
theorem below_some {B : Nat} {w w' : World} {n j : Nat} (hb : Below B w w') (hn : n < B) (k : ∃ v, w.cell? ⟨n, j, none⟩ = some v) : ∃ v, w'.cell? ⟨n, j, none⟩ = some v :=
  k.elim fun v hv => ⟨v, (hb.cell (p := ⟨n, j, none⟩) hn).trans hv⟩
end Go.Proofs.Ytllkhgcokbpggaa
namespace Go.Proofs.Ytllkhgcokbpggaa
open Go.RowKit

end Go.Proofs.Ytllkhgcokbpggaa
namespace Go.Proofs.Ytllkhgcokbpggaa
open Go.RowKit

/-- four digits lie in block n, and may be written -/
structure CellQ (w : World) (n : Nat) (x0 x1 x2 x3 : Int) : Prop where
  c0 : w.cell? ⟨n, 0, none⟩ = some (.int .u64 x0)
  c1 : w.cell? ⟨n, 1, none⟩ = some (.int .u64 x1)
  c2 : w.cell? ⟨n, 2, none⟩ = some (.int .u64 x2)
  c3 : w.cell? ⟨n, 3, none⟩ = some (.int .u64 x3)
  f : ∀ j, w.frozen? ⟨n, j, none⟩ = false
theorem CellQ.set0 {w : World} {n : Nat} {x0 x1 x2 x3 : Int} (k : CellQ w n x0 x1 x2 x3) (v : Int) : CellQ (w.setCell ⟨n, 0, none⟩ (.int .u64 v)) n v x1 x2 x3 :=
  ⟨World.cell?_setCell_same _ _ _ k.c0, (World.cell?_setCell_other _ _ _ _ (addr_o (by decide))).trans k.c1, (World.cell?_setCell_other _ _ _ _ (addr_o (by decide))).trans k.c2, (World.cell?_setCell_other _ _ _ _ (addr_o (by decide))).trans k.c3, fun j => (World.frozen?_setCell _ _ _ _).trans (k.f j)⟩
theorem CellQ.set1 {w : World} {n : Nat} {x0 x1 x2 x3 : Int} (k : CellQ w n x0 x1 x2 x3) (v : Int) : CellQ (w.setCell ⟨n, 1, none⟩ (.int .u64 v)) n x0 v x2 x3 :=
  ⟨(World.cell?_setCell_other _ _ _ _ (addr_o (by decide))).trans k.c0, World.cell?_setCell_same _ _ _ k.c1, (World.cell?_setCell_other _ _ _ _ (addr_o (by decide))).trans k.c2, (World.cell?_setCell_other _ _ _ _ (addr_o (by decide))).trans k.c3, fun j => (World.frozen?_setCell _ _ _ _).trans (k.f j)⟩
theorem CellQ.set2 {w : World} {n : Nat} {x0 x1 x2 x3 : Int} (k : CellQ w n x0 x1 x2 x3) (v : Int) : CellQ (w.setCell ⟨n, 2, none⟩ (.int .u64 v)) n x0 x1 v x3 :=
  ⟨(World.cell?_setCell_other _ _ _ _ (addr_o (by decide))).trans k.c0, (World.cell?_setCell_other _ _ _ _ (addr_o (by decide))).trans k.c1, World.cell?_setCell_same _ _ _ k.c2, (World.cell?_setCell_other _ _ _ _ (addr_o (by decide))).trans k.c3, fun j => (World.frozen?_setCell _ _ _ _).trans (k.f j)⟩
theorem CellQ.set3 {w : World} {n : Nat} {x0 x1 x2 x3 : Int} (k : CellQ w n x0 x1 x2 x3) (v : Int) : CellQ (w.setCell ⟨n, 3, none⟩ (.int .u64 v)) n x0 x1 x2 v :=
  ⟨(World.cell?_setCell_other _ _ _ _ (addr_o (by decide))).trans k.c0, (World.cell?_setCell_other _ _ _ _ (addr_o (by decide))).trans k.c1, (World.cell?_setCell_other _ _ _ _ (addr_o (by decide))).trans k.c2, World.cell?_setCell_same _ _ _ k.c3, fun j => (World.frozen?_setCell _ _ _ _).trans (k.f j)⟩
theorem CellQ.drewN {w : World} {n : Nat} {x0 x1 x2 x3 : Int} (k : CellQ w n x0 x1 x2 x3) (q : Nat) : CellQ (w.drewN q) n x0 x1 x2 x3 := ⟨k.c0, k.c1, k.c2, k.c3, k.f⟩
theorem CellQ.below {B : Nat} {w w' : World} {n : Nat} {x0 x1 x2 x3 : Int} (k : CellQ w n x0 x1 x2 x3) (hb : Below B w w') (hn : n < B) : CellQ w' n x0 x1 x2 x3 :=
  ⟨(hb.cell (p := ⟨n, 0, none⟩) hn).trans k.c0, (hb.cell (p := ⟨n, 1, none⟩) hn).trans k.c1, (hb.cell (p := ⟨n, 2, none⟩) hn).trans k.c2, (hb.cell (p := ⟨n, 3, none⟩) hn).trans k.c3, fun j => (hb.frozen (p := ⟨n, j, none⟩) hn).trans (k.f j)⟩
theorem CellQ.all {w : World} {n : Nat} {x0 x1 x2 x3 : Int} (k : CellQ w n x0 x1 x2 x3) (v0 v1 v2 v3 : Int) :
    CellQ ((((w.setCell ⟨n, 0, none⟩ (.int .u64 v0)).setCell ⟨n, 1, none⟩ (.int .u64 v1)).setCell ⟨n, 2, none⟩ (.int .u64 v2)).setCell ⟨n, 3, none⟩ (.int .u64 v3)) n v0 v1 v2 v3 :=
  (((k.set0 v0).set1 v1).set2 v2).set3 v3
end Go.Proofs.Ytllkhgcokbpggaa
namespace Go.Proofs.Ytllkhgcokbpggaa
open Go.RowKit

theorem plus_d {a0 a1 a2 a3 m b0 b1 b2 b3 k : Int} (A : IsD a0 a1 a2 a3 m) (B : IsD b0 b1 b2 b3 k) :
    ((a0 + b0) % 4294967296 = d0 ((m + k) % 340282366920938463463374607431768211456) ∧ (a1 + b1 + (a0 + b0) / 4294967296) % 4294967296 = d1 ((m + k) % 340282366920938463463374607431768211456) ∧
    (a2 + b2 + (a1 + b1 + (a0 + b0) / 4294967296) / 4294967296) % 4294967296 = d2 ((m + k) % 340282366920938463463374607431768211456) ∧ (a3 + b3 + (a2 + b2 + (a1 + b1 + (a0 + b0) / 4294967296) / 4294967296) / 4294967296) % 4294967296 = d3 ((m + k) % 340282366920938463463374607431768211456)) ∧
    (a3 + b3 + (a2 + b2 + (a1 + b1 + (a0 + b0) / 4294967296) / 4294967296) / 4294967296) / 4294967296 = (m + k) / 340282366920938463463374607431768211456 := by
  obtain ⟨_, _, _, _, _, _, _, _, _⟩ := A
  obtain ⟨_, _, _, _, _, _, _, _, _⟩ := B
  unfold d0 d1 d2 d3
  omega
set_option maxHeartbeats 2000000 in
theorem rplus_any (m k : Int) (w : World) (m0 : 0 ≤ m) (m1 : m < 340282366920938463463374607431768211456) (k0 : 0 ≤ k) (k1 : k < 340282366920938463463374607431768211456) :
    Calls Try.prog 84 #[.agg #[.int .u64 (d0 (m)), .int .u64 (d1 (m)), .int .u64 (d2 (m)), .int .u64 (d3 (m))], .agg #[.int .u64 (d0 (k)), .int .u64 (d1 (k)), .int .u64 (d2 (k)), .int .u64 (d3 (k))]] w fun e w' => e = .returned (.tuple #[.agg #[.int .u64 (d0 ((m + k) % 340282366920938463463374607431768211456)), .int .u64 (d1 ((m + k) % 340282366920938463463374607431768211456)), .int .u64 (d2 ((m + k) % 340282366920938463463374607431768211456)), .int .u64 (d3 ((m + k) % 340282366920938463463374607431768211456))], .int .u64 ((m + k) / 340282366920938463463374607431768211456)]) ∧ Below w.heap.size w w' := by
  have A := Lib.hid (isD_of m0 m1)
  have B := Lib.hid (isD_of k0 k1)
  have DA := d_bd m
  have DB := d_bd k
  clear m0 m1 k0 k1
  generalize d0 m = a0 at *
  generalize d1 m = a1 at *
  generalize d2 m = a2 at *
  generalize d3 m = a3 at *
  generalize d0 k = b0 at *
  generalize d1 k = b1 at *
  generalize d2 k = b2 at *
  generalize d3 k = b3 at *
  go_enter Try.func84, Try.ntmps84
  go_wp2
  refine wp_loop_rounds 5 ?_
  rw [rounds_succ]
  go_wp2
  go_quiet (fail)
  go_wp2_with fail
  refine (low_any _ _ (by omega) (by omega)).mono ?_
  rintro e w1 ⟨rfl, rfl⟩
  go_wp2
  rw [rounds_succ]
  go_wp2
  go_quiet (fail)
  go_wp2_with fail
  refine (low_any _ _ (by omega) (by omega)).mono ?_
  rintro e w1 ⟨rfl, rfl⟩
  go_wp2
  rw [rounds_succ]
  go_wp2
  go_quiet (fail)
  go_wp2_with fail
  refine (low_any _ _ (by omega) (by omega)).mono ?_
  rintro e w1 ⟨rfl, rfl⟩
  go_wp2
  rw [rounds_succ]
  go_wp2
  go_quiet (fail)
  go_wp2_with fail
  refine (low_any _ _ (by omega) (by omega)).mono ?_
  rintro e w1 ⟨rfl, rfl⟩
  go_wp2
  rw [rounds_succ]
  go_wp2
  refine bodyPost_ret (v := .tuple #[.agg #[.int .u64 (d0 ((m + k) % 340282366920938463463374607431768211456)), .int .u64 (d1 ((m + k) % 340282366920938463463374607431768211456)), .int .u64 (d2 ((m + k) % 340282366920938463463374607431768211456)), .int .u64 (d3 ((m + k) % 340282366920938463463374607431768211456))], .int .u64 ((m + k) / 340282366920938463463374607431768211456)]) ?_ rfl ⟨rfl, by repeat (first | with_reducible refine Below.setCell ?_ (by first | omega | (simp; done) | (simp; omega)) _ | with_reducible refine Below.alloc ?_ (by first | omega | (simp; done) | (simp; omega)) _ | with_reducible refine below_drewN ?_ _ | with_reducible refine Below.drew ?_ | with_reducible exact Below.refl _ _ | with_reducible assumption | with_reducible refine Below.trans ?_ (Below.mono (by assumption) (by first | omega | (simp; done) | (simp; omega))))⟩
  obtain ⟨⟨p0, p1, p2, p3⟩, p4⟩ := plus_d A.out B.out
  simp [results, Try.results84, go_sem]
  first | exact ⟨⟨p0, p1, p2, p3⟩, p4⟩ | exact ⟨p0, p1, p2, p3, p4⟩

theorem minus_d {a0 a1 a2 a3 m b0 b1 b2 b3 k c1 c2 c3 : Int} (A : IsD a0 a1 a2 a3 m) (B : IsD b0 b1 b2 b3 k)
    (h1 : c1 = 1 - (a0 + 4294967296 - b0) / 4294967296) (h2 : c2 = 1 - (a1 + 4294967296 - b1 - c1) / 4294967296) (h3 : c3 = 1 - (a2 + 4294967296 - b2 - c2) / 4294967296) :
    (a0 + 4294967296 - b0) % 4294967296 = d0 ((m - k) % 340282366920938463463374607431768211456) ∧ (a1 + 4294967296 - b1 - c1) % 4294967296 = d1 ((m - k) % 340282366920938463463374607431768211456) ∧
    (a2 + 4294967296 - b2 - c2) % 4294967296 = d2 ((m - k) % 340282366920938463463374607431768211456) ∧ (a3 + 4294967296 - b3 - c3) % 4294967296 = d3 ((m - k) % 340282366920938463463374607431768211456) := by
  obtain ⟨_, _, _, _, _, _, _, _, _⟩ := A
  obtain ⟨_, _, _, _, _, _, _, _, _⟩ := B
  unfold d0 d1 d2 d3
  omega
set_option maxHeartbeats 2000000 in
theorem rminus_any (m k : Int) (w : World) (m0 : 0 ≤ m) (m1 : m < 340282366920938463463374607431768211456) (k0 : 0 ≤ k) (k1 : k < 340282366920938463463374607431768211456) :
    Calls Try.prog 86 #[.agg #[.int .u64 (d0 (m)), .int .u64 (d1 (m)), .int .u64 (d2 (m)), .int .u64 (d3 (m))], .agg #[.int .u64 (d0 (k)), .int .u64 (d1 (k)), .int .u64 (d2 (k)), .int .u64 (d3 (k))]] w fun e w' => e = .returned (.agg #[.int .u64 (d0 ((m - k) % 340282366920938463463374607431768211456)), .int .u64 (d1 ((m - k) % 340282366920938463463374607431768211456)), .int .u64 (d2 ((m - k) % 340282366920938463463374607431768211456)), .int .u64 (d3 ((m - k) % 340282366920938463463374607431768211456))]) ∧ Below w.heap.size w w' := by
  have A := Lib.hid (isD_of m0 m1)
  have B := Lib.hid (isD_of k0 k1)
  have DA := d_bd m
  have DB := d_bd k
  clear m0 m1 k0 k1
  generalize d0 m = a0 at *
  generalize d1 m = a1 at *
  generalize d2 m = a2 at *
  generalize d3 m = a3 at *
  generalize d0 k = b0 at *
  generalize d1 k = b1 at *
  generalize d2 k = b2 at *
  generalize d3 k = b3 at *
  go_enter Try.func86, Try.ntmps86
  go_wp2
  refine wp_loop_rounds 5 ?_
  rw [rounds_succ]
  go_wp2
  go_quiet (fail)
  go_wp2_with fail
  refine (low_any _ _ (by omega) (by omega)).mono ?_
  rintro e w1 ⟨rfl, rfl⟩
  go_wp2
  rw [rounds_succ]
  go_wp2
  go_quiet (fail)
  go_wp2_with fail
  refine (low_any _ _ (by omega) (by omega)).mono ?_
  rintro e w1 ⟨rfl, rfl⟩
  go_wp2
  rw [rounds_succ]
  go_wp2
  go_quiet (fail)
  go_wp2_with fail
  refine (low_any _ _ (by omega) (by omega)).mono ?_
  rintro e w1 ⟨rfl, rfl⟩
  go_wp2
  rw [rounds_succ]
  go_wp2
  go_quiet (fail)
  go_wp2_with fail
  refine (low_any _ _ (by omega) (by omega)).mono ?_
  rintro e w1 ⟨rfl, rfl⟩
  go_wp2
  rw [rounds_succ]
  go_wp2
  refine bodyPost_ret (v := .agg #[.int .u64 (d0 ((m - k) % 340282366920938463463374607431768211456)), .int .u64 (d1 ((m - k) % 340282366920938463463374607431768211456)), .int .u64 (d2 ((m - k) % 340282366920938463463374607431768211456)), .int .u64 (d3 ((m - k) % 340282366920938463463374607431768211456))]) ?_ rfl ⟨rfl, by repeat (first | with_reducible refine Below.setCell ?_ (by first | omega | (simp; done) | (simp; omega)) _ | with_reducible refine Below.alloc ?_ (by first | omega | (simp; done) | (simp; omega)) _ | with_reducible refine below_drewN ?_ _ | with_reducible refine Below.drew ?_ | with_reducible exact Below.refl _ _ | with_reducible assumption | with_reducible refine Below.trans ?_ (Below.mono (by assumption) (by first | omega | (simp; done) | (simp; omega))))⟩
  obtain ⟨p0, p1, p2, p3⟩ := minus_d A.out B.out rfl rfl rfl
  simp [results, Try.results86, go_sem]
  exact ⟨p0, p1, p2, p3⟩
end Go.Proofs.Ytllkhgcokbpggaa
namespace Go.Proofs.Ytllkhgcokbpggaa
open Go.RowKit

theorem bit_low (x r : Nat) (h : r < 32) : x % 4294967296 / 2 ^ r % 2 = x / 2 ^ r % 2 := by
  have h1 := Nat.testBit_mod_two_pow x 32 r
  rw [Nat.testBit_eq_decide_div_mod_eq, Nat.testBit_eq_decide_div_mod_eq] at h1
  simp only [h, decide_true, Bool.true_and] at h1
  have h2 := decide_eq_decide.1 h1
  have : x % 2 ^ 32 = x % 4294967296 := rfl
  rw [this] at h2
  omega
/-- bit i of a size lies in its digit i / 32 -/
theorem bit_d (m : Int) (m0 : 0 ≤ m) (j r : Nat) (hr : r < 32) (q : Int) (hq : q = m / ((4294967296 ^ j : Nat) : Int)) : q % 4294967296 / 2 ^ r % 2 = m / 2 ^ (32 * j + r) % 2 := by
  obtain ⟨M, rfl⟩ := Int.eq_ofNat_of_zero_le m0
  have e1 : q = ((M / 4294967296 ^ j : Nat) : Int) := by rw [hq]; exact (Int.natCast_ediv _ _).symm
  have h := bit_low (M / 4294967296 ^ j) r hr
  have e2 : M / 4294967296 ^ j / 2 ^ r = M / 2 ^ (32 * j + r) := by
    rw [Nat.div_div_eq_div_mul, Nat.pow_add, Nat.pow_mul]
  rw [e2] at h
  have c1 : ((2 : Int) ^ r) = ((2 ^ r : Nat) : Int) := by simp
  have c2 : ((2 : Int) ^ (32 * j + r)) = ((2 ^ (32 * j + r) : Nat) : Int) := by simp
  rw [e1, c1, c2]
  have h2 := congrArg (fun n : Nat => (n : Int)) h
  simp only [Int.natCast_ediv, Int.natCast_emod] at h2
  simp only [Int.natCast_ediv]
  exact h2
end Go.Proofs.Ytllkhgcokbpggaa
