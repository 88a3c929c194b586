/- Contracts of the document's answers: low, Size, Of, From, Zero, Words. -/
import Derived.Test.YtmdcfnifbkpedaaWd
import Derived.Test.YtmdcfnifbkpedaaFm
import Derived.Test.YtmdcfnifbkpedaaFx
namespace Go.Proofs.Ytmdcfnifbkpedaa
open Go.RowKit

theorem low_any (n : Int) (w : World) (n0 : 0 ≤ n) (n1 : n ≤ 18446744073709551615) :
    Calls Try.prog 53 #[.int .u64 n] w fun e w' => e = .returned (.int .u64 (n % 4294967296)) ∧ w' = w := by
  go_enter Try.func53, Try.ntmps53
  go_wp2
  go_ret
  exact ⟨rfl, rfl⟩
theorem Size_any (n : Int) (w : World) (h0 : -9223372036854775808 ≤ n) (h1 : n ≤ 9223372036854775807) :
    Calls Try.prog 52 #[.int .i64 n] w fun e w' => e = .returned (.int .u64 n.natAbs) ∧ w' = w := by
  by_cases p : n < 0
  · go_enter Try.func52, Try.ntmps52
    go_wp2
    go_ret
    exact ⟨retI (by first | omega | (rw [IntKind.wrap_u64]; omega)), rfl⟩
  · go_enter Try.func52, Try.ntmps52
    go_wp2
    go_ret
    exact ⟨retI (by first | omega | (rw [IntKind.wrap_u64]; omega)), rfl⟩
theorem retN {b b' : Bool} {x0 x1 x2 x3 y0 y1 y2 y3 : Int} (h : b = b') (h0 : x0 = y0) (h1 : x1 = y1) (h2 : x2 = y2) (h3 : x3 = y3) : Ending.returned (.agg #[.bool b, .int .u64 x0, .int .u64 x1, .int .u64 x2, .int .u64 x3]) = .returned (.agg #[.bool b', .int .u64 y0, .int .u64 y1, .int .u64 y2, .int .u64 y3]) := by rw [h, h0, h1, h2, h3]
theorem rOf_any (n : Int) (w : World) (h0 : -9223372036854775808 ≤ n) (h1 : n ≤ 9223372036854775807) :
    Calls Try.prog 34 #[.int .i64 n] w fun e w' => e = .returned (.agg #[.bool (decide (n < 0)), .int .u64 (d0 (n.natAbs)), .int .u64 (d1 (n.natAbs)), .int .u64 (d2 (n.natAbs)), .int .u64 (d3 (n.natAbs))]) ∧ Below w.heap.size w w' := by
  have b0 : (0 : Int) ≤ n.natAbs := by omega
  have b1 : (n.natAbs : Int) ≤ 18446744073709551615 := by omega
  have K := Lib.hid (of_d n.natAbs b1 b0)
  go_enter Try.func34, Try.ntmps34
  go_wp2_with fail
  refine (Size_any n _ h0 h1).mono ?_
  rintro e w1 ⟨rfl, rfl⟩
  go_wp2_with fail
  refine (low_any _ _ b0 b1).mono ?_
  rintro e w1 ⟨rfl, rfl⟩
  go_wp2
  exact bodyPost_ret (v := .agg #[.bool (decide (n < 0)), .int .u64 ((n.natAbs : Int) % 4294967296), .int .u64 ((n.natAbs : Int) / 4294967296), .int .u64 0, .int .u64 0]) (by simp [results, Try.results34, go_sem]) rfl ⟨retN rfl K.out.1 K.out.2.1 K.out.2.2.1 K.out.2.2.2, by repeat (first | exact Below.refl _ _ | assumption | refine Below.setCell ?_ (by first | omega | (simp; done) | (simp; omega)) _ | refine Below.alloc ?_ (by first | omega | (simp; done) | (simp; omega)) _ | refine below_drewN ?_ _ | refine Below.drew ?_ | refine Below.trans ?_ (Below.mono (by assumption) (by first | omega | (simp; done) | (simp; omega))))⟩

theorem Zero_any (b : Bool) (m : Int) (w : World) (m0 : 0 ≤ m) (m1 : m < 340282366920938463463374607431768211456) :
    Calls Try.prog 61 #[.agg #[.bool (b), .int .u64 (d0 (m)), .int .u64 (d1 (m)), .int .u64 (d2 (m)), .int .u64 (d3 (m))]] w fun e w' => e = .returned (.bool (decide (m = 0))) ∧ Below w.heap.size w w' := by
  have K := Lib.hid (isD_of m0 m1).e
  have D := d_bd m
  generalize d0 m = a0 at *
  generalize d1 m = a1 at *
  generalize d2 m = a2 at *
  generalize d3 m = a3 at *
  go_enter Try.func61, Try.ntmps61
  go_wp2
  all_goals
    go_ret
    exact ⟨retB (by have := K.out; rw [Bool.eq_iff_iff]; simp; omega), by repeat (first | exact Below.refl _ _ | assumption | refine Below.setCell ?_ (by first | omega | (simp; done) | (simp; omega)) _ | refine Below.alloc ?_ (by first | omega | (simp; done) | (simp; omega)) _ | refine below_drewN ?_ _ | refine Below.drew ?_ | refine Below.trans ?_ (Below.mono (by assumption) (by first | omega | (simp; done) | (simp; omega))))⟩
theorem from_pos {h l n : Int} (k : IsW h l n) (p : ¬ h < 0) : h * 18446744073709551616 + l = n.natAbs := by
  obtain ⟨_, _, _, _, _⟩ := k
  omega
theorem from_neg0 {h l n x y z u : Int} (k : IsW h l n) (p : h < 0) (q : l = 0) (hx : x = h + 18446744073709551616) (hy : y = 18446744073709551615 - x) (_hz : z = 18446744073709551615 - l) (hu : u = y + 1) :
    0 ≤ u ∧ u ≤ 18446744073709551615 ∧ u * 18446744073709551616 + 0 = n.natAbs := by
  obtain ⟨_, _, _, _, _⟩ := k
  omega
theorem from_neg1 {h l n x y z : Int} (k : IsW h l n) (p : h < 0) (_q : ¬ l = 0) (hx : x = h + 18446744073709551616) (hy : y = 18446744073709551615 - x) (hz : z = 18446744073709551615 - l) :
    y * 18446744073709551616 + (z + 1) = n.natAbs := by
  obtain ⟨_, _, _, _, _⟩ := k
  omega
theorem From_any (h l n : Int) (w : World) (k : IsW h l n) :
    Calls Try.prog 39 #[.int .i64 h, .int .u64 l] w fun e w' => e = .returned (.agg #[.bool (decide (n < 0)), .int .u64 (d0 (n.natAbs)), .int .u64 (d1 (n.natAbs)), .int .u64 (d2 (n.natAbs)), .int .u64 (d3 (n.natAbs))]) ∧ Below w.heap.size w w' := by
  have K := Lib.hid k
  obtain ⟨h0, h1, l0, l1, -⟩ := k
  have sg := sgn_u64
  by_cases p : h < 0
  · obtain ⟨x, hx⟩ : ∃ x, IntKind.u64.wrap h = x := ⟨_, rfl⟩
    have ex : x = h + 18446744073709551616 := by rw [← hx, IntKind.wrap_u64]; omega
    obtain ⟨y, hy, y0, y1, Hy⟩ := turn_ex x (by omega) (by omega)
    obtain ⟨z, hz, z0, z1, Hz⟩ := turn_ex l l0 l1
    by_cases q : l = 0
    · obtain ⟨v, hv⟩ : ∃ v, IntKind.u64.wrap (z + 1) = v := ⟨_, rfl⟩
      have hv0 : v = 0 := by rw [← hv, IntKind.wrap_u64, Hz.out, q]; rfl
      subst hv0
      have K2 := from_neg0 K.out p q ex Hy.out Hz.out rfl
      have K3 := Lib.hid (wide_d K2.1 K2.2.1 (by omega) (by omega) K2.2.2)
      have u1 := K2.2.1
      clear ex q K2
      go_enter Try.func39, Try.ntmps39
      go_wp2_with fail
      refine (low_any _ _ (by omega) (by omega)).mono ?_
      rintro e w1 ⟨rfl, rfl⟩
      go_wp2_with fail
      refine (low_any _ _ (by omega) (by omega)).mono ?_
      rintro e w1 ⟨rfl, rfl⟩
      go_wp2
      refine bodyPost_ret (v := .agg #[.bool (decide (n < 0)), .int .u64 (d0 (n.natAbs)), .int .u64 (d1 (n.natAbs)), .int .u64 (d2 (n.natAbs)), .int .u64 (d3 (n.natAbs))]) (by simp [results, Try.results39, go_sem]; exact ⟨by obtain ⟨_, _, _, _, _⟩ := K.out; omega, K3.out.1, K3.out.2.1, K3.out.2.2.1, K3.out.2.2.2⟩) rfl ⟨rfl, by repeat (first | exact Below.refl _ _ | assumption | refine Below.setCell ?_ (by first | omega | (simp; done) | (simp; omega)) _ | refine Below.alloc ?_ (by first | omega | (simp; done) | (simp; omega)) _ | refine below_drewN ?_ _ | refine Below.drew ?_ | refine Below.trans ?_ (Below.mono (by assumption) (by first | omega | (simp; done) | (simp; omega))))⟩
    · have zb : z + 1 ≤ 18446744073709551615 := by have := Hz.out; omega
      have K2 := from_neg1 K.out p q ex Hy.out Hz.out
      have K3 := Lib.hid (wide_d y0 y1 (show 0 ≤ z + 1 by omega) zb K2)
      have t : (z + 1 == 0) = false := by simp; omega
      clear ex q K2
      go_enter Try.func39, Try.ntmps39
      go_wp2_with fail
      refine (low_any _ _ (by omega) (by omega)).mono ?_
      rintro e w1 ⟨rfl, rfl⟩
      go_wp2_with fail
      refine (low_any _ _ (by omega) (by omega)).mono ?_
      rintro e w1 ⟨rfl, rfl⟩
      go_wp2
      refine bodyPost_ret (v := .agg #[.bool (decide (n < 0)), .int .u64 (d0 (n.natAbs)), .int .u64 (d1 (n.natAbs)), .int .u64 (d2 (n.natAbs)), .int .u64 (d3 (n.natAbs))]) (by simp [results, Try.results39, go_sem]; exact ⟨by obtain ⟨_, _, _, _, _⟩ := K.out; omega, K3.out.1, K3.out.2.1, K3.out.2.2.1, K3.out.2.2.2⟩) rfl ⟨rfl, by repeat (first | exact Below.refl _ _ | assumption | refine Below.setCell ?_ (by first | omega | (simp; done) | (simp; omega)) _ | refine Below.alloc ?_ (by first | omega | (simp; done) | (simp; omega)) _ | refine below_drewN ?_ _ | refine Below.drew ?_ | refine Below.trans ?_ (Below.mono (by assumption) (by first | omega | (simp; done) | (simp; omega))))⟩
  · have K2 := from_pos K.out p
    have K3 := Lib.hid (wide_d (show 0 ≤ h by omega) (by omega) l0 l1 K2)
    clear K2
    go_enter Try.func39, Try.ntmps39
    go_wp2_with fail
    refine (low_any _ _ (by omega) (by omega)).mono ?_
    rintro e w1 ⟨rfl, rfl⟩
    go_wp2_with fail
    refine (low_any _ _ (by omega) (by omega)).mono ?_
    rintro e w1 ⟨rfl, rfl⟩
    go_wp2
    refine bodyPost_ret (v := .agg #[.bool (decide (n < 0)), .int .u64 (d0 (n.natAbs)), .int .u64 (d1 (n.natAbs)), .int .u64 (d2 (n.natAbs)), .int .u64 (d3 (n.natAbs))]) (by simp [results, Try.results39, go_sem]; exact ⟨by obtain ⟨_, _, _, _, _⟩ := K.out; omega, K3.out.1, K3.out.2.1, K3.out.2.2.1, K3.out.2.2.2⟩) rfl ⟨rfl, by repeat (first | exact Below.refl _ _ | assumption | refine Below.setCell ?_ (by first | omega | (simp; done) | (simp; omega)) _ | refine Below.alloc ?_ (by first | omega | (simp; done) | (simp; omega)) _ | refine below_drewN ?_ _ | refine Below.drew ?_ | refine Below.trans ?_ (Below.mono (by assumption) (by first | omega | (simp; done) | (simp; omega))))⟩

theorem words_no {b : Bool} {m : Int} (m0 : 0 ≤ m) (m1 : m < 340282366920938463463374607431768211456) (h : 9223372036854775808 < m / 18446744073709551616 ∨ m / 18446744073709551616 = 9223372036854775808 ∧ (m % 18446744073709551616 ≠ 0 ∨ b = false)) : 0 = hiW (clipW (sgnW b m)) ∧ 0 = loW (clipW (sgnW b m)) ∧ false = fitW (sgnW b m) := by
  refine clip_no ?_
  unfold In128 sgnW
  cases b
  · simp; omega
  · simp at h ⊢; omega
theorem words_yes {b : Bool} {m : Int} (m0 : 0 ≤ m) (m1 : m < 340282366920938463463374607431768211456) (h : ¬ (9223372036854775808 < m / 18446744073709551616 ∨ m / 18446744073709551616 = 9223372036854775808 ∧ (m % 18446744073709551616 ≠ 0 ∨ b = false))) : In128 (sgnW b m) := by
  unfold In128 sgnW
  cases b
  · simp at h ⊢; omega
  · simp at h ⊢; omega
theorem ret3 {a a' c c' : Int} {x x' : Bool} (h1 : a = a') (h2 : c = c') (h3 : x = x') : Ending.returned (.tuple #[.int .i64 a, .int .u64 c, .bool x]) = .returned (.tuple #[.int .i64 a', .int .u64 c', .bool x']) := by rw [h1, h2, h3]
theorem clip_of {n : Int} (k : In128 n) : clipW n = n ∧ fitW n = true := by
  refine ⟨by unfold clipW; rw [if_pos k], by simp [fitW, k]⟩
theorem words_pos {m H L : Int} (k : In128 (sgnW false m)) (eH : m / 18446744073709551616 = H) (eL : m % 18446744073709551616 = L) (h0 : 0 ≤ H) (h1 : H ≤ 9223372036854775807) :
    Ending.returned (.tuple #[.int .i64 (wrap64 H), .int .u64 L, .bool true]) = .returned (.tuple #[.int .i64 (hiW (clipW (sgnW false m))), .int .u64 (loW (clipW (sgnW false m))), .bool (fitW (sgnW false m))]) := by
  have c := clip_of k
  rw [c.1, c.2]
  exact ret3 (by unfold hiW sgnW wrap64; simp; omega) (by unfold loW sgnW; simp; omega) rfl
theorem words_neg0 {m H L y v : Int} (k : In128 (sgnW true m)) (eH : m / 18446744073709551616 = H) (eL : m % 18446744073709551616 = L) (h0 : 0 ≤ H) (h1 : H ≤ 9223372036854775808) (q : L = 0) (hy : y = 18446744073709551615 - H) (hv : IntKind.u64.wrap (y + 1) = v) :
    Ending.returned (.tuple #[.int .i64 (wrap64 v), .int .u64 0, .bool true]) = .returned (.tuple #[.int .i64 (hiW (clipW (sgnW true m))), .int .u64 (loW (clipW (sgnW true m))), .bool (fitW (sgnW true m))]) := by
  have c := clip_of k
  rw [c.1, c.2]
  rw [IntKind.wrap_u64] at hv
  exact ret3 (by unfold hiW sgnW wrap64; simp; omega) (by unfold loW sgnW; simp; omega) rfl
theorem words_neg1 {m H L y z : Int} (k : In128 (sgnW true m)) (eH : m / 18446744073709551616 = H) (eL : m % 18446744073709551616 = L) (h0 : 0 ≤ H) (h1 : H ≤ 9223372036854775807) (q : ¬ L = 0) (hy : y = 18446744073709551615 - H) (hz : z = 18446744073709551615 - L) :
    Ending.returned (.tuple #[.int .i64 (wrap64 y), .int .u64 (z + 1), .bool true]) = .returned (.tuple #[.int .i64 (hiW (clipW (sgnW true m))), .int .u64 (loW (clipW (sgnW true m))), .bool (fitW (sgnW true m))]) := by
  have c := clip_of k
  rw [c.1, c.2]
  exact ret3 (by unfold hiW sgnW wrap64; simp; omega) (by unfold loW sgnW; simp; omega) rfl
set_option maxHeartbeats 2000000 in
theorem Words_any (b : Bool) (m : Int) (w : World) (m0 : 0 ≤ m) (m1 : m < 340282366920938463463374607431768211456) :
    Calls Try.prog 64 #[.agg #[.bool (b), .int .u64 (d0 (m)), .int .u64 (d1 (m)), .int .u64 (d2 (m)), .int .u64 (d3 (m))]] w fun e w' => e = .returned (.tuple #[.int .i64 (hiW (clipW (sgnW b m))), .int .u64 (loW (clipW (sgnW b m))), .bool (fitW (sgnW b m))]) ∧ Below w.heap.size w w' := by
  have dh := (d_hi m0 m1).1
  have dl := (d_hi m0 m1).2
  have D := d_bd m
  obtain ⟨H, eH⟩ : ∃ H, m / 18446744073709551616 = H := ⟨_, rfl⟩
  obtain ⟨L, eL⟩ : ∃ L, m % 18446744073709551616 = L := ⟨_, rfl⟩
  have H0 : 0 ≤ H := by omega
  have H1 : H ≤ 18446744073709551615 := by omega
  have L0 : 0 ≤ L := by omega
  have L1 : L ≤ 18446744073709551615 := by omega
  rw [eH] at dh
  rw [eL] at dl
  have EH := Lib.hid eH
  have EL := Lib.hid eL
  have M0 := Lib.hid m0
  have M1 := Lib.hid m1
  clear eH eL m0 m1
  have sg := sgn_u64
  by_cases c1 : 9223372036854775808 < H
  · have K := Lib.hid (words_no (b := b) M0.out M1.out (by rw [EH.out]; exact .inl c1))
    go_enter Try.func64, Try.ntmps64
    go_wp2
    go_ret3
    exact ⟨ret3 K.out.1 K.out.2.1 K.out.2.2, by repeat (first | exact Below.refl _ _ | assumption | refine Below.setCell ?_ (by first | omega | (simp; done) | (simp; omega)) _ | refine Below.alloc ?_ (by first | omega | (simp; done) | (simp; omega)) _ | refine below_drewN ?_ _ | refine Below.drew ?_ | refine Below.trans ?_ (Below.mono (by assumption) (by first | omega | (simp; done) | (simp; omega))))⟩
  · by_cases c2 : H = 9223372036854775808
    · have t1 : (H == 9223372036854775808) = true := by simp; omega
      by_cases c3 : L = 0
      · cases b with
        | false =>
          have K := Lib.hid (words_no (b := false) M0.out M1.out (by rw [EH.out]; exact .inr ⟨c2, .inr rfl⟩))
          have t2 : (L != 0) = false := by simp; omega
          clear c2 c3
          go_enter Try.func64, Try.ntmps64
          go_wp2
          go_ret3
          exact ⟨ret3 K.out.1 K.out.2.1 K.out.2.2, by repeat (first | exact Below.refl _ _ | assumption | refine Below.setCell ?_ (by first | omega | (simp; done) | (simp; omega)) _ | refine Below.alloc ?_ (by first | omega | (simp; done) | (simp; omega)) _ | refine below_drewN ?_ _ | refine Below.drew ?_ | refine Below.trans ?_ (Below.mono (by assumption) (by first | omega | (simp; done) | (simp; omega))))⟩
        | true =>
          have K := Lib.hid (words_yes (b := true) M0.out M1.out (by rw [EH.out, EL.out]; simp; omega))
          have t2 : (L != 0) = false := by simp; omega
          obtain ⟨y, hy, y0, y1, Hy⟩ := turn_ex H H0 H1
          obtain ⟨z, hz, z0, z1, Hz⟩ := turn_ex L L0 L1
          obtain ⟨u, hu⟩ : ∃ u, IntKind.u64.wrap (z + 1) = u := ⟨_, rfl⟩
          have hu0 : u = 0 := by rw [← hu, IntKind.wrap_u64, Hz.out, c3]; rfl
          subst hu0
          obtain ⟨v, hv⟩ : ∃ v, IntKind.u64.wrap (y + 1) = v := ⟨_, rfl⟩
          have HV := Lib.hid (words_neg0 K.out EH.out EL.out H0 (by omega) c3 Hy.out hv)
          clear c2 c3
          go_enter Try.func64, Try.ntmps64
          go_wp2
          go_ret3
          exact ⟨HV.out, by repeat (first | exact Below.refl _ _ | assumption | refine Below.setCell ?_ (by first | omega | (simp; done) | (simp; omega)) _ | refine Below.alloc ?_ (by first | omega | (simp; done) | (simp; omega)) _ | refine below_drewN ?_ _ | refine Below.drew ?_ | refine Below.trans ?_ (Below.mono (by assumption) (by first | omega | (simp; done) | (simp; omega))))⟩
      · have K := Lib.hid (words_no (b := b) M0.out M1.out (by rw [EH.out, EL.out]; exact .inr ⟨c2, .inl c3⟩))
        have t2 : (L != 0) = true := by simp; omega
        clear c2 c3
        go_enter Try.func64, Try.ntmps64
        go_wp2
        go_ret3
        exact ⟨ret3 K.out.1 K.out.2.1 K.out.2.2, by repeat (first | exact Below.refl _ _ | assumption | refine Below.setCell ?_ (by first | omega | (simp; done) | (simp; omega)) _ | refine Below.alloc ?_ (by first | omega | (simp; done) | (simp; omega)) _ | refine below_drewN ?_ _ | refine Below.drew ?_ | refine Below.trans ?_ (Below.mono (by assumption) (by first | omega | (simp; done) | (simp; omega))))⟩
    · have t1 : (H == 9223372036854775808) = false := by simp; omega
      have K := Lib.hid (words_yes (b := b) M0.out M1.out (by rw [EH.out]; omega))
      cases b with
      | false =>
        have HV := Lib.hid (words_pos K.out EH.out EL.out H0 (by omega))
        clear c2
        go_enter Try.func64, Try.ntmps64
        go_wp2
        go_ret3
        exact ⟨HV.out, by repeat (first | exact Below.refl _ _ | assumption | refine Below.setCell ?_ (by first | omega | (simp; done) | (simp; omega)) _ | refine Below.alloc ?_ (by first | omega | (simp; done) | (simp; omega)) _ | refine below_drewN ?_ _ | refine Below.drew ?_ | refine Below.trans ?_ (Below.mono (by assumption) (by first | omega | (simp; done) | (simp; omega))))⟩
      | true =>
        by_cases c3 : L = 0
        ·
          obtain ⟨y, hy, y0, y1, Hy⟩ := turn_ex H H0 H1
          obtain ⟨z, hz, z0, z1, Hz⟩ := turn_ex L L0 L1
          obtain ⟨u, hu⟩ : ∃ u, IntKind.u64.wrap (z + 1) = u := ⟨_, rfl⟩
          have hu0 : u = 0 := by rw [← hu, IntKind.wrap_u64, Hz.out, c3]; rfl
          subst hu0
          obtain ⟨v, hv⟩ : ∃ v, IntKind.u64.wrap (y + 1) = v := ⟨_, rfl⟩
          have HV := Lib.hid (words_neg0 K.out EH.out EL.out H0 (by omega) c3 Hy.out hv)
          clear c2 c3
          go_enter Try.func64, Try.ntmps64
          go_wp2
          go_ret3
          exact ⟨HV.out, by repeat (first | exact Below.refl _ _ | assumption | refine Below.setCell ?_ (by first | omega | (simp; done) | (simp; omega)) _ | refine Below.alloc ?_ (by first | omega | (simp; done) | (simp; omega)) _ | refine below_drewN ?_ _ | refine Below.drew ?_ | refine Below.trans ?_ (Below.mono (by assumption) (by first | omega | (simp; done) | (simp; omega))))⟩
        ·
          obtain ⟨y, hy, y0, y1, Hy⟩ := turn_ex H H0 H1
          obtain ⟨z, hz, z0, z1, Hz⟩ := turn_ex L L0 L1
          have zb : z + 1 ≤ 18446744073709551615 := by have := Hz.out; omega
          have t3 : (z + 1 == 0) = false := by simp; omega
          have HV := Lib.hid (words_neg1 K.out EH.out EL.out H0 (by omega) c3 Hy.out Hz.out)
          clear c2 c3
          go_enter Try.func64, Try.ntmps64
          go_wp2
          go_ret3
          exact ⟨HV.out, by repeat (first | exact Below.refl _ _ | assumption | refine Below.setCell ?_ (by first | omega | (simp; done) | (simp; omega)) _ | refine Below.alloc ?_ (by first | omega | (simp; done) | (simp; omega)) _ | refine below_drewN ?_ _ | refine Below.drew ?_ | refine Below.trans ?_ (Below.mono (by assumption) (by first | omega | (simp; done) | (simp; omega))))⟩
end Go.Proofs.Ytmdcfnifbkpedaa
