/- Contracts of the document's answers for fx: bound, signed, Add, Sub, Neg, Abs, Of, Floor, Clamp. -/
import Derived.Test.YtbigjdhehaihoaaGa
import Derived.Test.YtbigjdhehaihoaaGf
import Derived.Test.YtbigjdhehaihoaaFm
namespace Go.Proofs.Ytbigjdhehaihoaa
open Go.RowKit

def boundI (neg : Bool) : Int := if neg = true then -9223372036854775808 else 9223372036854775807
theorem FxW.put' {w : World} {b k : Nat} {o : Bool} : FxW w.heap.size w b k o (w.setCell ⟨b, k, none⟩ (.bool o)) := Below.refl _ _
theorem rbound_any (b k : Nat) (o neg : Bool) (w : World) (m : MAt w b k o) :
    Calls Try.prog 64 #[.pointer (some ⟨b, k, none⟩), .bool neg] w fun e w' => e = .returned (.int .i64 (boundI neg)) ∧ w' = w.setCell ⟨b, k, none⟩ (.bool true) := by
  have c := m.c
  have f := m.f
  cases neg with
  | true =>
    go_enter Try.func64, Try.ntmps64
    go_wp2
    go_ret
    exact ⟨retI rfl, rfl⟩
  | false =>
    go_enter Try.func64, Try.ntmps64
    go_wp2
    go_ret
    exact ⟨retI rfl, rfl⟩
theorem clip_low {n : Int} (h : n < -9223372036854775808) : boundI true = clip64 n ∧ out64 n = true := by
  refine ⟨by unfold clip64 boundI; rw [if_pos h, if_pos rfl], by unfold out64; rw [decide_eq_true_iff]; omega⟩
theorem clip_high {n : Int} (h : 9223372036854775807 < n) : boundI false = clip64 n ∧ out64 n = true := by
  refine ⟨by show (9223372036854775807 : Int) = clip64 n; unfold clip64; rw [if_neg (by omega), if_pos h], by unfold out64; rw [decide_eq_true_iff]; omega⟩
theorem clip_fit {n m : Int} (e : m = n) (h0 : -9223372036854775808 ≤ n) (h1 : n ≤ 9223372036854775807) : m = clip64 n ∧ out64 n = false := by
  have := clip64_of (n := n) ⟨h0, h1⟩
  exact ⟨e.trans this.1.symm, this.2⟩
set_option maxHeartbeats 1000000 in
theorem rsigned_any (n : Int) (b k : Nat) (o neg : Bool) (w : World) (n0 : 0 ≤ n) (n1 : n ≤ 18446744073709551615) (m : MAt w b k o) :
    Calls Try.prog 67 #[.pointer (some ⟨b, k, none⟩), .bool neg, .int .u64 n] w fun e w' => e = .returned (.int .i64 (clip64 (sgnW neg n))) ∧ FxW w.heap.size w b k (o || out64 (sgnW neg n)) w' := by
  have HM := Lib.hid m
  clear m
  cases neg with
  | true =>
    by_cases p : n = 9223372036854775808
    · have K := Lib.hid (clip_fit (n := sgnW true n) (m := -9223372036854775808) (by unfold sgnW; rw [p]; rfl) (by unfold sgnW; rw [p]; decide) (by unfold sgnW; rw [p]; decide))
      have t : (n == 9223372036854775808) = true := by simp; exact p
      clear p
      go_enter Try.func67, Try.ntmps67
      go_wp2
      go_ret
      exact ⟨retI K.out.1, by rw [K.out.2, Bool.or_false]; exact FxW.refl HM.out⟩
    · have t : (n == 9223372036854775808) = false := by simp; exact p
      by_cases q : 9223372036854775807 < n
      · have K := Lib.hid (clip_low (n := sgnW true n) (by unfold sgnW; simp; omega))
        clear p
        go_enter Try.func67, Try.ntmps67
        go_wp2_with fail
        refine (rbound_any b k o _ _ HM.out).mono ?_
        rintro e w3 ⟨rfl, rfl⟩
        go_wp2
        go_ret
        exact ⟨retI K.out.1, by rw [K.out.2, Bool.or_true]; exact FxW.put'⟩
      · have K := Lib.hid (clip_fit (n := sgnW true n) (m := -n) (by unfold sgnW; simp) (by unfold sgnW; simp; omega) (by unfold sgnW; simp; omega))
        clear p
        go_enter Try.func67, Try.ntmps67
        go_wp2
        go_ret
        exact ⟨retI K.out.1, by rw [K.out.2, Bool.or_false]; exact FxW.refl HM.out⟩
  | false =>
    by_cases q : 9223372036854775807 < n
    · have K := Lib.hid (clip_high (n := sgnW false n) (by unfold sgnW; simp; omega))
      go_enter Try.func67, Try.ntmps67
      go_wp2_with fail
      refine (rbound_any b k o _ _ HM.out).mono ?_
      rintro e w3 ⟨rfl, rfl⟩
      go_wp2
      go_ret
      exact ⟨retI K.out.1, by rw [K.out.2, Bool.or_true]; exact FxW.put'⟩
    · have K := Lib.hid (clip_fit (n := sgnW false n) (m := n) (by unfold sgnW; simp) (by unfold sgnW; simp; omega) (by unfold sgnW; simp; omega))
      go_enter Try.func67, Try.ntmps67
      go_wp2
      go_ret
      exact ⟨retI K.out.1, by rw [K.out.2, Bool.or_false]; exact FxW.refl HM.out⟩
set_option maxHeartbeats 1000000 in
theorem rfAdd_any (x y : Int) (b k : Nat) (o : Bool) (w : World) (x0 : -9223372036854775808 ≤ x) (x1 : x ≤ 9223372036854775807) (y0 : -9223372036854775808 ≤ y) (y1 : y ≤ 9223372036854775807) (m : MAt w b k o) :
    Calls Try.prog 24 #[.pointer (some ⟨b, k, none⟩), .int .i64 x, .int .i64 y] w fun e w' => e = .returned (.int .i64 (addF x y)) ∧ FxW w.heap.size w b k (o || addO x y) w' := by
  have HM := Lib.hid m
  clear m
  by_cases p : 0 < y
  · by_cases q : 9223372036854775807 - y < x
    · have K := Lib.hid (show boundI false = addF x y ∧ addO x y = true from clip_high (by omega))
      go_enter Try.func24, Try.ntmps24
      go_wp2_with fail
      refine (rbound_any b k o _ _ HM.out).mono ?_
      rintro e w3 ⟨rfl, rfl⟩
      go_wp2
      go_ret
      exact ⟨retI K.out.1, by rw [K.out.2, Bool.or_true]; exact FxW.put'⟩
    · have K := Lib.hid (show x + y = addF x y ∧ addO x y = false from clip_fit rfl (by omega) (by omega))
      go_enter Try.func24, Try.ntmps24
      go_wp2
      go_ret
      exact ⟨retI K.out.1, by rw [K.out.2, Bool.or_false]; exact FxW.refl HM.out⟩
  · by_cases r : y < 0
    · by_cases q : x < -9223372036854775808 - y
      · have K := Lib.hid (show boundI true = addF x y ∧ addO x y = true from clip_low (by omega))
        go_enter Try.func24, Try.ntmps24
        go_wp2_with fail
        refine (rbound_any b k o _ _ HM.out).mono ?_
        rintro e w3 ⟨rfl, rfl⟩
        go_wp2
        go_ret
        exact ⟨retI K.out.1, by rw [K.out.2, Bool.or_true]; exact FxW.put'⟩
      · have K := Lib.hid (show x + y = addF x y ∧ addO x y = false from clip_fit rfl (by omega) (by omega))
        go_enter Try.func24, Try.ntmps24
        go_wp2
        go_ret
        exact ⟨retI K.out.1, by rw [K.out.2, Bool.or_false]; exact FxW.refl HM.out⟩
    · have K := Lib.hid (show x + y = addF x y ∧ addO x y = false from clip_fit rfl (by omega) (by omega))
      go_enter Try.func24, Try.ntmps24
      go_wp2
      go_ret
      exact ⟨retI K.out.1, by rw [K.out.2, Bool.or_false]; exact FxW.refl HM.out⟩
set_option maxHeartbeats 1000000 in
theorem rfSub_any (x y : Int) (b k : Nat) (o : Bool) (w : World) (x0 : -9223372036854775808 ≤ x) (x1 : x ≤ 9223372036854775807) (y0 : -9223372036854775808 ≤ y) (y1 : y ≤ 9223372036854775807) (m : MAt w b k o) :
    Calls Try.prog 26 #[.pointer (some ⟨b, k, none⟩), .int .i64 x, .int .i64 y] w fun e w' => e = .returned (.int .i64 (subF x y)) ∧ FxW w.heap.size w b k (o || subO x y) w' := by
  have HM := Lib.hid m
  clear m
  by_cases p : y < 0
  · by_cases q : 9223372036854775807 + y < x
    · have K := Lib.hid (show boundI false = subF x y ∧ subO x y = true from clip_high (by omega))
      go_enter Try.func26, Try.ntmps26
      go_wp2_with fail
      refine (rbound_any b k o _ _ HM.out).mono ?_
      rintro e w3 ⟨rfl, rfl⟩
      go_wp2
      go_ret
      exact ⟨retI K.out.1, by rw [K.out.2, Bool.or_true]; exact FxW.put'⟩
    · have K := Lib.hid (show x - y = subF x y ∧ subO x y = false from clip_fit rfl (by omega) (by omega))
      go_enter Try.func26, Try.ntmps26
      go_wp2
      go_ret
      exact ⟨retI K.out.1, by rw [K.out.2, Bool.or_false]; exact FxW.refl HM.out⟩
  · by_cases r : 0 < y
    · by_cases q : x < -9223372036854775808 + y
      · have K := Lib.hid (show boundI true = subF x y ∧ subO x y = true from clip_low (by omega))
        go_enter Try.func26, Try.ntmps26
        go_wp2_with fail
        refine (rbound_any b k o _ _ HM.out).mono ?_
        rintro e w3 ⟨rfl, rfl⟩
        go_wp2
        go_ret
        exact ⟨retI K.out.1, by rw [K.out.2, Bool.or_true]; exact FxW.put'⟩
      · have K := Lib.hid (show x - y = subF x y ∧ subO x y = false from clip_fit rfl (by omega) (by omega))
        go_enter Try.func26, Try.ntmps26
        go_wp2
        go_ret
        exact ⟨retI K.out.1, by rw [K.out.2, Bool.or_false]; exact FxW.refl HM.out⟩
    · have K := Lib.hid (show x - y = subF x y ∧ subO x y = false from clip_fit rfl (by omega) (by omega))
      go_enter Try.func26, Try.ntmps26
      go_wp2
      go_ret
      exact ⟨retI K.out.1, by rw [K.out.2, Bool.or_false]; exact FxW.refl HM.out⟩
theorem rfNeg_any (x : Int) (b k : Nat) (o : Bool) (w : World) (x0 : -9223372036854775808 ≤ x) (x1 : x ≤ 9223372036854775807) (m : MAt w b k o) :
    Calls Try.prog 28 #[.pointer (some ⟨b, k, none⟩), .int .i64 x] w fun e w' => e = .returned (.int .i64 (subF 0 x)) ∧ FxW w.heap.size w b k (o || subO 0 x) w' := by
  go_enter Try.func28, Try.ntmps28
  go_wp2_with fail
  refine (rfSub_any 0 x b k o _ (by omega) (by omega) x0 x1 m).mono ?_
  rintro e w9 ⟨rfl, hb9⟩
  go_wp2
  go_ret
  exact ⟨rfl, hb9⟩
theorem rfAbs_any (x : Int) (b k : Nat) (o : Bool) (w : World) (x0 : -9223372036854775808 ≤ x) (x1 : x ≤ 9223372036854775807) (m : MAt w b k o) :
    Calls Try.prog 30 #[.pointer (some ⟨b, k, none⟩), .int .i64 x] w fun e w' => e = .returned (.int .i64 (absF x)) ∧ FxW w.heap.size w b k (o || absO x) w' := by
  by_cases p : x < 0
  · have K := Lib.hid (show subF 0 x = absF x ∧ subO 0 x = absO x from ⟨by unfold absF; rw [if_pos p], by unfold absO; rw [if_pos p]⟩)
    go_enter Try.func30, Try.ntmps30
    go_wp2_with fail
    refine (rfNeg_any x b k o _ x0 x1 m).mono ?_
    rintro e w9 ⟨rfl, hb9⟩
    go_wp2
    go_ret
    exact ⟨retI K.out.1, by rw [← K.out.2]; exact hb9⟩
  · have K := Lib.hid (show x = absF x ∧ false = absO x from ⟨by unfold absF; rw [if_neg p], by unfold absO; rw [if_neg p]⟩)
    go_enter Try.func30, Try.ntmps30
    go_wp2_with fail
    go_ret
    exact ⟨retI K.out.1, by rw [← K.out.2, Bool.or_false]; exact FxW.refl m⟩
set_option maxHeartbeats 1000000 in
theorem rfOf_any (x : Int) (b k : Nat) (o : Bool) (w : World) (x0 : -9223372036854775808 ≤ x) (x1 : x ≤ 9223372036854775807) (m : MAt w b k o) :
    Calls Try.prog 39 #[.pointer (some ⟨b, k, none⟩), .int .i64 x] w fun e w' => e = .returned (.int .i64 (ofF x)) ∧ FxW w.heap.size w b k (o || ofO x) w' := by
  have HM := Lib.hid m
  clear m
  by_cases p : 2147483647 < x
  · have K := Lib.hid (show boundI false = ofF x ∧ ofO x = true from clip_high (by omega))
    go_enter Try.func39, Try.ntmps39
    go_wp2_with fail
    refine (rbound_any b k o _ _ HM.out).mono ?_
    rintro e w3 ⟨rfl, rfl⟩
    go_wp2
    go_ret
    exact ⟨retI K.out.1, by rw [K.out.2, Bool.or_true]; exact FxW.put'⟩
  · by_cases q : x < -2147483648
    · have K := Lib.hid (show boundI true = ofF x ∧ ofO x = true from clip_low (by omega))
      go_enter Try.func39, Try.ntmps39
      go_wp2_with fail
      refine (rbound_any b k o _ _ HM.out).mono ?_
      rintro e w3 ⟨rfl, rfl⟩
      go_wp2
      go_ret
      exact ⟨retI K.out.1, by rw [K.out.2, Bool.or_true]; exact FxW.put'⟩
    · have K := Lib.hid (show x * 4294967296 = ofF x ∧ ofO x = false from clip_fit rfl (by omega) (by omega))
      go_enter Try.func39, Try.ntmps39
      go_wp2
      go_ret
      exact ⟨retI K.out.1, by rw [K.out.2, Bool.or_false]; exact FxW.refl HM.out⟩
theorem rfFloor_any (x : Int) (w : World) (x0 : -9223372036854775808 ≤ x) (x1 : x ≤ 9223372036854775807) :
    Calls Try.prog 41 #[.int .i64 x] w fun e w' => e = .returned (.int .i64 (x / 4294967296)) ∧ w' = w := by
  obtain ⟨t, ht⟩ : ∃ t, x.tdiv 4294967296 = t := ⟨_, rfl⟩
  by_cases p : 0 ≤ x
  · have e : x.tdiv 4294967296 = x / 4294967296 := Int.tdiv_eq_ediv_of_nonneg p
    have q : ¬ x < x / 4294967296 * 4294967296 := by omega
    clear ht e
    go_enter Try.func41, Try.ntmps41
    go_wp2
    go_ret
    exact ⟨rfl, rfl⟩
  · have e : t = -(-x / 4294967296) := by
      rw [← ht]
      have : x = -(-x) := by omega
      rw [this, Int.neg_tdiv, Int.tdiv_eq_ediv_of_nonneg (by omega)]; simp
    by_cases q : x < t * 4294967296
    · have K := Lib.hid (show t - 1 = x / 4294967296 by omega)
      have t0 : -2147483648 ≤ t := by omega
      have t1 : t ≤ 0 := by omega
      clear e
      go_enter Try.func41, Try.ntmps41
      go_wp2
      go_ret
      exact ⟨retI K.out, rfl⟩
    · have K := Lib.hid (show t = x / 4294967296 by omega)
      have t0 : -2147483648 ≤ t := by omega
      have t1 : t ≤ 0 := by omega
      clear e
      go_enter Try.func41, Try.ntmps41
      go_wp2
      go_ret
      exact ⟨retI K.out, rfl⟩
theorem rfClamp_any (a l h : Int) (w : World) :
    Calls Try.prog 43 #[.int .i64 a, .int .i64 l, .int .i64 h] w fun e w' => e = .returned (.int .i64 (clampF a l h)) ∧ w' = w := by
  by_cases p : a < l
  · have K := Lib.hid (show l = clampF a l h by unfold clampF; rw [if_pos p])
    go_enter Try.func43, Try.ntmps43
    go_wp2
    go_ret
    exact ⟨retI K.out, rfl⟩
  · by_cases q : h < a
    · have K := Lib.hid (show h = clampF a l h by unfold clampF; rw [if_neg p, if_pos q])
      go_enter Try.func43, Try.ntmps43
      go_wp2
      go_ret
      exact ⟨retI K.out, rfl⟩
    · have K := Lib.hid (show a = clampF a l h by unfold clampF; rw [if_neg p, if_neg q])
      go_enter Try.func43, Try.ntmps43
      go_wp2
      go_ret
      exact ⟨retI K.out, rfl⟩
end Go.Proofs.Ytbigjdhehaihoaa
