/- Contracts of package wide: Neg, signed, Mul; a number's length. -/
import Derived.Test.YtmdcfnifbkpedaaWd
import Derived.Test.YtmdcfnifbkpedaaSh
namespace Go.Proofs.Ytmdcfnifbkpedaa
open Go.RowKit

theorem neg_not {h l n : Int} (k : IsW h l n) (k0 : h = -9223372036854775808) (k1 : l = 0) : ¬ In128 (-n) := by
  obtain ⟨_, _, _, _, rfl⟩ := k
  unfold In128; omega
theorem neg_in {h l n : Int} (k : IsW h l n) (k0 : ¬ (h = -9223372036854775808 ∧ l = 0)) : In128 (-n) := by
  obtain ⟨_, _, _, _, rfl⟩ := k
  unfold In128; omega

theorem Neg_any (h1 l1 a : Int) (w : World) (ha : IsW h1 l1 a) :
    Calls Try.prog 76 #[.agg #[.int .i64 h1, .int .u64 l1]] w fun e w' => e = .returned (.tuple #[.agg #[.int .i64 (hiW (clipW (-a))), .int .u64 (loW (clipW (-a)))], .bool (fitW (-a))]) ∧ Below w.heap.size w w' := by
  have Ha := Lib.hid ha
  clear ha
  by_cases p : h1 = -9223372036854775808 ∧ l1 = 0
  · obtain ⟨rfl, rfl⟩ := p
    have K := Lib.hid (clip_no (neg_not Ha.out rfl rfl))
    go_enter Try.func76, Try.ntmps76
    go_wp2
    exact bodyPost_ret (v := .tuple #[.agg #[.int .i64 0, .int .u64 0], .bool false]) (by simp [results, Try.results76, go_sem]) rfl ⟨retWB K.out.1 K.out.2.1 K.out.2.2, by repeat (first | exact Below.refl _ _ | assumption | refine Below.setCell ?_ (by first | omega | (simp; done) | (simp; omega)) _ | refine Below.alloc ?_ (by first | omega | (simp; done) | (simp; omega)) _ | refine below_drewN ?_ _ | refine Below.drew ?_ | refine Below.trans ?_ (Below.mono (by assumption) (by first | omega | (simp; done) | (simp; omega))))⟩
  · have K := Lib.hid (clip_yes (neg_in Ha.out p))
    by_cases p1 : h1 = -9223372036854775808
    · subst p1
      have p2 : (l1 == 0) = false := by simpa using p
      clear p
      go_enter Try.func76, Try.ntmps76
      go_wp2_with fail
      refine (minus_any _ _ _ _ _ _ _ isW_zero Ha.out).mono ?_
      rintro e w1 ⟨rfl, hb⟩
      obtain ⟨hc_w1, hf_w1⟩ := bcell hb
      have z_w1 := hb.size
      try simp at z_w1
      have z0_w1 : w.heap.size < w1.heap.size := by omega
      have z1_w1 : w.heap.size + 1 < w1.heap.size := by omega
      have y_w1 : w.heap.size ≤ w1.heap.size := by omega
      go_wp2
      exact bodyPost_ret (v := .tuple #[.agg #[.int .i64 (hiW (wr128 (-a))), .int .u64 (loW (wr128 (-a)))], .bool true]) (by simp [results, Try.results76, go_sem, hc_w1]) rfl ⟨by rw [← K.out.1, ← K.out.2], by repeat (first | exact Below.refl _ _ | assumption | refine Below.setCell ?_ (by first | omega | (simp; done) | (simp; omega)) _ | refine Below.alloc ?_ (by first | omega | (simp; done) | (simp; omega)) _ | refine below_drewN ?_ _ | refine Below.drew ?_ | refine Below.trans ?_ (Below.mono (by assumption) (by first | omega | (simp; done) | (simp; omega))))⟩
    · have p2 : (h1 == -9223372036854775808) = false := by simpa using p1
      clear p p1
      go_enter Try.func76, Try.ntmps76
      go_wp2_with fail
      refine (minus_any _ _ _ _ _ _ _ isW_zero Ha.out).mono ?_
      rintro e w1 ⟨rfl, hb⟩
      obtain ⟨hc_w1, hf_w1⟩ := bcell hb
      have z_w1 := hb.size
      try simp at z_w1
      have z0_w1 : w.heap.size < w1.heap.size := by omega
      have z1_w1 : w.heap.size + 1 < w1.heap.size := by omega
      have y_w1 : w.heap.size ≤ w1.heap.size := by omega
      go_wp2
      exact bodyPost_ret (v := .tuple #[.agg #[.int .i64 (hiW (wr128 (-a))), .int .u64 (loW (wr128 (-a)))], .bool true]) (by simp [results, Try.results76, go_sem, hc_w1]) rfl ⟨by rw [← K.out.1, ← K.out.2], by repeat (first | exact Below.refl _ _ | assumption | refine Below.setCell ?_ (by first | omega | (simp; done) | (simp; omega)) _ | refine Below.alloc ?_ (by first | omega | (simp; done) | (simp; omega)) _ | refine below_drewN ?_ _ | refine Below.drew ?_ | refine Below.trans ?_ (Below.mono (by assumption) (by first | omega | (simp; done) | (simp; omega))))⟩

theorem signed_any (n : Int) (b : Bool) (w : World) (n0 : 0 ≤ n) (n1 : n ≤ 18446744073709551615) :
    Calls Try.prog 33 #[.int .u64 n, .bool b] w fun e w' => e = .returned (.tuple #[.int .i64 (sgnI n b), .bool (sgnB n b)]) ∧ w' = w := by
  cases b
  · by_cases h : n < 9223372036854775808
    · have K1 := Lib.hid (show n = sgnI n false by unfold sgnI; rw [if_neg (by decide), if_pos h])
      have K2 := Lib.hid (show true = sgnB n false by unfold sgnB; rw [if_neg (by decide)]; simp [h])
      go_enter Try.func33, Try.ntmps33
      go_wp2
      go_ret2
      exact ⟨retIB K1.out K2.out, rfl⟩
    · have K1 := Lib.hid (show 0 = sgnI n false by unfold sgnI; rw [if_neg (by decide), if_neg h])
      have K2 := Lib.hid (show false = sgnB n false by unfold sgnB; rw [if_neg (by decide)]; simp [h])
      go_enter Try.func33, Try.ntmps33
      go_wp2
      go_ret2
      exact ⟨retIB K1.out K2.out, rfl⟩
  · by_cases h : n ≤ 9223372036854775808
    · have K1 := Lib.hid (show -n = sgnI n true by unfold sgnI; rw [if_pos rfl, if_pos h])
      have K2 := Lib.hid (show true = sgnB n true by unfold sgnB; rw [if_pos rfl]; simp [h])
      go_enter Try.func33, Try.ntmps33
      go_wp2
      go_ret2
      exact ⟨retIB (by rw [← K1.out]; unfold wrap64; omega) K2.out, rfl⟩
    · have K1 := Lib.hid (show 0 = sgnI n true by unfold sgnI; rw [if_pos rfl, if_neg h])
      have K2 := Lib.hid (show false = sgnB n true by unfold sgnB; rw [if_pos rfl]; simp [h])
      go_enter Try.func33, Try.ntmps33
      go_wp2
      go_ret2
      exact ⟨retIB K1.out K2.out, rfl⟩

theorem Mul64_any (x y : Int) (w : World) (x0 : 0 ≤ x) (x1 : x ≤ 18446744073709551615) (y0 : 0 ≤ y) (y1 : y ≤ 18446744073709551615) :
    Calls Try.prog 48 #[.int .u64 x, .int .u64 y] w fun e w' => e = .returned (.tuple #[.int .u64 (x * y / 18446744073709551616), .int .u64 (x * y % 18446744073709551616)]) ∧ w' = w := by
  obtain ⟨X, rfl⟩ := Int.eq_ofNat_of_zero_le x0
  obtain ⟨Y, rfl⟩ := Int.eq_ofNat_of_zero_le y0
  exact Try.bits_Mul64 X Y (by omega) (by omega) w

/-- Mul64 at wrapped factors, its product under a name -/
theorem Mul64_w (a b x y : Int) (w : World) (ex : x = a ∧ 0 ≤ a ∨ x = a + 18446744073709551616 ∧ a < 0) (ey : y = b ∧ 0 ≤ b ∨ y = b + 18446744073709551616 ∧ b < 0)
    (a0 : -9223372036854775808 ≤ a) (a1 : a ≤ 9223372036854775807) (b0 : -9223372036854775808 ≤ b) (b1 : b ≤ 9223372036854775807) (X Y : Int) (hX : X = x) (hY : Y = y) :
    Calls Try.prog 48 #[.int .u64 X, .int .u64 Y] w fun e w' => ∃ p q : Int, e = .returned (.tuple #[.int .u64 p, .int .u64 q]) ∧ w' = w ∧ 0 ≤ p ∧ p ≤ 18446744073709551615 ∧ 0 ≤ q ∧ q ≤ 18446744073709551615 ∧ Hid (p * 18446744073709551616 + q = x * y) := by
  subst hX hY
  refine (Mul64_any X Y w (by omega) (by omega) (by omega) (by omega)).mono fun e w' h => ?_
  have hn : 0 ≤ X * Y := Int.mul_nonneg (by omega) (by omega)
  have hl : X * Y ≤ 18446744073709551615 * 18446744073709551615 := Int.mul_le_mul (by omega) (by omega) (by omega) (by omega)
  exact ⟨_, _, h.1, h.2, by omega, by omega, by omega, by omega, Lib.hid (by omega)⟩

theorem mul_pp {a b p q : Int} (h : p * 18446744073709551616 + q = a * b) (q0 : 0 ≤ q) (q1 : q ≤ 18446744073709551615) (a0 : 0 ≤ a) (a1 : a ≤ 9223372036854775807) (b0 : 0 ≤ b) (b1 : b ≤ 9223372036854775807) : wrap64 p = hiW (a * b) ∧ q = loW (a * b) := by
  have hl : a * b ≤ 9223372036854775807 * 9223372036854775807 := Int.mul_le_mul (by omega) (by omega) (by omega) (by omega)
  have hn : 0 ≤ a * b := Int.mul_nonneg (by omega) (by omega)
  unfold hiW loW wrap64; omega
theorem mul_bound {a b : Int} (a0 : -9223372036854775808 ≤ a) (a1 : a ≤ 9223372036854775808) (b0 : -9223372036854775808 ≤ b) (b1 : b ≤ 9223372036854775808) : -85070591730234615865843651857942052864 ≤ a * b ∧ a * b ≤ 85070591730234615865843651857942052864 := by
  have h1 : (a * b).natAbs ≤ 9223372036854775808 * 9223372036854775808 := by
    rw [Int.natAbs_mul]
    exact Nat.mul_le_mul (by omega) (by omega)
  omega
theorem mul_np {a b p q : Int} (h : p * 18446744073709551616 + q = (a + 18446744073709551616) * b) (q0 : 0 ≤ q) (q1 : q ≤ 18446744073709551615) (a0 : -9223372036854775808 ≤ a) (a1 : a < 0) (b0 : 0 ≤ b) (b1 : b ≤ 9223372036854775807) : wrap64 (IntKind.u64.wrap (p - b)) = hiW (a * b) ∧ q = loW (a * b) := by
  have hb := mul_bound (a := a) (b := b) (by omega) (by omega) (by omega) (by omega)
  rw [Int.add_mul] at h
  rw [IntKind.wrap_u64]
  unfold hiW loW wrap64; omega
theorem mul_pn {a b p q : Int} (h : p * 18446744073709551616 + q = a * (b + 18446744073709551616)) (q0 : 0 ≤ q) (q1 : q ≤ 18446744073709551615) (a0 : 0 ≤ a) (a1 : a ≤ 9223372036854775807) (b0 : -9223372036854775808 ≤ b) (b1 : b < 0) : wrap64 (IntKind.u64.wrap (p - a)) = hiW (a * b) ∧ q = loW (a * b) := by
  rw [Int.mul_comm a] at h
  rw [Int.mul_comm a b]
  exact mul_np h q0 q1 b0 b1 a0 a1
theorem mul_nn {a b p q : Int} (h : p * 18446744073709551616 + q = (a + 18446744073709551616) * (b + 18446744073709551616)) (q0 : 0 ≤ q) (q1 : q ≤ 18446744073709551615) (a0 : -9223372036854775808 ≤ a) (a1 : a < 0) (b0 : -9223372036854775808 ≤ b) (b1 : b < 0) :
    wrap64 (IntKind.u64.wrap (IntKind.u64.wrap (p - IntKind.u64.wrap b) - IntKind.u64.wrap a)) = hiW (a * b) ∧ q = loW (a * b) := by
  have hb := mul_bound (a := a) (b := b) (by omega) (by omega) (by omega) (by omega)
  rw [Int.add_mul, Int.mul_add] at h
  rw [IntKind.wrap_u64, IntKind.wrap_u64, IntKind.wrap_u64, IntKind.wrap_u64]
  unfold hiW loW wrap64; omega

set_option maxHeartbeats 1000000 in
theorem Mul_any (a b : Int) (w : World) (a0 : -9223372036854775808 ≤ a) (a1 : a ≤ 9223372036854775807) (b0 : -9223372036854775808 ≤ b) (b1 : b ≤ 9223372036854775807) :
    Calls Try.prog 27 #[.int .i64 a, .int .i64 b] w fun e w' => e = .returned (.agg #[.int .i64 (hiW (a * b)), .int .u64 (loW (a * b))]) ∧ Below w.heap.size w w' := by
  by_cases p : a < 0 <;> by_cases q : b < 0
  · go_enter Try.func27, Try.ntmps27
    go_wp2_with fail
    refine (Mul64_w a b (a + 18446744073709551616) (b + 18446744073709551616) _ (.inr ⟨rfl, p⟩) (.inr ⟨rfl, q⟩) a0 a1 b0 b1 _ _ (by rw [IntKind.wrap_u64]; omega) (by rw [IntKind.wrap_u64]; omega)).mono ?_
    rintro e w1 ⟨x, y, rfl, rfl, x0, x1, y0, y1, H⟩
    go_wp2
    exact bodyPost_ret (v := .agg #[.int .i64 (hiW (a * b)), .int .u64 (loW (a * b))]) (by simp [results, Try.results27, go_sem]; exact mul_nn H.out y0 y1 a0 (by omega) b0 (by omega)) rfl ⟨rfl, by repeat (first | exact Below.refl _ _ | assumption | refine Below.setCell ?_ (by first | omega | (simp; done) | (simp; omega)) _ | refine Below.alloc ?_ (by first | omega | (simp; done) | (simp; omega)) _ | refine below_drewN ?_ _ | refine Below.drew ?_ | refine Below.trans ?_ (Below.mono (by assumption) (by first | omega | (simp; done) | (simp; omega))))⟩
  · go_enter Try.func27, Try.ntmps27
    go_wp2_with fail
    refine (Mul64_w a b (a + 18446744073709551616) b _ (.inr ⟨rfl, p⟩) (.inl ⟨rfl, by omega⟩) a0 a1 b0 b1 _ _ (by rw [IntKind.wrap_u64]; omega) (by first | rfl | (rw [IntKind.wrap_u64]; omega))).mono ?_
    rintro e w1 ⟨x, y, rfl, rfl, x0, x1, y0, y1, H⟩
    go_wp2
    exact bodyPost_ret (v := .agg #[.int .i64 (hiW (a * b)), .int .u64 (loW (a * b))]) (by simp [results, Try.results27, go_sem]; exact mul_np H.out y0 y1 a0 (by omega) (by omega) b1) rfl ⟨rfl, by repeat (first | exact Below.refl _ _ | assumption | refine Below.setCell ?_ (by first | omega | (simp; done) | (simp; omega)) _ | refine Below.alloc ?_ (by first | omega | (simp; done) | (simp; omega)) _ | refine below_drewN ?_ _ | refine Below.drew ?_ | refine Below.trans ?_ (Below.mono (by assumption) (by first | omega | (simp; done) | (simp; omega))))⟩
  · go_enter Try.func27, Try.ntmps27
    go_wp2_with fail
    refine (Mul64_w a b a (b + 18446744073709551616) _ (.inl ⟨rfl, by omega⟩) (.inr ⟨rfl, q⟩) a0 a1 b0 b1 _ _ (by first | rfl | (rw [IntKind.wrap_u64]; omega)) (by rw [IntKind.wrap_u64]; omega)).mono ?_
    rintro e w1 ⟨x, y, rfl, rfl, x0, x1, y0, y1, H⟩
    go_wp2
    exact bodyPost_ret (v := .agg #[.int .i64 (hiW (a * b)), .int .u64 (loW (a * b))]) (by simp [results, Try.results27, go_sem]; exact mul_pn H.out y0 y1 (by omega) a1 b0 (by omega)) rfl ⟨rfl, by repeat (first | exact Below.refl _ _ | assumption | refine Below.setCell ?_ (by first | omega | (simp; done) | (simp; omega)) _ | refine Below.alloc ?_ (by first | omega | (simp; done) | (simp; omega)) _ | refine below_drewN ?_ _ | refine Below.drew ?_ | refine Below.trans ?_ (Below.mono (by assumption) (by first | omega | (simp; done) | (simp; omega))))⟩
  · go_enter Try.func27, Try.ntmps27
    go_wp2_with fail
    refine (Mul64_w a b a b _ (.inl ⟨rfl, by omega⟩) (.inl ⟨rfl, by omega⟩) a0 a1 b0 b1 _ _ (by first | rfl | (rw [IntKind.wrap_u64]; omega)) (by first | rfl | (rw [IntKind.wrap_u64]; omega))).mono ?_
    rintro e w1 ⟨x, y, rfl, rfl, x0, x1, y0, y1, H⟩
    go_wp2
    exact bodyPost_ret (v := .agg #[.int .i64 (hiW (a * b)), .int .u64 (loW (a * b))]) (by simp [results, Try.results27, go_sem]; exact mul_pp H.out y0 y1 (by omega) a1 (by omega) b1) rfl ⟨rfl, by repeat (first | exact Below.refl _ _ | assumption | refine Below.setCell ?_ (by first | omega | (simp; done) | (simp; omega)) _ | refine Below.alloc ?_ (by first | omega | (simp; done) | (simp; omega)) _ | refine below_drewN ?_ _ | refine Below.drew ?_ | refine Below.trans ?_ (Below.mono (by assumption) (by first | omega | (simp; done) | (simp; omega))))⟩
end Go.Proofs.Ytmdcfnifbkpedaa
