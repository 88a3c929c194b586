/- Contracts of package wide: Cmp, Sign, Add, Neg, size, signed. -/
import Derived.Test.YtmdcfnifbkpedaaWc
namespace Go.Proofs.Ytmdcfnifbkpedaa
open Go.RowKit

theorem Cmp_any (h1 l1 h2 l2 a b : Int) (w : World) (ha : IsW h1 l1 a) (hb : IsW h2 l2 b) :
    Calls Try.prog 28 #[.agg #[.int .i64 h1, .int .u64 l1], .agg #[.int .i64 h2, .int .u64 l2]] w fun e w' => e = .returned (.int .i64 (cmpI a b)) ∧ Below w.heap.size w w' := by
  have Ha := Lib.hid ha
  have Hb := Lib.hid hb
  obtain ⟨a0, a1, a2, a3, -⟩ := ha
  obtain ⟨b0, b1, b2, b3, -⟩ := hb
  have hB : ∀ (x y : Array Value), Below w.heap.size w ((w.alloc (.cells x 24)).alloc (.cells y 24)) := fun x y => ((Below.refl _ _).alloc (Nat.le_refl _) _).alloc (by simp) _
  have HB := Lib.hid hB
  clear hB
  go_enter Try.func28, Try.ntmps28
  go_wp2
  all_goals go_ret
  all_goals first
    | exact ⟨retI (cmp_eq Ha.out Hb.out (by assumption) (by assumption)).symm, HB.out _ _⟩
    | exact ⟨retI (cmp_lt Ha.out Hb.out (by omega)).symm, HB.out _ _⟩
    | exact ⟨retI (cmp_gt Ha.out Hb.out (by omega)).symm, HB.out _ _⟩

theorem Sign_any (h1 l1 a : Int) (w : World) (ha : IsW h1 l1 a) :
    Calls Try.prog 56 #[.agg #[.int .i64 h1, .int .u64 l1]] w fun e w' => e = .returned (.int .i64 (cmpI a 0)) ∧ Below w.heap.size w w' := by
  go_enter Try.func56, Try.ntmps56
  go_wp2_with fail
  refine (Cmp_any _ _ _ _ _ _ _ ha isW_zero).mono ?_
  rintro e w1 ⟨rfl, hb⟩
  obtain ⟨hc_w1, hf_w1⟩ := bcell hb
  have z_w1 := hb.size
  try simp at z_w1
  have y_w1 : w.heap.size ≤ w1.heap.size := by omega
  go_wp2
  go_ret
  exact ⟨rfl, by repeat (first | exact Below.refl _ _ | assumption | refine Below.setCell ?_ (by first | omega | (simp; done) | (simp; omega)) _ | refine Below.alloc ?_ (by first | omega | (simp; done) | (simp; omega)) _ | refine below_drewN ?_ _ | refine Below.drew ?_ | refine Below.trans ?_ (Below.mono (by assumption) (by first | omega | (simp; done) | (simp; omega))))⟩

theorem size_any (h1 l1 a : Int) (w : World) (ha : IsW h1 l1 a) :
    Calls Try.prog 30 #[.agg #[.int .i64 h1, .int .u64 l1]] w fun e w' => e = .returned (.tuple #[.int .u64 (hiW a.natAbs), .int .u64 (loW a.natAbs)]) ∧ Below w.heap.size w w' := by
  have Ha := Lib.hid ha
  obtain ⟨a0, a1, a2, a3, -⟩ := ha
  by_cases h : h1 < 0
  · go_enter Try.func30, Try.ntmps30
    go_wp2_with fail
    refine (minus_any _ _ _ _ _ _ _ isW_zero Ha.out).mono ?_
    rintro e w1 ⟨rfl, hb⟩
    obtain ⟨hc_w1, hf_w1⟩ := bcell hb
    have z_w1 := hb.size
    try simp at z_w1
    have z0_w1 : w.heap.size < w1.heap.size := by omega
    have y_w1 : w.heap.size ≤ w1.heap.size := by omega
    go_wp2
    go_quiet (fail)
    go_wp2
    go_ret2
    exact ⟨retII (by rw [IntKind.wrap_u64]; exact Ha.out.neg_hi (by omega)) (Ha.out.neg_lo (by omega)), by repeat (first | exact Below.refl _ _ | assumption | refine Below.setCell ?_ (by first | omega | (simp; done) | (simp; omega)) _ | refine Below.alloc ?_ (by first | omega | (simp; done) | (simp; omega)) _ | refine below_drewN ?_ _ | refine Below.drew ?_ | refine Below.trans ?_ (Below.mono (by assumption) (by first | omega | (simp; done) | (simp; omega))))⟩
  · go_enter Try.func30, Try.ntmps30
    go_wp2
    go_quiet (fail)
    go_wp2
    go_ret2
    exact ⟨retII (Ha.out.abs_hi (by omega)) (Ha.out.abs_lo (by omega)), by repeat (first | exact Below.refl _ _ | assumption | refine Below.setCell ?_ (by first | omega | (simp; done) | (simp; omega)) _ | refine Below.alloc ?_ (by first | omega | (simp; done) | (simp; omega)) _ | refine below_drewN ?_ _ | refine Below.drew ?_ | refine Below.trans ?_ (Below.mono (by assumption) (by first | omega | (simp; done) | (simp; omega))))⟩

theorem add_no {h1 l1 h2 l2 a b : Int} (ha : IsW h1 l1 a) (hb : IsW h2 l2 b) (k : h1 < 0 ↔ h2 < 0) (k2 : (!decide (hiW (wr128 (a + b)) < 0) == decide (h2 < 0)) = true) : ¬ In128 (a + b) := by
  obtain ⟨_, _, _, _, rfl⟩ := ha
  obtain ⟨_, _, _, _, rfl⟩ := hb
  unfold In128
  have e : hiW (wr128 (h1 * 18446744073709551616 + l1 + (h2 * 18446744073709551616 + l2))) = (wr128 (h1 * 18446744073709551616 + l1 + (h2 * 18446744073709551616 + l2))) / 18446744073709551616 := rfl
  by_cases q : h2 < 0 <;> by_cases r : hiW (wr128 (h1 * 18446744073709551616 + l1 + (h2 * 18446744073709551616 + l2))) < 0 <;> simp [q, r] at k2 <;> rw [e] at r <;> unfold wr128 at r <;> omega
theorem add_yes {h1 l1 h2 l2 a b : Int} (ha : IsW h1 l1 a) (hb : IsW h2 l2 b) (k2 : (!decide (hiW (wr128 (a + b)) < 0) == decide (h2 < 0)) = false) : In128 (a + b) := by
  obtain ⟨_, _, _, _, rfl⟩ := ha
  obtain ⟨_, _, _, _, rfl⟩ := hb
  unfold In128
  have e : hiW (wr128 (h1 * 18446744073709551616 + l1 + (h2 * 18446744073709551616 + l2))) = (wr128 (h1 * 18446744073709551616 + l1 + (h2 * 18446744073709551616 + l2))) / 18446744073709551616 := rfl
  by_cases q : h2 < 0 <;> by_cases r : hiW (wr128 (h1 * 18446744073709551616 + l1 + (h2 * 18446744073709551616 + l2))) < 0 <;> simp [q, r] at k2 <;> rw [e] at r <;> unfold wr128 at r <;> omega
theorem add_apart {h1 l1 h2 l2 a b : Int} (ha : IsW h1 l1 a) (hb : IsW h2 l2 b) (k : ¬ (h1 < 0 ↔ h2 < 0)) : In128 (a + b) := by
  obtain ⟨_, _, _, _, rfl⟩ := ha
  obtain ⟨_, _, _, _, rfl⟩ := hb
  unfold In128
  by_cases q : h2 < 0
  · simp [q] at k; omega
  · simp [q] at k; omega
theorem clip_yes {n : Int} (k : In128 n) : wr128 n = clipW n ∧ true = fitW n := by
  refine ⟨by rw [wr128_of k, clipW, if_pos k], by simp [fitW, k]⟩
theorem clip_no {n : Int} (k : ¬ In128 n) : 0 = hiW (clipW n) ∧ 0 = loW (clipW n) ∧ false = fitW n := by
  rw [clipW, if_neg k]
  exact ⟨by unfold hiW; omega, by unfold loW; omega, by simp [fitW, k]⟩

set_option maxHeartbeats 400000 in
theorem Add_any (h1 l1 h2 l2 a b : Int) (w : World) (ha : IsW h1 l1 a) (hb : IsW h2 l2 b) :
    Calls Try.prog 74 #[.agg #[.int .i64 h1, .int .u64 l1], .agg #[.int .i64 h2, .int .u64 l2]] w fun e w' => e = .returned (.tuple #[.agg #[.int .i64 (hiW (clipW (a + b))), .int .u64 (loW (clipW (a + b)))], .bool (fitW (a + b))]) ∧ Below w.heap.size w w' := by
  have Ha := Lib.hid ha
  have Hb := Lib.hid hb
  clear ha hb
  go_enter Try.func74, Try.ntmps74
  go_wp2_with fail
  refine (plus_any _ _ _ _ _ _ _ Ha.out Hb.out).mono ?_
  rintro e w1 ⟨rfl, hb⟩
  obtain ⟨hc_w1, hf_w1⟩ := bcell hb
  have z_w1 := hb.size
  try simp at z_w1
  have z0_w1 : w.heap.size < w1.heap.size := by omega
  have z1_w1 : w.heap.size + 1 < w1.heap.size := by omega
  have z2_w1 : w.heap.size + 1 + 1 < w1.heap.size := by omega
  have y_w1 : w.heap.size ≤ w1.heap.size := by omega
  go_wp2
  · have k := clip_no (add_no Ha.out Hb.out (by assumption) (by assumption))
    exact bodyPost_ret (v := .tuple #[.agg #[.int .i64 0, .int .u64 0], .bool false]) (by simp [results, Try.results74, go_sem, z2_w1, hc_w1]) rfl ⟨retWB k.1 k.2.1 k.2.2, by repeat (first | exact Below.refl _ _ | assumption | refine Below.setCell ?_ (by first | omega | (simp; done) | (simp; omega)) _ | refine Below.alloc ?_ (by first | omega | (simp; done) | (simp; omega)) _ | refine below_drewN ?_ _ | refine Below.drew ?_ | refine Below.trans ?_ (Below.mono (by assumption) (by first | omega | (simp; done) | (simp; omega))))⟩
  · have k := clip_yes (add_yes Ha.out Hb.out (by assumption))
    exact bodyPost_ret (v := .tuple #[.agg #[.int .i64 (hiW (wr128 (a + b))), .int .u64 (loW (wr128 (a + b)))], .bool true]) (by simp [results, Try.results74, go_sem, z2_w1, hc_w1]) rfl ⟨by rw [← k.1, ← k.2], by repeat (first | exact Below.refl _ _ | assumption | refine Below.setCell ?_ (by first | omega | (simp; done) | (simp; omega)) _ | refine Below.alloc ?_ (by first | omega | (simp; done) | (simp; omega)) _ | refine below_drewN ?_ _ | refine Below.drew ?_ | refine Below.trans ?_ (Below.mono (by assumption) (by first | omega | (simp; done) | (simp; omega))))⟩
  · have k := clip_yes (add_apart Ha.out Hb.out (by assumption))
    exact bodyPost_ret (v := .tuple #[.agg #[.int .i64 (hiW (wr128 (a + b))), .int .u64 (loW (wr128 (a + b)))], .bool true]) (by simp [results, Try.results74, go_sem, z2_w1, hc_w1]) rfl ⟨by rw [← k.1, ← k.2], by repeat (first | exact Below.refl _ _ | assumption | refine Below.setCell ?_ (by first | omega | (simp; done) | (simp; omega)) _ | refine Below.alloc ?_ (by first | omega | (simp; done) | (simp; omega)) _ | refine below_drewN ?_ _ | refine Below.drew ?_ | refine Below.trans ?_ (Below.mono (by assumption) (by first | omega | (simp; done) | (simp; omega))))⟩
end Go.Proofs.Ytmdcfnifbkpedaa
