/- Contracts of the document's answers: plus, minus on sizes. -/
import Derived.Test.YtmdcfnifbkpedaaFb
namespace Go.Proofs.Ytmdcfnifbkpedaa
open Go.RowKit

theorem plus_d {a0 a1 a2 a3 m b0 b1 b2 b3 k : Int} (A : IsD a0 a1 a2 a3 m) (B : IsD b0 b1 b2 b3 k) :
    ((a0 + b0) % 4294967296 = d0 ((m + k) % 340282366920938463463374607431768211456) ∧ (a1 + b1 + (a0 + b0) / 4294967296) % 4294967296 = d1 ((m + k) % 340282366920938463463374607431768211456) ∧
    (a2 + b2 + (a1 + b1 + (a0 + b0) / 4294967296) / 4294967296) % 4294967296 = d2 ((m + k) % 340282366920938463463374607431768211456) ∧ (a3 + b3 + (a2 + b2 + (a1 + b1 + (a0 + b0) / 4294967296) / 4294967296) / 4294967296) % 4294967296 = d3 ((m + k) % 340282366920938463463374607431768211456)) ∧
    (a3 + b3 + (a2 + b2 + (a1 + b1 + (a0 + b0) / 4294967296) / 4294967296) / 4294967296) / 4294967296 = (m + k) / 340282366920938463463374607431768211456 := by
  obtain ⟨_, _, _, _, _, _, _, _, _⟩ := A
  obtain ⟨_, _, _, _, _, _, _, _, _⟩ := B
  unfold d0 d1 d2 d3
  omega
set_option maxHeartbeats 2000000 in
theorem rplus_any (m k : Int) (w : World) (m0 : 0 ≤ m) (m1 : m < 340282366920938463463374607431768211456) (k0 : 0 ≤ k) (k1 : k < 340282366920938463463374607431768211456) :
    Calls Try.prog 38 #[.agg #[.int .u64 (d0 (m)), .int .u64 (d1 (m)), .int .u64 (d2 (m)), .int .u64 (d3 (m))], .agg #[.int .u64 (d0 (k)), .int .u64 (d1 (k)), .int .u64 (d2 (k)), .int .u64 (d3 (k))]] w fun e w' => e = .returned (.tuple #[.agg #[.int .u64 (d0 ((m + k) % 340282366920938463463374607431768211456)), .int .u64 (d1 ((m + k) % 340282366920938463463374607431768211456)), .int .u64 (d2 ((m + k) % 340282366920938463463374607431768211456)), .int .u64 (d3 ((m + k) % 340282366920938463463374607431768211456))], .int .u64 ((m + k) / 340282366920938463463374607431768211456)]) ∧ Below w.heap.size w w' := by
  have A := Lib.hid (isD_of m0 m1)
  have B := Lib.hid (isD_of k0 k1)
  have DA := d_bd m
  have DB := d_bd k
  clear m0 m1 k0 k1
  generalize d0 m = a0 at *
  generalize d1 m = a1 at *
  generalize d2 m = a2 at *
  generalize d3 m = a3 at *
  generalize d0 k = b0 at *
  generalize d1 k = b1 at *
  generalize d2 k = b2 at *
  generalize d3 k = b3 at *
  go_enter Try.func38, Try.ntmps38
  go_wp2
  refine wp_loop_rounds 5 ?_
  rw [rounds_succ]
  go_wp2
  go_quiet (fail)
  go_wp2_with fail
  refine (low_any _ _ (by omega) (by omega)).mono ?_
  rintro e w1 ⟨rfl, rfl⟩
  go_wp2
  rw [rounds_succ]
  go_wp2
  go_quiet (fail)
  go_wp2_with fail
  refine (low_any _ _ (by omega) (by omega)).mono ?_
  rintro e w1 ⟨rfl, rfl⟩
  go_wp2
  rw [rounds_succ]
  go_wp2
  go_quiet (fail)
  go_wp2_with fail
  refine (low_any _ _ (by omega) (by omega)).mono ?_
  rintro e w1 ⟨rfl, rfl⟩
  go_wp2
  rw [rounds_succ]
  go_wp2
  go_quiet (fail)
  go_wp2_with fail
  refine (low_any _ _ (by omega) (by omega)).mono ?_
  rintro e w1 ⟨rfl, rfl⟩
  go_wp2
  rw [rounds_succ]
  go_wp2
  refine bodyPost_ret (v := .tuple #[.agg #[.int .u64 (d0 ((m + k) % 340282366920938463463374607431768211456)), .int .u64 (d1 ((m + k) % 340282366920938463463374607431768211456)), .int .u64 (d2 ((m + k) % 340282366920938463463374607431768211456)), .int .u64 (d3 ((m + k) % 340282366920938463463374607431768211456))], .int .u64 ((m + k) / 340282366920938463463374607431768211456)]) ?_ rfl ⟨rfl, by repeat (first | with_reducible refine Below.setCell ?_ (by first | omega | (simp; done) | (simp; omega)) _ | with_reducible refine Below.alloc ?_ (by first | omega | (simp; done) | (simp; omega)) _ | with_reducible refine below_drewN ?_ _ | with_reducible refine Below.drew ?_ | with_reducible exact Below.refl _ _ | with_reducible assumption | with_reducible refine Below.trans ?_ (Below.mono (by assumption) (by first | omega | (simp; done) | (simp; omega))))⟩
  obtain ⟨⟨p0, p1, p2, p3⟩, p4⟩ := plus_d A.out B.out
  simp [results, Try.results38, go_sem]
  first | exact ⟨⟨p0, p1, p2, p3⟩, p4⟩ | exact ⟨p0, p1, p2, p3, p4⟩

theorem minus_d {a0 a1 a2 a3 m b0 b1 b2 b3 k c1 c2 c3 : Int} (A : IsD a0 a1 a2 a3 m) (B : IsD b0 b1 b2 b3 k)
    (h1 : c1 = 1 - (a0 + 4294967296 - b0) / 4294967296) (h2 : c2 = 1 - (a1 + 4294967296 - b1 - c1) / 4294967296) (h3 : c3 = 1 - (a2 + 4294967296 - b2 - c2) / 4294967296) :
    (a0 + 4294967296 - b0) % 4294967296 = d0 ((m - k) % 340282366920938463463374607431768211456) ∧ (a1 + 4294967296 - b1 - c1) % 4294967296 = d1 ((m - k) % 340282366920938463463374607431768211456) ∧
    (a2 + 4294967296 - b2 - c2) % 4294967296 = d2 ((m - k) % 340282366920938463463374607431768211456) ∧ (a3 + 4294967296 - b3 - c3) % 4294967296 = d3 ((m - k) % 340282366920938463463374607431768211456) := by
  obtain ⟨_, _, _, _, _, _, _, _, _⟩ := A
  obtain ⟨_, _, _, _, _, _, _, _, _⟩ := B
  unfold d0 d1 d2 d3
  omega
set_option maxHeartbeats 2000000 in
theorem rminus_any (m k : Int) (w : World) (m0 : 0 ≤ m) (m1 : m < 340282366920938463463374607431768211456) (k0 : 0 ≤ k) (k1 : k < 340282366920938463463374607431768211456) :
    Calls Try.prog 55 #[.agg #[.int .u64 (d0 (m)), .int .u64 (d1 (m)), .int .u64 (d2 (m)), .int .u64 (d3 (m))], .agg #[.int .u64 (d0 (k)), .int .u64 (d1 (k)), .int .u64 (d2 (k)), .int .u64 (d3 (k))]] w fun e w' => e = .returned (.agg #[.int .u64 (d0 ((m - k) % 340282366920938463463374607431768211456)), .int .u64 (d1 ((m - k) % 340282366920938463463374607431768211456)), .int .u64 (d2 ((m - k) % 340282366920938463463374607431768211456)), .int .u64 (d3 ((m - k) % 340282366920938463463374607431768211456))]) ∧ Below w.heap.size w w' := by
  have A := Lib.hid (isD_of m0 m1)
  have B := Lib.hid (isD_of k0 k1)
  have DA := d_bd m
  have DB := d_bd k
  clear m0 m1 k0 k1
  generalize d0 m = a0 at *
  generalize d1 m = a1 at *
  generalize d2 m = a2 at *
  generalize d3 m = a3 at *
  generalize d0 k = b0 at *
  generalize d1 k = b1 at *
  generalize d2 k = b2 at *
  generalize d3 k = b3 at *
  go_enter Try.func55, Try.ntmps55
  go_wp2
  refine wp_loop_rounds 5 ?_
  rw [rounds_succ]
  go_wp2
  go_quiet (fail)
  go_wp2_with fail
  refine (low_any _ _ (by omega) (by omega)).mono ?_
  rintro e w1 ⟨rfl, rfl⟩
  go_wp2
  rw [rounds_succ]
  go_wp2
  go_quiet (fail)
  go_wp2_with fail
  refine (low_any _ _ (by omega) (by omega)).mono ?_
  rintro e w1 ⟨rfl, rfl⟩
  go_wp2
  rw [rounds_succ]
  go_wp2
  go_quiet (fail)
  go_wp2_with fail
  refine (low_any _ _ (by omega) (by omega)).mono ?_
  rintro e w1 ⟨rfl, rfl⟩
  go_wp2
  rw [rounds_succ]
  go_wp2
  go_quiet (fail)
  go_wp2_with fail
  refine (low_any _ _ (by omega) (by omega)).mono ?_
  rintro e w1 ⟨rfl, rfl⟩
  go_wp2
  rw [rounds_succ]
  go_wp2
  refine bodyPost_ret (v := .agg #[.int .u64 (d0 ((m - k) % 340282366920938463463374607431768211456)), .int .u64 (d1 ((m - k) % 340282366920938463463374607431768211456)), .int .u64 (d2 ((m - k) % 340282366920938463463374607431768211456)), .int .u64 (d3 ((m - k) % 340282366920938463463374607431768211456))]) ?_ rfl ⟨rfl, by repeat (first | with_reducible refine Below.setCell ?_ (by first | omega | (simp; done) | (simp; omega)) _ | with_reducible refine Below.alloc ?_ (by first | omega | (simp; done) | (simp; omega)) _ | with_reducible refine below_drewN ?_ _ | with_reducible refine Below.drew ?_ | with_reducible exact Below.refl _ _ | with_reducible assumption | with_reducible refine Below.trans ?_ (Below.mono (by assumption) (by first | omega | (simp; done) | (simp; omega))))⟩
  obtain ⟨p0, p1, p2, p3⟩ := minus_d A.out B.out rfl rfl rfl
  simp [results, Try.results55, go_sem]
  exact ⟨p0, p1, p2, p3⟩
end Go.Proofs.Ytmdcfnifbkpedaa
