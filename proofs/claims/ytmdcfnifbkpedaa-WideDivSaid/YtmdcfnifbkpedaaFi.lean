/- The contract of the document's bit. -/
import Derived.Test.YtmdcfnifbkpedaaFb
namespace Go.Proofs.Ytmdcfnifbkpedaa
open Go.RowKit

theorem bit_low (x r : Nat) (h : r < 32) : x % 4294967296 / 2 ^ r % 2 = x / 2 ^ r % 2 := by
  have h1 := Nat.testBit_mod_two_pow x 32 r
  rw [Nat.testBit_eq_decide_div_mod_eq, Nat.testBit_eq_decide_div_mod_eq] at h1
  simp only [h, decide_true, Bool.true_and] at h1
  have h2 := decide_eq_decide.1 h1
  have : x % 2 ^ 32 = x % 4294967296 := rfl
  rw [this] at h2
  omega
/-- bit i of a size lies in its digit i / 32 -/
theorem bit_d (m : Int) (m0 : 0 ≤ m) (j r : Nat) (hr : r < 32) (q : Int) (hq : q = m / ((4294967296 ^ j : Nat) : Int)) : q % 4294967296 / 2 ^ r % 2 = m / 2 ^ (32 * j + r) % 2 := by
  obtain ⟨M, rfl⟩ := Int.eq_ofNat_of_zero_le m0
  have e1 : q = ((M / 4294967296 ^ j : Nat) : Int) := by rw [hq]; exact (Int.natCast_ediv _ _).symm
  have h := bit_low (M / 4294967296 ^ j) r hr
  have e2 : M / 4294967296 ^ j / 2 ^ r = M / 2 ^ (32 * j + r) := by
    rw [Nat.div_div_eq_div_mul, Nat.pow_add, Nat.pow_mul]
  rw [e2] at h
  have c1 : ((2 : Int) ^ r) = ((2 ^ r : Nat) : Int) := by simp
  have c2 : ((2 : Int) ^ (32 * j + r)) = ((2 ^ (32 * j + r) : Nat) : Int) := by simp
  rw [e1, c1, c2]
  have h2 := congrArg (fun n : Nat => (n : Int)) h
  simp only [Int.natCast_ediv, Int.natCast_emod] at h2
  simp only [Int.natCast_ediv]
  exact h2
set_option maxHeartbeats 1000000 in
theorem bit_any (m : Int) (i : Nat) (w : World) (m0 : 0 ≤ m) (hi : i ≤ 127) :
    Calls Try.prog 54 #[.agg #[.int .u64 (d0 (m)), .int .u64 (d1 (m)), .int .u64 (d2 (m)), .int .u64 (d3 (m))], .int .i64 i] w fun e w' => e = .returned (.int .u64 (m / 2 ^ i % 2)) ∧ Below w.heap.size w w' := by
  have D := d_bd m
  have k0 : d0 m = m / ((4294967296 ^ 0 : Nat) : Int) % 4294967296 := by simp [d0]
  have k1 : d1 m = m / ((4294967296 ^ 1 : Nat) : Int) % 4294967296 := rfl
  have k2 : d2 m = m / ((4294967296 ^ 2 : Nat) : Int) % 4294967296 := rfl
  have k3 : d3 m = m / ((4294967296 ^ 3 : Nat) : Int) % 4294967296 := rfl
  obtain ⟨r, hr⟩ : ∃ r : Nat, i % 32 = r := ⟨_, rfl⟩
  have r32 : r < 32 := by omega
  rcases (show i / 32 = 0 ∨ i / 32 = 1 ∨ i / 32 = 2 ∨ i / 32 = 3 by omega) with h | h | h | h
  · have ei : i = 32 * 0 + r := by omega
    have K := Lib.hid (bit_d m m0 0 r r32 _ rfl)
    rw [← k0, ← ei] at K
    have hI : (i : Int) / 32 = 0 := by omega
    have hR : (i : Int) % 32 = r := by omega
    clear k0 k1 k2 k3 ei
    go_enter Try.func54, Try.ntmps54
    go_wp2
    go_ret
    exact ⟨retI (by rw [Int.tmod_eq_emod_of_nonneg (Int.ediv_nonneg (by omega) (Int.le_of_lt (Int.pow_pos (by omega))))]; exact K.out), by repeat (first | with_reducible refine Below.setCell ?_ (by first | omega | (simp; done) | (simp; omega)) _ | with_reducible refine Below.alloc ?_ (by first | omega | (simp; done) | (simp; omega)) _ | with_reducible refine below_drewN ?_ _ | with_reducible refine Below.drew ?_ | with_reducible exact Below.refl _ _ | with_reducible assumption | with_reducible refine Below.trans ?_ (Below.mono (by assumption) (by first | omega | (simp; done) | (simp; omega))))⟩
  · have ei : i = 32 * 1 + r := by omega
    have K := Lib.hid (bit_d m m0 1 r r32 _ rfl)
    rw [← k1, ← ei] at K
    have hI : (i : Int) / 32 = 1 := by omega
    have hR : (i : Int) % 32 = r := by omega
    clear k0 k1 k2 k3 ei
    go_enter Try.func54, Try.ntmps54
    go_wp2
    go_ret
    exact ⟨retI (by rw [Int.tmod_eq_emod_of_nonneg (Int.ediv_nonneg (by omega) (Int.le_of_lt (Int.pow_pos (by omega))))]; exact K.out), by repeat (first | with_reducible refine Below.setCell ?_ (by first | omega | (simp; done) | (simp; omega)) _ | with_reducible refine Below.alloc ?_ (by first | omega | (simp; done) | (simp; omega)) _ | with_reducible refine below_drewN ?_ _ | with_reducible refine Below.drew ?_ | with_reducible exact Below.refl _ _ | with_reducible assumption | with_reducible refine Below.trans ?_ (Below.mono (by assumption) (by first | omega | (simp; done) | (simp; omega))))⟩
  · have ei : i = 32 * 2 + r := by omega
    have K := Lib.hid (bit_d m m0 2 r r32 _ rfl)
    rw [← k2, ← ei] at K
    have hI : (i : Int) / 32 = 2 := by omega
    have hR : (i : Int) % 32 = r := by omega
    clear k0 k1 k2 k3 ei
    go_enter Try.func54, Try.ntmps54
    go_wp2
    go_ret
    exact ⟨retI (by rw [Int.tmod_eq_emod_of_nonneg (Int.ediv_nonneg (by omega) (Int.le_of_lt (Int.pow_pos (by omega))))]; exact K.out), by repeat (first | with_reducible refine Below.setCell ?_ (by first | omega | (simp; done) | (simp; omega)) _ | with_reducible refine Below.alloc ?_ (by first | omega | (simp; done) | (simp; omega)) _ | with_reducible refine below_drewN ?_ _ | with_reducible refine Below.drew ?_ | with_reducible exact Below.refl _ _ | with_reducible assumption | with_reducible refine Below.trans ?_ (Below.mono (by assumption) (by first | omega | (simp; done) | (simp; omega))))⟩
  · have ei : i = 32 * 3 + r := by omega
    have K := Lib.hid (bit_d m m0 3 r r32 _ rfl)
    rw [← k3, ← ei] at K
    have hI : (i : Int) / 32 = 3 := by omega
    have hR : (i : Int) % 32 = r := by omega
    clear k0 k1 k2 k3 ei
    go_enter Try.func54, Try.ntmps54
    go_wp2
    go_ret
    exact ⟨retI (by rw [Int.tmod_eq_emod_of_nonneg (Int.ediv_nonneg (by omega) (Int.le_of_lt (Int.pow_pos (by omega))))]; exact K.out), by repeat (first | with_reducible refine Below.setCell ?_ (by first | omega | (simp; done) | (simp; omega)) _ | with_reducible refine Below.alloc ?_ (by first | omega | (simp; done) | (simp; omega)) _ | with_reducible refine below_drewN ?_ _ | with_reducible refine Below.drew ?_ | with_reducible exact Below.refl _ _ | with_reducible assumption | with_reducible refine Below.trans ?_ (Below.mono (by assumption) (by first | omega | (simp; done) | (simp; omega))))⟩
end Go.Proofs.Ytmdcfnifbkpedaa
