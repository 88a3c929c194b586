/- Numbers of the document's over: quotient and rest of the upper bits, in sizes below 2^128. -/
import Derived.Test.YtmdcfnifbkpedaaGu
import Derived.Test.YtmdcfnifbkpedaaFm
namespace Go.Proofs.Ytmdcfnifbkpedaa
open Go.RowKit

theorem ovS_bd {N : Int} (N0 : 0 ≤ N) (v : Int) : 0 ≤ ovS N v ∧ ovS N v ≤ N := by
  unfold ovS
  have p : (1 : Int) ≤ ((2 ^ (v + 1).toNat : Nat) : Int) := by have := Nat.one_le_two_pow (n := (v + 1).toNat); omega
  refine ⟨Int.ediv_nonneg N0 (by omega), Int.ediv_le_self _ N0⟩
structure OvW (N y v q r : Int) : Prop where
  v0 : -1 ≤ v
  v1 : v ≤ 127
  q0 : 0 ≤ q
  r0 : 0 ≤ r
  r1 : r < y
  e : ovS N v = q * y + r
theorem OvW.q1 {N y v q r : Int} (k : OvW N y v q r) (y0 : 0 < y) : q ≤ ovS N v := by
  have := k.e; have := k.r0; have := k.q0
  have : q * 1 ≤ q * y := Int.mul_le_mul_of_nonneg_left (by omega) k.q0
  omega
theorem OvW.start {N y : Int} (N0 : 0 ≤ N) (N1 : N < 340282366920938463463374607431768211456) (y0 : 0 < y) : OvW N y 127 0 0 := by
  refine ⟨by omega, by omega, by omega, by omega, y0, ?_⟩
  have : ovS N 127 = 0 := by
    unfold ovS
    exact Int.ediv_eq_zero_of_lt N0 (by have : ((2 ^ ((127 : Int) + 1).toNat : Nat) : Int) = 340282366920938463463374607431768211456 := by decide
                                        omega)
  rw [this]; omega
theorem OvW.lo {N y v q r bit : Int} (k : OvW N y v q r) (hv : 0 ≤ v) (hb : bit = ovBit N v) (h : 2 * r + bit < y) : OvW N y (v - 1) (2 * q) (2 * r + bit) := by
  have bb := ovBit_bd N v
  have := k.v1; have := k.q0; have := k.r0
  refine ⟨by omega, by omega, by omega, by omega, h, ?_⟩
  rw [ovS_step N v hv, k.e, hb]; grind
theorem OvW.hi {N y v q r bit : Int} (k : OvW N y v q r) (hv : 0 ≤ v) (hb : bit = ovBit N v) (h : ¬ 2 * r + bit < y) : OvW N y (v - 1) (2 * q + 1) (2 * r + bit - y) := by
  have bb := ovBit_bd N v
  have := k.v1; have := k.q0; have := k.r0; have := k.r1
  refine ⟨by omega, by omega, by omega, by omega, by omega, ?_⟩
  rw [ovS_step N v hv, k.e, hb]; grind
/-- twice the quotient, and one more, have no more bits than the number -/
theorem OvW.q2 {N y v q r : Int} (k : OvW N y v q r) (N0 : 0 ≤ N) (hv : 0 ≤ v) : 2 * q + 1 ≤ N + 1 := by
  have y0 : 0 < y := by have := k.r0; have := k.r1; omega
  have h1 := ovS_le N v N0 hv
  have h2 := k.q1 y0
  omega
theorem OvW.done {N y q r : Int} (k : OvW N y (-1) q r) : N / y = q ∧ N % y = r := by
  have y0 : 0 < y := by have := k.r0; have := k.r1; omega
  have e := k.e
  rw [ovS_end] at e
  have := k.r0; have := k.r1
  constructor
  · rw [e, Int.add_comm, Int.add_mul_ediv_right _ _ (by omega), Int.ediv_eq_zero_of_lt (by omega) (by omega)]; omega
  · rw [e, Int.add_comm, Int.add_mul_emod_self_right, Int.emod_eq_of_lt (by omega) (by omega)]
/-- the lowest digit of an even number, raised by one -/
theorem d_up (q : Int) : d0 (2 * q) + 1 = d0 (2 * q + 1) ∧ d1 (2 * q) = d1 (2 * q + 1) ∧ d2 (2 * q) = d2 (2 * q + 1) ∧ d3 (2 * q) = d3 (2 * q + 1) ∧ d0 (2 * q) ≤ 4294967294 := by
  unfold d0 d1 d2 d3; omega
theorem ovBit_nat (m : Int) (i : Nat) : m / 2 ^ i % 2 = ovBit m i := by
  unfold ovBit
  have : ((i : Int)).toNat = i := by omega
  rw [this]; simp
end Go.Proofs.Ytmdcfnifbkpedaa
