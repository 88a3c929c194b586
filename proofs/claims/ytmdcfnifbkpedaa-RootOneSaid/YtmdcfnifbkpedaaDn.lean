/- Lengths, shifts and masks of 64 bits. -/
import Derived.Lib.BitFns
import Derived.Laws.BitsAllLaws
import Derived.Laws.Bits64b
import Derived.Below
import Derived.Test.YtmdcfnifbkpedaaDm
namespace Go.Proofs.Ytmdcfnifbkpedaa

theorem blen_aux : ∀ (f x : Nat), x < 2 ^ f → x < 2 ^ Lib.bitLenAux f x ∧ (x ≠ 0 → 2 ^ Lib.bitLenAux f x ≤ 2 * x)
  | 0, x, h => by simp at h; subst h; simp [Lib.bitLenAux]
  | f + 1, x, h => by
    unfold Lib.bitLenAux
    by_cases hx : x = 0
    · subst hx; simp
    · rw [if_neg hx]
      have ih := blen_aux f (x / 2) (by rw [Nat.pow_succ] at h; omega)
      rw [Nat.add_comm 1, Nat.pow_succ]
      refine ⟨by omega, fun _ => ?_⟩
      by_cases h2 : x / 2 = 0
      · have h3 : x = 1 := by omega
        subst h3
        have : Lib.bitLenAux f (1 / 2) = 0 := by cases f <;> simp [Lib.bitLenAux]
        rw [this]; simp
      · have := ih.2 h2
        omega
theorem blen_spec (x : Nat) (h : x < 18446744073709551616) : x < 2 ^ Lib.bitLen x ∧ (x ≠ 0 → 2 ^ Lib.bitLen x ≤ 2 * x) := blen_aux 64 x h
theorem blen_le (x : Nat) (h : x < 18446744073709551616) : Lib.bitLen x ≤ 64 := by
  by_cases hx : x = 0
  · subst hx; decide
  · have h1 := (blen_spec x h).2 hx
    apply Classical.byContradiction
    intro hc
    have : 2 ^ 65 ≤ 2 ^ Lib.bitLen x := Nat.pow_le_pow_right (by omega) (by omega)
    omega
theorem blen_pos (x : Nat) (h : x < 18446744073709551616) (hx : x ≠ 0) : 1 ≤ Lib.bitLen x := by
  have h1 := (blen_spec x h).1
  apply Classical.byContradiction
  intro hc
  have : Lib.bitLen x = 0 := by omega
  rw [this] at h1
  omega

theorem or_shift (A b k : Nat) (hb : b < 2 ^ k) (hA : A * 2 ^ k + b < 18446744073709551616) : bits .or .u64 ((A * 2 ^ k : Nat) : Int) (b : Int) = ((A * 2 ^ k + b : Nat) : Int) := by
  rw [u64_or_nat _ _ (by omega) (by omega)]
  have := Nat.two_pow_add_eq_or_of_lt hb A
  rw [Nat.mul_comm (2 ^ k)] at this
  rw [this]
theorem and_mask32 (a : Int) (h0 : 0 ≤ a) (h1 : a ≤ 18446744073709551615) : bits .and .u64 a 4294967295 = a % 4294967296 := by
  obtain ⟨A, rfl⟩ := Int.eq_ofNat_of_zero_le h0
  have h := bits_and_u64_nat A 4294967295 (by omega) (by omega)
  have e : A &&& 4294967295 = A % 4294967296 := Nat.and_two_pow_sub_one_eq_mod A 32
  rw [e] at h
  rw [show (4294967295 : Int) = ((4294967295 : Nat) : Int) from rfl, h]
  omega
theorem and_one (a : Int) (h0 : 0 ≤ a) (h1 : a ≤ 18446744073709551615) : bits .and .u64 a 1 = a % 2 := by
  obtain ⟨A, rfl⟩ := Int.eq_ofNat_of_zero_le h0
  have h := bits_and_u64_nat A 1 (by omega) (by omega)
  have e : A &&& 1 = A % 2 := Nat.and_two_pow_sub_one_eq_mod A 1
  rw [e] at h
  rw [show (1 : Int) = ((1 : Nat) : Int) from rfl, h]
  omega

/-- all that the normalizing of a division by y lays: k the shift, v the divisor, u, un1, un0 the digits -/
structure Norm (h l y : Int) (k : Nat) (v hh lt u ll : Int) : Prop where
  k1 : k ≤ 63
  v0 : 9223372036854775808 ≤ v
  v1 : v ≤ 18446744073709551615
  ev : v = y * 2 ^ k
  hh0 : 0 ≤ hh
  lt0 : 0 ≤ lt
  u0 : 0 ≤ u
  uv : u < v
  ll0 : 0 ≤ ll
  ll1 : ll ≤ 18446744073709551615
  en : (h * 18446744073709551616 + l) * 2 ^ k = u * 18446744073709551616 + ll

theorem norm_of (h l y : Int) (h0 : 0 ≤ h) (h1 : h < y) (l0 : 0 ≤ l) (l1 : l ≤ 18446744073709551615) (y1 : y ≤ 18446744073709551615) :
    ∃ (k : Nat) (v hh lt u ll : Int), (64 - (Lib.bitLen y.toNat : Int)) = k ∧ IntKind.u64.wrap (y * 2 ^ k) = v ∧ IntKind.u64.wrap (h * 2 ^ k) = hh ∧ l / 2 ^ (64 - k) = lt ∧ bits .or .u64 hh lt = u ∧ IntKind.u64.wrap (l * 2 ^ k) = ll ∧ Norm h l y k v hh lt u ll := by
  obtain ⟨H, rfl⟩ := Int.eq_ofNat_of_zero_le h0
  obtain ⟨L, rfl⟩ := Int.eq_ofNat_of_zero_le l0
  obtain ⟨Y, rfl⟩ := Int.eq_ofNat_of_zero_le (show 0 ≤ y by omega)
  have b1 := blen_spec Y (by omega)
  have b2 := blen_le Y (by omega)
  have b3 := blen_pos Y (by omega) (by omega)
  rw [Int.toNat_natCast]
  obtain ⟨k, hk⟩ : ∃ k : Nat, k + Lib.bitLen Y = 64 := ⟨64 - Lib.bitLen Y, by omega⟩
  have hp : 2 ^ k * 2 ^ Lib.bitLen Y = 18446744073709551616 := by rw [← Nat.pow_add, hk]
  have hq : 2 ^ k * 2 ^ (64 - k) = 18446744073709551616 := by rw [← Nat.pow_add, show k + (64 - k) = 64 by omega]
  have hpos : 0 < 2 ^ k := Nat.two_pow_pos k
  have hqos : 0 < 2 ^ (64 - k) := Nat.two_pow_pos _
  have y2 : Y * 2 ^ k < 18446744073709551616 := by
    rw [← hp, Nat.mul_comm]; exact Nat.mul_lt_mul_of_pos_left b1.1 hpos
  have y3 : 18446744073709551616 ≤ 2 * (Y * 2 ^ k) := by
    have := Nat.mul_le_mul_left (2 ^ k) (b1.2 (by omega))
    rw [hp] at this
    rw [Nat.mul_comm Y, ← Nat.mul_assoc, Nat.mul_comm 2, Nat.mul_assoc]; exact this
  have hh1 : H * 2 ^ k + 2 ^ k ≤ Y * 2 ^ k := by
    have : (H + 1) * 2 ^ k ≤ Y * 2 ^ k := Nat.mul_le_mul_right _ (by omega)
    rw [Nat.add_mul] at this; omega
  have lt1 : L / 2 ^ (64 - k) < 2 ^ k := by
    rw [Nat.div_lt_iff_lt_mul hqos, hq]; omega
  have el : L * 2 ^ k = L / 2 ^ (64 - k) * 18446744073709551616 + L * 2 ^ k % 18446744073709551616 := by
    have e1 : L * 2 ^ k / 18446744073709551616 = L / 2 ^ (64 - k) := by
      rw [← hq, Nat.mul_comm L, Nat.mul_div_mul_left _ _ hpos]
    rw [← e1]; omega
  have c1 : ((2 : Int) ^ k) = ((2 ^ k : Nat) : Int) := by simp
  have c2 : ((2 : Int) ^ (64 - k)) = ((2 ^ (64 - k) : Nat) : Int) := by simp
  refine ⟨k, ((Y * 2 ^ k : Nat) : Int), ((H * 2 ^ k : Nat) : Int), ((L / 2 ^ (64 - k) : Nat) : Int), ((H * 2 ^ k + L / 2 ^ (64 - k) : Nat) : Int), ((L * 2 ^ k % 18446744073709551616 : Nat) : Int), by omega, ?_, ?_, ?_, ?_, ?_, ?_⟩
  · rw [c1, ← Int.natCast_mul, IntKind.wrap_u64]; omega
  · rw [c1, ← Int.natCast_mul, IntKind.wrap_u64]; omega
  · rw [c2]; exact (Int.natCast_ediv _ _).symm
  · exact or_shift H _ k lt1 (by omega)
  · rw [c1, ← Int.natCast_mul, IntKind.wrap_u64]; omega
  · refine ⟨by omega, by omega, by omega, by rw [c1, Int.natCast_mul], by omega, by omega, by omega, by omega, by omega, by omega, ?_⟩
    rw [c1]
    have : (H * 18446744073709551616 + L) * 2 ^ k = (H * 2 ^ k + L / 2 ^ (64 - k)) * 18446744073709551616 + L * 2 ^ k % 18446744073709551616 := by
      rw [Nat.add_mul, Nat.add_mul, Nat.mul_right_comm]; omega
    have h2 := congrArg (fun n : Nat => (n : Int)) this
    simp only [Int.natCast_mul, Int.natCast_add] at h2
    simp only [Int.natCast_add, Int.natCast_mul]
    exact h2

theorem kn_start_w {u d v1 v0 q : Int} (k : KnQ u d v1 v0 q) (u1 : u ≤ 18446744073709551615) :
    ∃ a p b : Int, IntKind.u64.wrap (u.tdiv v1) = a ∧ IntKind.u64.wrap (a * v1) = p ∧ IntKind.u64.wrap (u - p) = b ∧ Kn u v1 q a b := by
  have s := Kn.start k
  have h0 := Kn.a0 k s
  have := k.v10
  have := k.u0
  have ht : u.tdiv v1 = u / v1 := Int.tdiv_eq_ediv_of_nonneg k.u0
  refine ⟨u / v1, u / v1 * v1, u - u / v1 * v1, ?_, ?_, ?_, s⟩
  · rw [ht, IntKind.wrap_u64]; have := s.a1; omega
  · have hm : 0 ≤ u / v1 * v1 := Int.mul_nonneg h0 (by omega)
    rw [IntKind.wrap_u64]; have := s.e; have := s.b0; omega
  · rw [IntKind.wrap_u64]; have := s.b0; have := s.b1; omega
theorem kn_rest_w {u d v q : Int} (k : KnQ u d (v / 4294967296) (v % 4294967296) q) :
    ∃ x1 x2 x3 r : Int, IntKind.u64.wrap (u * 4294967296) = x1 ∧ IntKind.u64.wrap (x1 + d) = x2 ∧ IntKind.u64.wrap (q * v) = x3 ∧ IntKind.u64.wrap (x2 - x3) = r ∧ Go.RowKit.Hid (r = u * 4294967296 + d - q * v) ∧ 0 ≤ r ∧ r < v := by
  have h := k.rest
  rw [show v / 4294967296 * 4294967296 + v % 4294967296 = v by omega] at h
  have hv : v < 18446744073709551616 := by have := k.v11; omega
  refine ⟨_, _, _, u * 4294967296 + d - q * v, rfl, rfl, rfl, ?_, rfl, h.1, h.2⟩
  simp only [IntKind.wrap_u64]
  omega
end Go.Proofs.Ytmdcfnifbkpedaa
