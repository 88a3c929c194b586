/- All bits of 64 turned. -/
import Derived.Laws.BitsAllLaws
import Derived.Laws.Bits64b
import Derived.Below
namespace Go.Proofs.Ytmdcfnifbkpedaa
theorem sgn_u64 : IntKind.u64.signed = false := rfl
theorem xor_max (x : Int) (h0 : 0 ≤ x) (h1 : x ≤ 18446744073709551615) : bits .xor .u64 IntKind.u64.max x = 18446744073709551615 - x := by
  obtain ⟨X, rfl⟩ := Int.eq_ofNat_of_zero_le h0
  have hm : IntKind.u64.max = ((18446744073709551615 : Nat) : Int) := rfl
  rw [hm]
  show IntKind.u64.wrap (((BitVec.ofInt 64 ((18446744073709551615 : Nat) : Int)) ^^^ (BitVec.ofInt 64 (X : Int))).toNat : Int) = _
  have e1 : BitVec.ofInt 64 ((18446744073709551615 : Nat) : Int) = BitVec.allOnes 64 := by decide
  rw [e1, BitVec.allOnes_xor, BitVec.toNat_not, BitVec.ofInt_natCast, BitVec.toNat_ofNat, Nat.mod_eq_of_lt (by omega), IntKind.wrap_u64]
  omega
/-- the opposite of a number of 64 bits without a sign, in Go's words -/
theorem turn_ex (x : Int) (h0 : 0 ≤ x) (h1 : x ≤ 18446744073709551615) : ∃ y : Int, bits .xor .u64 IntKind.u64.max x = y ∧ 0 ≤ y ∧ y ≤ 18446744073709551615 ∧ Go.RowKit.Hid (y = 18446744073709551615 - x) :=
  ⟨_, xor_max x h0 h1, by omega, by omega, rfl⟩
end Go.Proofs.Ytmdcfnifbkpedaa
