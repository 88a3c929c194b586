/- Contracts of package wide: the sums, signs and orders. -/
import Derived.Test.YtmdcfnifbkpedaaProg
import Derived.Test.YtmdcfnifbkpedaaWm
import Derived.WalkKit
import Derived.WalkLawsBesides
import Derived.WalkSpells
import Derived.Outline
import Derived.Deep.QuietTactic
import Derived.BigQuiet
import Derived.Lib.Hide
namespace Go.Proofs.Ytmdcfnifbkpedaa
open Go.RowKit

theorem retW {h l h' l' : Int} (e1 : h = h') (e2 : l = l') : Ending.returned (.agg #[.int .i64 h, .int .u64 l]) = .returned (.agg #[.int .i64 h', .int .u64 l']) := by rw [e1, e2]
theorem retWB {h l h' l' : Int} {b b' : Bool} (e1 : h = h') (e2 : l = l') (e3 : b = b') : Ending.returned (.tuple #[.agg #[.int .i64 h, .int .u64 l], .bool b]) = .returned (.tuple #[.agg #[.int .i64 h', .int .u64 l'], .bool b']) := by rw [e1, e2, e3]
theorem retI {k : IntKind} {a b : Int} (h : a = b) : Ending.returned (.int k a) = .returned (.int k b) := by rw [h]
theorem retB {a b : Bool} (h : a = b) : Ending.returned (.bool a) = .returned (.bool b) := by rw [h]
theorem retII {k k' : IntKind} {a b c d : Int} (h : a = b) (h' : c = d) : Ending.returned (.tuple #[.int k a, .int k' c]) = .returned (.tuple #[.int k b, .int k' d]) := by rw [h, h']
theorem retIB {k : IntKind} {a b : Int} {c d : Bool} (h : a = b) (h' : c = d) : Ending.returned (.tuple #[.int k a, .bool c]) = .returned (.tuple #[.int k b, .bool d]) := by rw [h, h']
theorem bcell {W w1 : World} (hb : Below W.heap.size W w1) : (∀ b o, b < W.heap.size → w1.cell? ⟨b, o, none⟩ = W.cell? ⟨b, o, none⟩) ∧ (∀ b o, b < W.heap.size → w1.frozen? ⟨b, o, none⟩ = W.frozen? ⟨b, o, none⟩) :=
  ⟨fun b o h => hb.cell (p := ⟨b, o, none⟩) h, fun b o h => hb.frozen (p := ⟨b, o, none⟩) h⟩
theorem below_drewN {B : Nat} {a w : World} (h : Below B a w) (n : Nat) : Below B a (w.drewN n) := ⟨h.os, h.tape, h.output, h.size, h.block⟩

theorem add64 (x y : Int) (hx : 0 ≤ x) (hy : 0 ≤ y) (w : World) :
    (callFunc 73 #[.int .u64 x, .int .u64 y, .int .u64 0]).run Try.prog w =
      .ok (.value (.tuple #[.int .u64 ((x + y) % 18446744073709551616), .int .u64 ((x + y) / 18446744073709551616)])) w := by
  rw [run_callFunc_extern Try.func73 (by kernel_rfl) (by kernel_rfl) (by kernel_rfl) (e := add64Entry) (by kernel_rfl), run_add64 x y 0 hx hy (by omega) (by omega)]
  simp only [Result.andThen, Int.add_zero]

def sub64E : Array Value → Sem Value := fun args => do
  let (x, y, b) ← Extern.MathBitsCarry.three "Sub64" args
  pure (Extern.MathBitsCarry.pair ((x + Extern.MathBitsCarry.m64 - y - b) % Extern.MathBitsCarry.m64) (if x < y + b then 1 else 0))
theorem run_sub64E (x y : Int) (hx : 0 ≤ x) (hy : 0 ≤ y) (hy1 : y ≤ 18446744073709551615) (w : World) :
    (sub64E #[.int .u64 x, .int .u64 y, .int .u64 0]).run Try.prog w = .ok (.tuple #[.int .u64 ((x - y) % 18446744073709551616), .int .u64 (if x < y then 1 else 0)]) w := by
  obtain ⟨X, rfl⟩ := Int.eq_ofNat_of_zero_le hx
  obtain ⟨Y, rfl⟩ := Int.eq_ofNat_of_zero_le hy
  have h : (sub64E #[.int .u64 (X : Int), .int .u64 (Y : Int), .int .u64 0]).run Try.prog w = .ok (Extern.MathBitsCarry.pair ((X + Extern.MathBitsCarry.m64 - Y - 0) % Extern.MathBitsCarry.m64) (if X < Y + 0 then 1 else 0)) w := rfl
  rw [h]
  simp only [Extern.MathBitsCarry.pair, Extern.MathBitsCarry.m64]
  have e1 : Int.ofNat ((X + 2 ^ 64 - Y - 0) % 2 ^ 64) = ((X : Int) - Y) % 18446744073709551616 := by
    rw [Int.ofNat_eq_natCast]; omega
  have e2 : Int.ofNat (if X < Y + 0 then 1 else 0) = if (X : Int) < Y then 1 else 0 := by
    rw [Int.ofNat_eq_natCast]; split <;> split <;> omega
  rw [e1, e2]
theorem sub64 (x y : Int) (hx : 0 ≤ x) (hy : 0 ≤ y) (hy1 : y ≤ 18446744073709551615) (w : World) :
    (callFunc 71 #[.int .u64 x, .int .u64 y, .int .u64 0]).run Try.prog w =
      .ok (.value (.tuple #[.int .u64 ((x - y) % 18446744073709551616), .int .u64 (if x < y then 1 else 0)])) w := by
  rw [run_callFunc_extern Try.func71 (by kernel_rfl) (by kernel_rfl) (by kernel_rfl) (e := sub64E) (by kernel_rfl), run_sub64E x y hx hy hy1]
  simp only [Result.andThen]

theorem Of_any (n : Int) (w : World) (h0 : -9223372036854775808 ≤ n) (h1 : n ≤ 9223372036854775807) :
    Calls Try.prog 31 #[.int .i64 n] w fun e w' => e = .returned (.agg #[.int .i64 (hiW n), .int .u64 (loW n)]) ∧ Below w.heap.size w w' := by
  go_enter Try.func31, Try.ntmps31
  go_wp2
  exact bodyPost_ret (v := .agg #[.int .i64 (n / 9223372036854775808), .int .u64 (IntKind.u64.wrap n)]) (by simp [results, Try.results31, go_sem]) rfl
    ⟨retW (of_hi h0 h1) (by rw [IntKind.wrap_u64]; rfl), (Below.refl _ _).alloc (Nat.le_refl _) _⟩

theorem plus_any (h1 l1 h2 l2 a b : Int) (w : World) (ha : IsW h1 l1 a) (hb : IsW h2 l2 b) :
    Calls Try.prog 57 #[.agg #[.int .i64 h1, .int .u64 l1], .agg #[.int .i64 h2, .int .u64 l2]] w fun e w' => e = .returned (.agg #[.int .i64 (hiW (wr128 (a + b))), .int .u64 (loW (wr128 (a + b)))]) ∧ Below w.heap.size w w' := by
  obtain ⟨a0, a1, a2, a3, rfl⟩ := ha
  obtain ⟨b0, b1, b2, b3, rfl⟩ := hb
  have hs := add64 l1 l2 a2 b2
  go_enter Try.func57, Try.ntmps57
  go_wp2
  refine bodyPost_ret (v := .agg #[.int .i64 (wrap64 (wrap64 (h1 + h2) + (l1 + l2) / 18446744073709551616)), .int .u64 ((l1 + l2) % 18446744073709551616)]) (by simp [results, Try.results57, go_sem]) rfl
    ⟨retW ?_ ?_, (((Below.refl _ _).alloc (Nat.le_refl _) _).alloc (by simp) _).alloc (by simp; omega) _⟩
  · unfold hiW wr128 wrap64; omega
  · unfold loW wr128; omega

theorem minus_any (h1 l1 h2 l2 a b : Int) (w : World) (ha : IsW h1 l1 a) (hb : IsW h2 l2 b) :
    Calls Try.prog 50 #[.agg #[.int .i64 h1, .int .u64 l1], .agg #[.int .i64 h2, .int .u64 l2]] w fun e w' => e = .returned (.agg #[.int .i64 (hiW (wr128 (a - b))), .int .u64 (loW (wr128 (a - b)))]) ∧ Below w.heap.size w w' := by
  obtain ⟨a0, a1, a2, a3, rfl⟩ := ha
  obtain ⟨b0, b1, b2, b3, rfl⟩ := hb
  have hs := sub64 l1 l2 a2 b2 b3
  by_cases hl : l1 < l2
  · simp only [hl, if_true] at hs
    go_enter Try.func50, Try.ntmps50
    go_wp2
    refine bodyPost_ret (v := .agg #[.int .i64 (wrap64 (wrap64 (h1 - h2) - 1)), .int .u64 ((l1 - l2) % 18446744073709551616)]) (by simp [results, Try.results50, go_sem]) rfl
      ⟨retW ?_ ?_, (((Below.refl _ _).alloc (Nat.le_refl _) _).alloc (by simp) _).alloc (by simp; omega) _⟩
    · unfold hiW wr128 wrap64; omega
    · unfold loW wr128; omega
  · simp only [hl, if_false] at hs
    go_enter Try.func50, Try.ntmps50
    go_wp2
    refine bodyPost_ret (v := .agg #[.int .i64 (wrap64 (wrap64 (h1 - h2))), .int .u64 ((l1 - l2) % 18446744073709551616)]) (by simp [results, Try.results50, go_sem]) rfl
      ⟨retW ?_ ?_, (((Below.refl _ _).alloc (Nat.le_refl _) _).alloc (by simp) _).alloc (by simp; omega) _⟩
    · unfold hiW wr128 wrap64; omega
    · unfold loW wr128; omega
end Go.Proofs.Ytmdcfnifbkpedaa
