/- Contracts of package wide: aboveRoot, Root. -/
import Derived.Test.YtbpmbdnhfkfkhaaBw
import Derived.Test.YtbpmbdnhfkfkhaaBn
import Derived.Deep.RegionHeld3
import Derived.OpenShut
namespace Go.Proofs.Ytbpmbdnhfkfkhaa
open Go.RowKit

theorem two_pow_cast (m : Nat) : ((2 : Int) ^ m) = ((2 ^ m : Nat) : Int) := by simp
theorem pow0 (m : Nat) : (0 : Int) ≤ 2 ^ m := Int.le_of_lt (Int.pow_pos (by omega))
theorem two_pow_le {m : Nat} (h : m ≤ 64) : (0 : Int) ≤ 2 ^ ((m + 1) / 2) ∧ (2 : Int) ^ ((m + 1) / 2) ≤ 4294967296 := by
  have h1 : 2 ^ ((m + 1) / 2) ≤ 2 ^ 32 := Nat.pow_le_pow_right (by omega) (by omega)
  refine ⟨pow0 _, ?_⟩
  rw [two_pow_cast]; exact Int.ofNat_le.2 h1
theorem two_pow_le' {m : Nat} (h : m ≤ 62) : (0 : Int) ≤ 2 ^ ((64 + m + 1) / 2) ∧ (2 : Int) ^ ((64 + m + 1) / 2) ≤ 9223372036854775808 := by
  have h1 : 2 ^ ((64 + m + 1) / 2) ≤ 2 ^ 63 := Nat.pow_le_pow_right (by omega) (by omega)
  refine ⟨pow0 _, ?_⟩
  rw [two_pow_cast]; exact Int.ofNat_le.2 h1
theorem blen63 (x : Nat) (h : x ≤ 9223372036854775807) : Lib.bitLen x ≤ 63 := by
  by_cases hx : x = 0
  · subst hx; decide
  · have h1 := (blen_spec x (by omega)).2 hx
    apply Classical.byContradiction
    intro hc
    have : 2 ^ 64 ≤ 2 ^ Lib.bitLen x := Nat.pow_le_pow_right (by omega) (by omega)
    omega
theorem pow_half (m : Nat) : (2 : Int) ^ m ≤ 2 ^ ((m + 1) / 2) * 2 ^ ((m + 1) / 2) := by
  rw [← Int.pow_add, two_pow_cast, two_pow_cast]
  exact Int.ofNat_le.2 (Nat.pow_le_pow_right (by omega) (by omega))
theorem above_low {h l n s : Int} {m : Nat} (e : n = h * 18446744073709551616 + l) (k : IsRoot n s) (p : h = 0) (l0 : 0 ≤ l) (c : l.toNat < 2 ^ m) : s ≤ 2 ^ ((m + 1) / 2) := by
  have h1 := pow_half m
  have h2 : l < 2 ^ m := by rw [two_pow_cast]; omega
  have h3 := k.lt_of (r := 2 ^ ((m + 1) / 2)) (pow0 _) (by subst p; omega)
  omega
theorem above_high {h l n s : Int} {m : Nat} (e : n = h * 18446744073709551616 + l) (k : IsRoot n s) (h0 : 0 ≤ h) (_l0 : 0 ≤ l) (l1 : l ≤ 18446744073709551615) (c : h.toNat < 2 ^ m) : s ≤ 2 ^ ((64 + m + 1) / 2) := by
  have h1 := pow_half (64 + m)
  have h2 : n < 2 ^ (64 + m) := by
    rw [Int.pow_add]
    have : h + 1 ≤ 2 ^ m := by rw [two_pow_cast]; omega
    have h3 : (h + 1) * 18446744073709551616 ≤ 2 ^ m * 18446744073709551616 := Int.mul_le_mul_of_nonneg_right this (by omega)
    rw [Int.mul_comm, show (2 : Int) ^ 64 = 18446744073709551616 from rfl]
    omega
  have h3 := k.lt_of (r := 2 ^ ((64 + m + 1) / 2)) (pow0 _) (by omega)
  omega

end Go.Proofs.Ytbpmbdnhfkfkhaa
namespace Go.Proofs.Ytbpmbdnhfkfkhaa
open Go.RowKit

/-- a by b in parts of 2^32; 0 unless 0 <= a < b -/
def partI (a b : Int) : Int := if 0 ≤ a ∧ a < b then a * 4294967296 / b else 0
theorem partI_no {a b : Int} (h : a < 0 ∨ b ≤ a) : 0 = partI a b := by
  unfold partI; rw [if_neg (by omega)]
theorem cmpI_lt {a b : Int} (h : a < b) : cmpI a b < 0 := by unfold cmpI; rw [if_neg (by omega), if_pos h]; omega
theorem cmpI_ge {a b : Int} (h : b ≤ a) : 0 ≤ cmpI a b := by unfold cmpI; split <;> (try split) <;> omega

/-- i digits of a by b: p, and x is left -/
structure Parts (a b : Int) (i : Nat) (p x : Int) : Prop where
  e : p * b + x = a * 2 ^ i
  x0 : 0 ≤ x
  x1 : x < b
  p0 : 0 ≤ p
  p1 : p < 2 ^ i
theorem Parts.start {a b : Int} (a0 : 0 ≤ a) (ab : a < b) : Parts a b 0 0 a := ⟨by simp, a0, ab, by omega, by simp⟩
theorem Parts.low {a b : Int} {i : Nat} {p x : Int} (k : Parts a b i p x) (h : x < b - x) : Parts a b (i + 1) (p * 2) (x + x) := by
  obtain ⟨e, x0, x1, p0, p1⟩ := k
  refine ⟨?_, by omega, by omega, by omega, by rw [Int.pow_succ]; omega⟩
  rw [Int.pow_succ, ← Int.mul_assoc, ← e, Int.add_mul, Int.mul_right_comm]; omega
theorem Parts.high {a b : Int} {i : Nat} {p x : Int} (k : Parts a b i p x) (h : b - x ≤ x) : Parts a b (i + 1) (p * 2 + 1) (x - (b - x)) := by
  obtain ⟨e, x0, x1, p0, p1⟩ := k
  refine ⟨?_, by omega, by omega, by omega, by rw [Int.pow_succ]; omega⟩
  rw [Int.pow_succ, ← Int.mul_assoc, ← e, Int.add_mul (p * b), Int.mul_right_comm, Int.add_mul]; omega
theorem Parts.done {a b : Int} {p x : Int} (k : Parts a b 32 p x) (a0 : 0 ≤ a) (ab : a < b) : p = partI a b := by
  obtain ⟨e, x0, x1, p0, p1⟩ := k
  unfold partI
  rw [if_pos ⟨a0, ab⟩]
  rw [show (2 : Int) ^ 32 = 4294967296 from rfl] at e
  rw [← e, Int.mul_comm p b, Int.add_comm, Int.add_mul_ediv_left _ _ (by omega), Int.ediv_eq_zero_of_lt x0 x1]
  omega
theorem Parts.bound {a b : Int} {i : Nat} {p x : Int} (k : Parts a b i p x) (h : i ≤ 31) : p ≤ 2147483647 := by
  have h1 : 2 ^ i ≤ 2 ^ 31 := Nat.pow_le_pow_right (by omega) h
  have h2 : ((2 : Int) ^ i) = ((2 ^ i : Nat) : Int) := by simp
  have := k.p1
  have h3 : ((2 ^ i : Nat) : Int) ≤ ((2 ^ 31 : Nat) : Int) := Int.ofNat_le.2 h1
  have h4 : ((2 ^ 31 : Nat) : Int) = 2147483648 := rfl
  omega

end Go.Proofs.Ytbpmbdnhfkfkhaa
namespace Go.Proofs.Ytbpmbdnhfkfkhaa
open Go.RowKit

end Go.Proofs.Ytbpmbdnhfkfkhaa
namespace Go.Proofs.Ytbpmbdnhfkfkhaa
open Go.RowKit

theorem Mul_n (a b n : Int) (w : World) (hn : a * b = n) (a0 : -9223372036854775808 ≤ a) (a1 : a ≤ 9223372036854775807) (b0 : -9223372036854775808 ≤ b) (b1 : b ≤ 9223372036854775807) :
    Calls Try.prog 50 #[.int .i64 a, .int .i64 b] w fun e w' => e = .returned (.agg #[.int .i64 (hiW n), .int .u64 (loW n)]) ∧ Below w.heap.size w w' := by
  subst hn
  exact Mul_any a b w a0 a1 b0 b1
theorem Sign_n (n : Int) (w : World) (h : In128 n) :
    Calls Try.prog 66 #[.agg #[.int .i64 (hiW n), .int .u64 (loW n)]] w fun e w' => e = .returned (.int .i64 (cmpI n 0)) ∧ Below w.heap.size w w' := Sign_any _ _ n w (isW_of h)
theorem Cmp_n (n m : Int) (w : World) (h : In128 n) (k : In128 m) :
    Calls Try.prog 84 #[.agg #[.int .i64 (hiW n), .int .u64 (loW n)], .agg #[.int .i64 (hiW m), .int .u64 (loW m)]] w fun e w' => e = .returned (.int .i64 (cmpI n m)) ∧ Below w.heap.size w w' := Cmp_any _ _ _ _ n m w (isW_of h) (isW_of k)
theorem Add_yes (a b s : Int) (w : World) (ha : In128 a) (hb : In128 b) (hs : a + b = s) (k : In128 s) :
    Calls Try.prog 70 #[.agg #[.int .i64 (hiW a), .int .u64 (loW a)], .agg #[.int .i64 (hiW b), .int .u64 (loW b)]] w fun e w' => e = .returned (.tuple #[.agg #[.int .i64 (hiW s), .int .u64 (loW s)], .bool true]) ∧ Below w.heap.size w w' := by
  subst hs
  refine (Add_any _ _ _ _ a b w (isW_of ha) (isW_of hb)).mono fun e w' h => ⟨?_, h.2⟩
  have c := clip_yes k
  rw [h.1, ← c.1, ← c.2, wr128_of k]
theorem Neg_yes (a s : Int) (w : World) (ha : In128 a) (hs : -a = s) (k : In128 s) :
    Calls Try.prog 68 #[.agg #[.int .i64 (hiW a), .int .u64 (loW a)]] w fun e w' => e = .returned (.tuple #[.agg #[.int .i64 (hiW s), .int .u64 (loW s)], .bool true]) ∧ Below w.heap.size w w' := by
  subst hs
  refine (Neg_any _ _ a w (isW_of ha)).mono fun e w' h => ⟨?_, h.2⟩
  have c := clip_yes k
  rw [h.1, ← c.1, ← c.2, wr128_of k]
/-- an argument's halves are a number's -/
theorem wide_of {h l : Int} (wh : (Lit.int .i64 h).wf = true) (wl : (Lit.int .u64 l).wf = true) : ∃ n : Int, h = hiW n ∧ l = loW n ∧ In128 n := by
  have a := bounds_i64 wh
  have b := bounds_u64 wl
  have k : IsW h l (h * 18446744073709551616 + l) := ⟨a.1, a.2, b.1, b.2, rfl⟩
  exact ⟨_, k.hi, k.lo, k.in128⟩

theorem keep1 {B : Nat} {w W W' : World} {n : Nat} {p q : Value} (hb : Below W.heap.size W W') (h : (W.cell? ⟨n, 0, none⟩ = some p ∧ W.cell? ⟨n, 1, none⟩ = some q) ∧ n < W.heap.size ∧ B ≤ W.heap.size ∧ Below B w W) :
    (W'.cell? ⟨n, 0, none⟩ = some p ∧ W'.cell? ⟨n, 1, none⟩ = some q) ∧ n < W'.heap.size ∧ B ≤ W'.heap.size ∧ Below B w W' := by
  obtain ⟨⟨a, b⟩, c, z, d⟩ := h
  have := hb.size
  exact ⟨⟨(hb.cell c).trans a, (hb.cell c).trans b⟩, by omega, by omega, d.trans (hb.mono z)⟩
theorem start1 {B : Nat} {w W : World} {n : Nat} {a b : Int} (A : CellW W n a b) (c : n < W.heap.size) (z : B ≤ W.heap.size) (d : Below B w W) :
    (W.cell? ⟨n, 0, none⟩ = some (.int .i64 a) ∧ W.cell? ⟨n, 1, none⟩ = some (.int .u64 b)) ∧ n < W.heap.size ∧ B ≤ W.heap.size ∧ Below B w W := ⟨⟨A.c0, A.c1⟩, c, z, d⟩
theorem end1 {B : Nat} {w W : World} {n : Nat} {p q : Value} (h : (W.cell? ⟨n, 0, none⟩ = some p ∧ W.cell? ⟨n, 1, none⟩ = some q) ∧ n < W.heap.size ∧ B ≤ W.heap.size ∧ Below B w W) : Below B w W := h.2.2.2
theorem keep2 {B : Nat} {w W W' : World} {n m : Nat} {p q r s : Value} (hb : Below W.heap.size W W') (h : (W.cell? ⟨n, 0, none⟩ = some p ∧ W.cell? ⟨n, 1, none⟩ = some q) ∧ (W.cell? ⟨m, 0, none⟩ = some r ∧ W.cell? ⟨m, 1, none⟩ = some s) ∧ n < W.heap.size ∧ m < W.heap.size ∧ B ≤ W.heap.size ∧ Below B w W) :
    (W'.cell? ⟨n, 0, none⟩ = some p ∧ W'.cell? ⟨n, 1, none⟩ = some q) ∧ (W'.cell? ⟨m, 0, none⟩ = some r ∧ W'.cell? ⟨m, 1, none⟩ = some s) ∧ n < W'.heap.size ∧ m < W'.heap.size ∧ B ≤ W'.heap.size ∧ Below B w W' := by
  obtain ⟨⟨a, b⟩, ⟨e, f⟩, c, g, z, d⟩ := h
  have := hb.size
  exact ⟨⟨(hb.cell c).trans a, (hb.cell c).trans b⟩, ⟨(hb.cell g).trans e, (hb.cell g).trans f⟩, by omega, by omega, by omega, d.trans (hb.mono z)⟩
theorem start2 {B : Nat} {w W : World} {n m : Nat} {a b c d : Int} (A : CellW W n a b) (C : CellW W m c d) (g : n < W.heap.size) (i : m < W.heap.size) (z : B ≤ W.heap.size) (k : Below B w W) :
    (W.cell? ⟨n, 0, none⟩ = some (.int .i64 a) ∧ W.cell? ⟨n, 1, none⟩ = some (.int .u64 b)) ∧ (W.cell? ⟨m, 0, none⟩ = some (.int .i64 c) ∧ W.cell? ⟨m, 1, none⟩ = some (.int .u64 d)) ∧ n < W.heap.size ∧ m < W.heap.size ∧ B ≤ W.heap.size ∧ Below B w W := ⟨⟨A.c0, A.c1⟩, ⟨C.c0, C.c1⟩, g, i, z, k⟩
theorem end2 {B : Nat} {w W : World} {n m : Nat} {p q r s : Value} (h : (W.cell? ⟨n, 0, none⟩ = some p ∧ W.cell? ⟨n, 1, none⟩ = some q) ∧ (W.cell? ⟨m, 0, none⟩ = some r ∧ W.cell? ⟨m, 1, none⟩ = some s) ∧ n < W.heap.size ∧ m < W.heap.size ∧ B ≤ W.heap.size ∧ Below B w W) : Below B w W := h.2.2.2.2.2
end Go.Proofs.Ytbpmbdnhfkfkhaa
