/- Contracts at numbers by name, and what a region keeps of one or two numbers in memory. -/
import Derived.Test.YtmdcfnifbkpedaaWe
import Derived.Test.YtmdcfnifbkpedaaWb
import Derived.Deep.RegionHeld3
import Derived.OpenShut
namespace Go.Proofs.Ytmdcfnifbkpedaa
open Go.RowKit

theorem Mul_n (a b n : Int) (w : World) (hn : a * b = n) (a0 : -9223372036854775808 ≤ a) (a1 : a ≤ 9223372036854775807) (b0 : -9223372036854775808 ≤ b) (b1 : b ≤ 9223372036854775807) :
    Calls Try.prog 27 #[.int .i64 a, .int .i64 b] w fun e w' => e = .returned (.agg #[.int .i64 (hiW n), .int .u64 (loW n)]) ∧ Below w.heap.size w w' := by
  subst hn
  exact Mul_any a b w a0 a1 b0 b1
theorem Sign_n (n : Int) (w : World) (h : In128 n) :
    Calls Try.prog 56 #[.agg #[.int .i64 (hiW n), .int .u64 (loW n)]] w fun e w' => e = .returned (.int .i64 (cmpI n 0)) ∧ Below w.heap.size w w' := Sign_any _ _ n w (isW_of h)
theorem Cmp_n (n m : Int) (w : World) (h : In128 n) (k : In128 m) :
    Calls Try.prog 28 #[.agg #[.int .i64 (hiW n), .int .u64 (loW n)], .agg #[.int .i64 (hiW m), .int .u64 (loW m)]] w fun e w' => e = .returned (.int .i64 (cmpI n m)) ∧ Below w.heap.size w w' := Cmp_any _ _ _ _ n m w (isW_of h) (isW_of k)
theorem Add_yes (a b s : Int) (w : World) (ha : In128 a) (hb : In128 b) (hs : a + b = s) (k : In128 s) :
    Calls Try.prog 74 #[.agg #[.int .i64 (hiW a), .int .u64 (loW a)], .agg #[.int .i64 (hiW b), .int .u64 (loW b)]] w fun e w' => e = .returned (.tuple #[.agg #[.int .i64 (hiW s), .int .u64 (loW s)], .bool true]) ∧ Below w.heap.size w w' := by
  subst hs
  refine (Add_any _ _ _ _ a b w (isW_of ha) (isW_of hb)).mono fun e w' h => ⟨?_, h.2⟩
  have c := clip_yes k
  rw [h.1, ← c.1, ← c.2, wr128_of k]
theorem Neg_yes (a s : Int) (w : World) (ha : In128 a) (hs : -a = s) (k : In128 s) :
    Calls Try.prog 76 #[.agg #[.int .i64 (hiW a), .int .u64 (loW a)]] w fun e w' => e = .returned (.tuple #[.agg #[.int .i64 (hiW s), .int .u64 (loW s)], .bool true]) ∧ Below w.heap.size w w' := by
  subst hs
  refine (Neg_any _ _ a w (isW_of ha)).mono fun e w' h => ⟨?_, h.2⟩
  have c := clip_yes k
  rw [h.1, ← c.1, ← c.2, wr128_of k]
/-- an argument's halves are a number's -/
theorem wide_of {h l : Int} (wh : (Lit.int .i64 h).wf = true) (wl : (Lit.int .u64 l).wf = true) : ∃ n : Int, h = hiW n ∧ l = loW n ∧ In128 n := by
  have a := bounds_i64 wh
  have b := bounds_u64 wl
  have k : IsW h l (h * 18446744073709551616 + l) := ⟨a.1, a.2, b.1, b.2, rfl⟩
  exact ⟨_, k.hi, k.lo, k.in128⟩

theorem keep1 {B : Nat} {w W W' : World} {n : Nat} {p q : Value} (hb : Below W.heap.size W W') (h : (W.cell? ⟨n, 0, none⟩ = some p ∧ W.cell? ⟨n, 1, none⟩ = some q) ∧ n < W.heap.size ∧ B ≤ W.heap.size ∧ Below B w W) :
    (W'.cell? ⟨n, 0, none⟩ = some p ∧ W'.cell? ⟨n, 1, none⟩ = some q) ∧ n < W'.heap.size ∧ B ≤ W'.heap.size ∧ Below B w W' := by
  obtain ⟨⟨a, b⟩, c, z, d⟩ := h
  have := hb.size
  exact ⟨⟨(hb.cell c).trans a, (hb.cell c).trans b⟩, by omega, by omega, d.trans (hb.mono z)⟩
theorem start1 {B : Nat} {w W : World} {n : Nat} {a b : Int} (A : CellW W n a b) (c : n < W.heap.size) (z : B ≤ W.heap.size) (d : Below B w W) :
    (W.cell? ⟨n, 0, none⟩ = some (.int .i64 a) ∧ W.cell? ⟨n, 1, none⟩ = some (.int .u64 b)) ∧ n < W.heap.size ∧ B ≤ W.heap.size ∧ Below B w W := ⟨⟨A.c0, A.c1⟩, c, z, d⟩
theorem end1 {B : Nat} {w W : World} {n : Nat} {p q : Value} (h : (W.cell? ⟨n, 0, none⟩ = some p ∧ W.cell? ⟨n, 1, none⟩ = some q) ∧ n < W.heap.size ∧ B ≤ W.heap.size ∧ Below B w W) : Below B w W := h.2.2.2
theorem keep2 {B : Nat} {w W W' : World} {n m : Nat} {p q r s : Value} (hb : Below W.heap.size W W') (h : (W.cell? ⟨n, 0, none⟩ = some p ∧ W.cell? ⟨n, 1, none⟩ = some q) ∧ (W.cell? ⟨m, 0, none⟩ = some r ∧ W.cell? ⟨m, 1, none⟩ = some s) ∧ n < W.heap.size ∧ m < W.heap.size ∧ B ≤ W.heap.size ∧ Below B w W) :
    (W'.cell? ⟨n, 0, none⟩ = some p ∧ W'.cell? ⟨n, 1, none⟩ = some q) ∧ (W'.cell? ⟨m, 0, none⟩ = some r ∧ W'.cell? ⟨m, 1, none⟩ = some s) ∧ n < W'.heap.size ∧ m < W'.heap.size ∧ B ≤ W'.heap.size ∧ Below B w W' := by
  obtain ⟨⟨a, b⟩, ⟨e, f⟩, c, g, z, d⟩ := h
  have := hb.size
  exact ⟨⟨(hb.cell c).trans a, (hb.cell c).trans b⟩, ⟨(hb.cell g).trans e, (hb.cell g).trans f⟩, by omega, by omega, by omega, d.trans (hb.mono z)⟩
theorem start2 {B : Nat} {w W : World} {n m : Nat} {a b c d : Int} (A : CellW W n a b) (C : CellW W m c d) (g : n < W.heap.size) (i : m < W.heap.size) (z : B ≤ W.heap.size) (k : Below B w W) :
    (W.cell? ⟨n, 0, none⟩ = some (.int .i64 a) ∧ W.cell? ⟨n, 1, none⟩ = some (.int .u64 b)) ∧ (W.cell? ⟨m, 0, none⟩ = some (.int .i64 c) ∧ W.cell? ⟨m, 1, none⟩ = some (.int .u64 d)) ∧ n < W.heap.size ∧ m < W.heap.size ∧ B ≤ W.heap.size ∧ Below B w W := ⟨⟨A.c0, A.c1⟩, ⟨C.c0, C.c1⟩, g, i, z, k⟩
theorem end2 {B : Nat} {w W : World} {n m : Nat} {p q r s : Value} (h : (W.cell? ⟨n, 0, none⟩ = some p ∧ W.cell? ⟨n, 1, none⟩ = some q) ∧ (W.cell? ⟨m, 0, none⟩ = some r ∧ W.cell? ⟨m, 1, none⟩ = some s) ∧ n < W.heap.size ∧ m < W.heap.size ∧ B ≤ W.heap.size ∧ Below B w W) : Below B w W := h.2.2.2.2.2
end Go.Proofs.Ytmdcfnifbkpedaa
