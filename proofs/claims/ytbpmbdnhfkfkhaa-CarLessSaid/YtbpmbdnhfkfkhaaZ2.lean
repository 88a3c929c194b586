/- A car as numbers; the document's small functions: in, whole, ranged. -/
import Derived.Test.YtbpmbdnhfkfkhaaZ1
import Derived.Test.YtbpmbdnhfkfkhaaPg
import Derived.Test.YtbpmbdnhfkfkhaaBj
namespace Go.Proofs.Ytbpmbdnhfkfkhaa
open Go.RowKit
set_option linter.unusedVariables false
set_option linter.unusedSimpArgs false

/-- points in a slice -/
structure Dz where
  a : Option Addr
  n : Nat
  c : Nat
  x : Nat → Int
  y : Nat → Int
/-- a car: numbers and flags by their cells, its tables, its gears -/
structure Cr where
  f : Nat → Int
  p : Nat → Bool
  d : Dz
  t : Pn
  q : Dz
  r : Dz
  g : Sl
/-- a car's cells -/
def carL (c : Cr) : List Value := [.int .i64 (c.f 0), .int .i64 (c.f 1), .int .i64 (c.f 2), .int .i64 (c.f 3), .int .i64 (c.f 4), .int .i64 (c.f 5), .int .i64 (c.f 6), .int .i64 (c.f 7), .int .i64 (c.f 8), .int .i64 (c.f 9), .int .i64 (c.f 10), .int .i64 (c.f 11), .bool (c.p 12), .bool (c.p 13), .int .i64 (c.f 14), .int .i64 (c.f 15), .int .i64 (c.f 16), .int .i64 (c.f 17), .int .i64 (c.f 18), .int .i64 (c.f 19), .int .i64 (c.f 20), .int .i64 (c.f 21), .bool (c.p 22), .bool (c.p 23), .int .i64 (c.f 24), .int .i64 (c.f 25), .int .i64 (c.f 26), .int .i64 (c.f 27), .int .i64 (c.f 28), .int .i64 (c.f 29), .int .i64 (c.f 30), .int .i64 (c.f 31), .bool (c.p 32), .bool (c.p 33), .int .i64 (c.f 34), .int .i64 (c.f 35), .int .i64 (c.f 36), .int .i64 (c.f 37), .int .i64 (c.f 38), .int .i64 (c.f 39), .int .i64 (c.f 40), .int .i64 (c.f 41), .bool (c.p 42), .bool (c.p 43), .int .i64 (c.f 44), .int .i64 (c.f 45), .slice c.d.a c.d.n c.d.c, .slice c.t.x.a c.t.x.n c.t.x.c, .slice c.t.y.a c.t.y.n c.t.y.c, .slice c.t.a c.t.n c.t.c, .slice c.q.a c.q.n c.q.c, .slice c.r.a c.r.n c.r.c, .int .i64 (c.f 52), .int .i64 (c.f 53), .int .i64 (c.f 54), .int .i64 (c.f 55), .int .i64 (c.f 56), .int .i64 (c.f 57), .int .i64 (c.f 58), .int .i64 (c.f 59), .slice c.g.a c.g.n c.g.c, .int .i64 (c.f 61), .int .i64 (c.f 62), .int .i64 (c.f 63), .int .i64 (c.f 64), .int .i64 (c.f 65), .int .i64 (c.f 66), .int .u32 (c.f 67), .int .u32 (c.f 68), .int .i64 (c.f 69), .int .i64 (c.f 70), .int .i64 (c.f 71), .int .i64 (c.f 72), .int .i64 (c.f 73), .int .i64 (c.f 74), .int .i64 (c.f 75)]
/-- from one number to another one -/
def inC (lo hi n : Int) : Bool := decide (lo ≤ n) && decide (n ≤ hi)
theorem rCIn_any (n lo hi : Int) (w : World) : Calls Try.prog 27 #[.int .i64 n, .int .i64 lo, .int .i64 hi] w fun e w' => e = .returned (.bool (inC lo hi n)) ∧ w' = w := by
  have E := Lib.hid (show inC lo hi n = (decide (lo ≤ n) && decide (n ≤ hi)) from rfl)
  rw [E.out]
  by_cases h1 : lo ≤ n
  · by_cases h2 : n ≤ hi
    · go_enter Try.func27, Try.ntmps27
      go_wp2
      go_ret
      exact ⟨retB (by simp [h1, h2]), rfl⟩
    · go_enter Try.func27, Try.ntmps27
      go_wp2
      go_ret
      exact ⟨retB (by simp [h1, h2]), rfl⟩
  · go_enter Try.func27, Try.ntmps27
    go_wp2
    go_ret
    exact ⟨retB (by simp; omega), rfl⟩
theorem rCWhole_any (n m : Int) (h : wrap64 (n * 4294967296) = m) (w : World) : Calls Try.prog 28 #[.int .i64 n] w fun e w' => e = .returned (.int .i64 m) ∧ w' = w := by
  go_enter Try.func28, Try.ntmps28
  go_wp2
  go_ret
  exact ⟨retI h, rfl⟩
/-- ErrRange, if not -/
def rngC (b : Bool) : Int := if b then 0 else 40
theorem rCRanged_any (b : Bool) (w : World) : Calls Try.prog 24 #[.bool b] w fun e w' => e = .returned (.int .i64 (rngC b)) ∧ w' = w := by
  cases b with
  | true =>
    go_enter Try.func24, Try.ntmps24
    go_wp2
    go_ret
    exact ⟨rfl, rfl⟩
  | false =>
    go_enter Try.func24, Try.ntmps24
    go_wp2
    go_ret
    exact ⟨rfl, rfl⟩
end Go.Proofs.Ytbpmbdnhfkfkhaa
