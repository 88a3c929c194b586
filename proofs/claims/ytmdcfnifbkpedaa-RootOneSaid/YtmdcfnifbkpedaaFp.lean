/- The contract of the document's Add. -/
import Derived.Test.YtmdcfnifbkpedaaFk
import Derived.Test.YtmdcfnifbkpedaaFl
import Derived.Test.YtmdcfnifbkpedaaFn
namespace Go.Proofs.Ytmdcfnifbkpedaa
open Go.RowKit

theorem rAdd_any (a b : Int) (w : World) (ha : In128 a) (hb : In128 b) :
    Calls Try.prog 45 #[.agg #[.bool (decide (a < 0)), .int .u64 (d0 (a.natAbs)), .int .u64 (d1 (a.natAbs)), .int .u64 (d2 (a.natAbs)), .int .u64 (d3 (a.natAbs))], .agg #[.bool (decide (b < 0)), .int .u64 (d0 (b.natAbs)), .int .u64 (d1 (b.natAbs)), .int .u64 (d2 (b.natAbs)), .int .u64 (d3 (b.natAbs))]] w fun e w' => e = .returned (.tuple #[.agg #[.bool (decide (clipW (a + b) < 0)), .int .u64 (d0 ((clipW (a + b)).natAbs)), .int .u64 (d1 ((clipW (a + b)).natAbs)), .int .u64 (d2 ((clipW (a + b)).natAbs)), .int .u64 (d3 ((clipW (a + b)).natAbs))], .bool (fitW (a + b))]) ∧ Below w.heap.size w w' := by
  have A := abs128 ha
  have B := abs128 hb
  have ha' := ha
  have hb' := hb
  unfold In128 at ha' hb'
  cases s : (decide (a < 0) == decide (b < 0)) with
  | true =>
    by_cases c : (a.natAbs : Int) + b.natAbs = 340282366920938463463374607431768211456
    · exact rAdd_carry a b w ha hb s c
    · by_cases z : a + b = 0
      · have e : a = 0 ∧ b = 0 := by by_cases p : a < 0 <;> by_cases q : b < 0 <;> simp [p, q] at s <;> omega
        exact rAdd_same0 a b w ha hb e.1 e.2
      · exact rAdd_same a b w ha hb s z (by omega)
  | false =>
    rcases Int.lt_trichotomy (a.natAbs : Int) (b.natAbs : Int) with h | h | h
    · exact rAdd_less a b w ha hb s h
    · exact rAdd_zero a b w ha hb s h.symm
    · exact rAdd_more a b w ha hb s h
end Go.Proofs.Ytmdcfnifbkpedaa
