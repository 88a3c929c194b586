/- The contract of the document's Div. -/
import Derived.Test.YtldcmiomfahaoaaVa
import Derived.Test.YtldcmiomfahaoaaVb
import Derived.Test.YtldcmiomfahaoaaVc
import Derived.Test.YtldcmiomfahaoaaVd
namespace Go.Proofs.Ytldcmiomfahaoaa
open Go.RowKit

theorem rDiv_any (n b : Int) (w : World) (hn : In128 n) (b0 : -9223372036854775808 ≤ b) (b1 : b ≤ 9223372036854775807) :
    Calls Try.prog 77 #[.agg #[.bool (decide (n < 0)), .int .u64 (d0 (n.natAbs)), .int .u64 (d1 (n.natAbs)), .int .u64 (d2 (n.natAbs)), .int .u64 (d3 (n.natAbs))], .int .i64 b] w fun e w' => e = .returned (.tuple #[.int .i64 (divI n b), .bool (divB n b)]) ∧ Below w.heap.size w w' := by
  by_cases hb : b = 0
  · subst hb
    have D := Lib.hid (div_zero n)
    go_enter Try.func77, Try.ntmps77
    go_wp2
    go_ret2
    exact ⟨retIB D.out.1 D.out.2, by repeat (first | exact Below.refl _ _ | assumption | refine Below.setCell ?_ (by first | omega | (simp; done) | (simp; omega)) _ | refine Below.alloc ?_ (by first | omega | (simp; done) | (simp; omega)) _ | refine below_drewN ?_ _ | refine Below.drew ?_ | refine Below.trans ?_ (Below.mono (by assumption) (by first | omega | (simp; done) | (simp; omega))))⟩
  · by_cases c : (b.natAbs : Int) < 2 * ((n.natAbs : Int) % (b.natAbs : Int))
    · exact rDiv_up n b w hn b0 b1 hb c
    · by_cases c2 : 2 * ((n.natAbs : Int) % (b.natAbs : Int)) = b.natAbs
      · by_cases c3 : ((n.natAbs : Int) / (b.natAbs : Int)) % 2 = 1
        · exact rDiv_odd n b w hn b0 b1 hb c2 c3
        · exact rDiv_even n b w hn b0 b1 hb c2 c3
      · exact rDiv_down n b w hn b0 b1 hb c c2
end Go.Proofs.Ytldcmiomfahaoaa
