/- The contract of same, at equal numbers. -/
import Derived.Test.YtbigjdhehaihoaaFa
import Derived.Test.YtbigjdhehaihoaaFu
namespace Go.Proofs.Ytbigjdhehaihoaa
open Go.RowKit

theorem same_yes (n : Int) (w : World) (h : In128 n) :
    Calls Try.prog 19 #[.agg #[.int .i64 (hiW n), .int .u64 (loW n)], .agg #[.bool (decide (n < 0)), .int .u64 (d0 (n.natAbs)), .int .u64 (d1 (n.natAbs)), .int .u64 (d2 (n.natAbs)), .int .u64 (d3 (n.natAbs))]] w fun e w' => e = .returned (.bool true) ∧ Below w.heap.size w w' := by
  have A := abs128 h
  have c := clip_of h
  have e1 : clipW (sgnW (decide (n < 0)) n.natAbs) = n := by rw [sgnW_abs, c.1]
  have e2 : fitW (sgnW (decide (n < 0)) n.natAbs) = true := by rw [sgnW_abs, c.2]
  clear c
  go_enter Try.func19, Try.ntmps19
  go_wp2_with fail
  refine (Words_any _ _ _ A.1 A.2).mono ?_
  rw [e1, e2]
  rintro e w1 ⟨rfl, hb1⟩
  obtain ⟨hc_w1, hf_w1⟩ := bcell hb1
  have z_w1 := hb1.size
  try simp at z_w1
  have z0_w1 : w.heap.size < w1.heap.size := by omega
  have z1_w1 : w.heap.size + 1 < w1.heap.size := by omega
  have y_w1 : w.heap.size ≤ w1.heap.size := by omega
  go_wp2
  go_ret
  exact ⟨rfl, by repeat (first | exact Below.refl _ _ | assumption | refine Below.setCell ?_ (by first | omega | (simp; done) | (simp; omega)) _ | refine Below.alloc ?_ (by first | omega | (simp; done) | (simp; omega)) _ | refine below_drewN ?_ _ | refine Below.drew ?_ | refine Below.trans ?_ (Below.mono (by assumption) (by first | omega | (simp; done) | (simp; omega))))⟩
end Go.Proofs.Ytbigjdhehaihoaa
