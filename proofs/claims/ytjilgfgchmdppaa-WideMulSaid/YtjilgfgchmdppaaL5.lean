/- The walk of WideMul. -/
import Derived.Test.YtjilgfgchmdppaaFe
import Derived.Test.YtjilgfgchmdppaaFs
namespace Go.Proofs.Ytjilgfgchmdppaa
open Go.RowKit

set_option maxHeartbeats 2000000 in
theorem mul_walk (a b : Int) (w : World) (a0 : -9223372036854775808 ≤ a) (a1 : a ≤ 9223372036854775807) (b0 : -9223372036854775808 ≤ b) (b1 : b ≤ 9223372036854775807) :
    Calls Try.prog 3 #[.int .i64 a, .int .i64 b] w fun e w' => e = .returned (.bool true) ∧ Below w.heap.size w w' := by
  have bd := mul_bound a0 (by omega) b0 (by omega)
  have pin : In128 (a * b) := by unfold In128; omega
  have ain := in128_64 a0 a1
  clear bd
  go_enter Try.func3, Try.ntmps3
  go_wp2_with fail
  refine (Mul_any a b _ a0 a1 b0 b1).mono ?_
  rintro e w1 ⟨rfl, hb1⟩
  have z_w1 := hb1.size
  try simp at z_w1
  have y_w1 : w.heap.size ≤ w1.heap.size := by omega
  go_wp2_with fail
  refine (rMul_any a b _ a0 a1 b0 b1).mono ?_
  rintro e w2 ⟨rfl, hb2⟩
  have z_w2 := hb2.size
  try simp at z_w2
  have y_w2 : w.heap.size ≤ w2.heap.size := by omega
  go_wp2_with fail
  refine (same_yes _ _ pin).mono ?_
  rintro e w3 ⟨rfl, hb3⟩
  have z_w3 := hb3.size
  try simp at z_w3
  have y_w3 : w.heap.size ≤ w3.heap.size := by omega
  go_wp2_with fail
  refine (Of_any a _ a0 a1).mono ?_
  rintro e w4 ⟨rfl, hb4⟩
  have z_w4 := hb4.size
  try simp at z_w4
  have y_w4 : w.heap.size ≤ w4.heap.size := by omega
  go_wp2_with fail
  refine (rOf_any a _ a0 a1).mono ?_
  rintro e w5 ⟨rfl, hb5⟩
  have z_w5 := hb5.size
  try simp at z_w5
  have y_w5 : w.heap.size ≤ w5.heap.size := by omega
  go_wp2_with fail
  refine (same_yes _ _ ain).mono ?_
  rintro e w6 ⟨rfl, hb6⟩
  have z_w6 := hb6.size
  try simp at z_w6
  have y_w6 : w.heap.size ≤ w6.heap.size := by omega
  go_wp2_with fail
  refine (awake_any _).mono ?_
  rintro e w7 ⟨rfl, hb7⟩
  have z_w7 := hb7.size
  try simp at z_w7
  have y_w7 : w.heap.size ≤ w7.heap.size := by omega
  go_wp2
  go_ret
  exact ⟨rfl, by repeat (first | exact Below.refl _ _ | assumption | refine Below.setCell ?_ (by first | omega | (simp; done) | (simp; omega)) _ | refine Below.alloc ?_ (by first | omega | (simp; done) | (simp; omega)) _ | refine below_drewN ?_ _ | refine Below.drew ?_ | refine Below.trans ?_ (Below.mono (by assumption) (by first | omega | (simp; done) | (simp; omega))))⟩

theorem mul_law (a b : Int) (wa : (Lit.int .i64 a).wf = true) (wb : (Lit.int .i64 b).wf = true) (w : World) :
    Calls Try.prog 3 #[.int .i64 a, .int .i64 b] w fun e w' => e = .returned (.bool true) ∧ Below w.heap.size w w' :=
  mul_walk a b w (bounds_i64 wa).1 (bounds_i64 wa).2 (bounds_i64 wb).1 (bounds_i64 wb).2
end Go.Proofs.Ytjilgfgchmdppaa
