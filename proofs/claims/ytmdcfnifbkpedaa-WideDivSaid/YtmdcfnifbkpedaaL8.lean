/- The walk of WideDiv. -/
import Derived.Test.YtmdcfnifbkpedaaVe
import Derived.Test.YtmdcfnifbkpedaaFo
import Derived.Test.YtmdcfnifbkpedaaWa
import Derived.Test.YtmdcfnifbkpedaaL0
namespace Go.Proofs.Ytmdcfnifbkpedaa
open Go.RowKit

set_option maxHeartbeats 4000000 in
theorem wdiv_walk (a b : Int) (w : World) (ha : In128 a) (b0 : -9223372036854775808 ≤ b) (b1 : b ≤ 9223372036854775807) :
    Calls Try.prog 3 #[.agg #[.int .i64 (hiW a), .int .u64 (loW a)], .int .i64 b] w fun e w' => e = .returned (.bool true) ∧ Below w.heap.size w w' := by
  go_enter Try.func3, Try.ntmps3
  go_wp2_with fail
  refine (Div_any _ _ a b _ (isW_of ha) b0 b1).mono ?_
  rintro e w1 ⟨rfl, hb1⟩
  obtain ⟨hc_w1, hf_w1⟩ := bcell hb1
  have z_w1 := hb1.size
  try simp at z_w1
  have z0_w1 : w.heap.size < w1.heap.size := by omega
  have y_w1 : w.heap.size ≤ w1.heap.size := by omega
  go_wp2_with fail
  refine (of_any a _ ha).mono ?_
  rintro e w2 ⟨rfl, hb2⟩
  obtain ⟨hc_w2, hf_w2⟩ := bcell hb2
  have z_w2 := hb2.size
  try simp at z_w2
  have z0_w2 : w.heap.size < w2.heap.size := by omega
  have y_w2 : w.heap.size ≤ w2.heap.size := by omega
  go_wp2_with fail
  refine (rDiv_any a b _ ha b0 b1).mono ?_
  rintro e w3 ⟨rfl, hb3⟩
  obtain ⟨hc_w3, hf_w3⟩ := bcell hb3
  have z_w3 := hb3.size
  try simp at z_w3
  have z0_w3 : w.heap.size < w3.heap.size := by omega
  have y_w3 : w.heap.size ≤ w3.heap.size := by omega
  go_wp2_with fail
  refine (awake_any _).mono ?_
  rintro e w4 ⟨rfl, hb4⟩
  obtain ⟨hc_w4, hf_w4⟩ := bcell hb4
  have z_w4 := hb4.size
  try simp at z_w4
  have z0_w4 : w.heap.size < w4.heap.size := by omega
  have y_w4 : w.heap.size ≤ w4.heap.size := by omega
  go_wp2
  go_ret
  exact ⟨rfl, by repeat (first | exact Below.refl _ _ | assumption | refine Below.setCell ?_ (by first | omega | (simp; done) | (simp; omega)) _ | refine Below.alloc ?_ (by first | omega | (simp; done) | (simp; omega)) _ | refine below_drewN ?_ _ | refine Below.drew ?_ | refine Below.trans ?_ (Below.mono (by assumption) (by first | omega | (simp; done) | (simp; omega))))⟩
theorem wdiv_law (h l b : Int) (wh : (Lit.int .i64 h).wf = true) (wl : (Lit.int .u64 l).wf = true) (wb : (Lit.int .i64 b).wf = true) (w : World) :
    Calls Try.prog 3 #[.agg #[.int .i64 h, .int .u64 l], .int .i64 b] w fun e w' => e = .returned (.bool true) ∧ Below w.heap.size w w' := by
  obtain ⟨a, rfl, rfl, ha⟩ := wide_of wh wl
  have B := bounds_i64 wb
  exact wdiv_walk a b w ha B.1 B.2
end Go.Proofs.Ytmdcfnifbkpedaa
