/- The walk of FxRises. -/
import Derived.Test.YtbigjdhehaihoaaGf
import Derived.Test.YtbigjdhehaihoaaGr
import Derived.OpenShut
namespace Go.Proofs.Ytbigjdhehaihoaa
open Go.RowKit

set_option maxHeartbeats 2000000 in
theorem rises_walk (a b c : Int) (w : World) (a0 : -9223372036854775808 ≤ a) (a1 : a ≤ 9223372036854775807) (b0 : -9223372036854775808 ≤ b) (b1 : b ≤ 9223372036854775807) (c0 : -9223372036854775808 ≤ c) (c1 : c ≤ 9223372036854775807) :
    Calls Try.prog 11 #[.int .i64 a, .int .i64 b, .int .i64 c] w fun e w' => e = .returned (.bool true) ∧ Below w.heap.size w w' := by
  by_cases p : b < a
  · go_enter Try.func11, Try.ntmps11
    go_wp2_with fail
    refine (fxAwake_any _).mono ?_
    rintro e w1 ⟨rfl, hb1⟩
    obtain ⟨hc_w1, hf_w1⟩ := bcell hb1
    have z_w1 := hb1.size
    try simp at z_w1
    have z0_w1 : w.heap.size < w1.heap.size := by omega
    have y_w1 : w.heap.size ≤ w1.heap.size := by omega
    go_wp2
    go_ret
    exact ⟨rfl, by repeat (first | exact Below.refl _ _ | assumption | refine Below.setCell ?_ (by first | omega | (simp; done) | (simp; omega)) _ | refine Below.alloc ?_ (by first | omega | (simp; done) | (simp; omega)) _ | refine below_drewN ?_ _ | refine Below.drew ?_ | refine Below.trans ?_ (Below.mono (by assumption) (by first | omega | (simp; done) | (simp; omega))))⟩
  · by_cases q : c < 0
    · go_enter Try.func11, Try.ntmps11
      go_wp2_with fail
      refine (fxAwake_any _).mono ?_
      rintro e w1 ⟨rfl, hb1⟩
      obtain ⟨hc_w1, hf_w1⟩ := bcell hb1
      have z_w1 := hb1.size
      try simp at z_w1
      have z0_w1 : w.heap.size < w1.heap.size := by omega
      have y_w1 : w.heap.size ≤ w1.heap.size := by omega
      go_wp2
      go_ret
      exact ⟨rfl, by repeat (first | exact Below.refl _ _ | assumption | refine Below.setCell ?_ (by first | omega | (simp; done) | (simp; omega)) _ | refine Below.alloc ?_ (by first | omega | (simp; done) | (simp; omega)) _ | refine below_drewN ?_ _ | refine Below.drew ?_ | refine Below.trans ?_ (Below.mono (by assumption) (by first | omega | (simp; done) | (simp; omega))))⟩
    · have K1 : mulF a c ≤ mulF b c := mulF_mono (by omega) (by omega)
      by_cases r : c = 0
      · subst r
        go_enter Try.func11, Try.ntmps11
        go_wp2_with fail
        have m0 : MAt (w.alloc (.cells #[.bool false] 47)) w.heap.size 0 false := MAt.new w _ _
        have M0 := Lib.hid m0
        clear m0
        refine (fxMul_any a 0 w.heap.size 0 false _ a0 a1 c0 c1 M0.out).mono ?_
        rintro e w1 ⟨rfl, h1⟩
        have M1 := Lib.hid (h1.at M0.out M0.out.lt)
        have B1 := Lib.hid (((Below.refl w.heap.size w).alloc (Nat.le_refl _) _).trans (h1.below (C := w.heap.size) (by simp) (Nat.le_refl _)))
        clear h1
        go_wp2_with fail
        refine (fxMul_any b 0 w.heap.size 0 _ _ b0 b1 c0 c1 M1.out).mono ?_
        rintro e w2 ⟨rfl, h2⟩
        have M2 := Lib.hid (h2.at M1.out M1.out.lt)
        have B2 := Lib.hid (B1.out.trans (h2.below (C := w.heap.size) B1.out.size (Nat.le_refl _)))
        clear h2
        go_wp2_with fail
        refine (fxAwake_any _).mono ?_
        rintro e w5 ⟨rfl, hb5⟩
        go_wp2
        go_ret
        exact ⟨rfl, B2.out.trans (hb5.mono B2.out.size)⟩
      · have K2 : divF a c ≤ divF b c := divF_mono (by omega) (by omega)
        have t : (c == 0) = false := by simp; omega
        go_enter Try.func11, Try.ntmps11
        go_wp2_with fail
        have m0 : MAt (w.alloc (.cells #[.bool false] 47)) w.heap.size 0 false := MAt.new w _ _
        have M0 := Lib.hid m0
        clear m0
        refine (fxMul_any a c w.heap.size 0 false _ a0 a1 c0 c1 M0.out).mono ?_
        rintro e w1 ⟨rfl, h1⟩
        have M1 := Lib.hid (h1.at M0.out M0.out.lt)
        have B1 := Lib.hid (((Below.refl w.heap.size w).alloc (Nat.le_refl _) _).trans (h1.below (C := w.heap.size) (by simp) (Nat.le_refl _)))
        clear h1
        go_wp2_with fail
        refine (fxMul_any b c w.heap.size 0 _ _ b0 b1 c0 c1 M1.out).mono ?_
        rintro e w2 ⟨rfl, h2⟩
        have M2 := Lib.hid (h2.at M1.out M1.out.lt)
        have B2 := Lib.hid (B1.out.trans (h2.below (C := w.heap.size) B1.out.size (Nat.le_refl _)))
        clear h2
        go_wp2_with fail
        refine (fxDiv_any a c w.heap.size 0 _ _ a0 a1 c0 c1 M2.out).mono ?_
        rintro e w3 ⟨rfl, h3⟩
        have M3 := Lib.hid (h3.at M2.out M2.out.lt)
        have B3 := Lib.hid (B2.out.trans (h3.below (C := w.heap.size) B2.out.size (Nat.le_refl _)))
        clear h3
        go_wp2_with fail
        refine (fxDiv_any b c w.heap.size 0 _ _ b0 b1 c0 c1 M3.out).mono ?_
        rintro e w4 ⟨rfl, h4⟩
        have M4 := Lib.hid (h4.at M3.out M3.out.lt)
        have B4 := Lib.hid (B3.out.trans (h4.below (C := w.heap.size) B3.out.size (Nat.le_refl _)))
        clear h4
        go_wp2_with fail
        refine (fxAwake_any _).mono ?_
        rintro e w5 ⟨rfl, hb5⟩
        go_wp2
        go_ret
        exact ⟨rfl, B4.out.trans (hb5.mono B4.out.size)⟩
theorem rises_law (a b c : Int) (wa : (Lit.int .i64 a).wf = true) (wb : (Lit.int .i64 b).wf = true) (wc : (Lit.int .i64 c).wf = true) (w : World) :
    Calls Try.prog 11 #[.int .i64 a, .int .i64 b, .int .i64 c] w fun e w' => e = .returned (.bool true) ∧ Below w.heap.size w w' := by
  have A := bounds_i64 wa
  have B := bounds_i64 wb
  have C := bounds_i64 wc
  exact rises_walk a b c w A.1 A.2 B.1 B.2 C.1 C.2
end Go.Proofs.Ytbigjdhehaihoaa
