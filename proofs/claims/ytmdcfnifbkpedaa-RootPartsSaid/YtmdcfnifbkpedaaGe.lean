/- Contracts of package fx: Neg, Abs, Mul, Div, Of, Ratio, Mix. -/
import Derived.Test.YtmdcfnifbkpedaaGd
namespace Go.Proofs.Ytmdcfnifbkpedaa
open Go.RowKit

theorem fxNeg_any (x : Int) (b k : Nat) (o : Bool) (w : World) (x0 : -9223372036854775808 ≤ x) (x1 : x ≤ 9223372036854775807) (m : MAt w b k o) :
    Calls Try.prog 49 #[.pointer (some ⟨b, k, none⟩), .int .i64 x] w fun e w' => e = .returned (.int .i64 (subF 0 x)) ∧ FxW w.heap.size w b k (o || subO 0 x) w' := by
  go_enter Try.func49, Try.ntmps49
  go_wp2_with fail
  refine (fxSub_any 0 x b k o _ (by omega) (by omega) x0 x1 m).mono ?_
  rintro e w9 ⟨rfl, hb9⟩
  go_wp2
  go_ret
  exact ⟨rfl, hb9⟩
theorem fxAbs_any (x : Int) (b k : Nat) (o : Bool) (w : World) (x0 : -9223372036854775808 ≤ x) (x1 : x ≤ 9223372036854775807) (m : MAt w b k o) :
    Calls Try.prog 29 #[.pointer (some ⟨b, k, none⟩), .int .i64 x] w fun e w' => e = .returned (.int .i64 (absF x)) ∧ FxW w.heap.size w b k (o || absO x) w' := by
  by_cases p : x < 0
  · have K := Lib.hid (show subF 0 x = absF x ∧ subO 0 x = absO x from ⟨by unfold absF; rw [if_pos p], by unfold absO; rw [if_pos p]⟩)
    go_enter Try.func29, Try.ntmps29
    go_wp2_with fail
    refine (fxNeg_any x b k o _ x0 x1 m).mono ?_
    rintro e w9 ⟨rfl, hb9⟩
    go_wp2
    go_ret
    exact ⟨retI K.out.1, by rw [← K.out.2]; exact hb9⟩
  · have K := Lib.hid (show x = absF x ∧ false = absO x from ⟨by unfold absF; rw [if_neg p], by unfold absO; rw [if_neg p]⟩)
    go_enter Try.func29, Try.ntmps29
    go_wp2_with fail
    go_ret
    exact ⟨retI K.out.1, by rw [← K.out.2, Bool.or_false]; exact FxW.refl m⟩
theorem fxDiv_any (x y : Int) (b k : Nat) (o : Bool) (w : World) (x0 : -9223372036854775808 ≤ x) (x1 : x ≤ 9223372036854775807) (y0 : -9223372036854775808 ≤ y) (y1 : y ≤ 9223372036854775807) (m : MAt w b k o) :
    Calls Try.prog 46 #[.pointer (some ⟨b, k, none⟩), .int .i64 x, .int .i64 y] w fun e w' => e = .returned (.int .i64 (divF x y)) ∧ FxW w.heap.size w b k (o || divO x y) w' := by
  have I := Lib.hid (mul_128 x0 x1 (show (-9223372036854775808 : Int) ≤ 4294967296 by omega) (by omega))
  have hmf : ∀ (fn : Fn) (first cap : Array Value) (w : World), (Instr.makeFunc fn first cap).run Try.prog w = .ok (.func fn first cap) w := fun _ _ _ _ => rfl
  have HM := Lib.hid m
  have M0 := m.lt
  clear m
  go_enter Try.func46, Try.ntmps46
  go_wp2_with fail
  refine (Mul_any x 4294967296 _ x0 x1 (by omega) (by omega)).mono ?_
  rintro e w1 ⟨rfl, hb1⟩
  obtain ⟨hc_w1, hf_w1⟩ := bcell hb1
  have z_w1 := hb1.size
  try simp at z_w1
  have y_w1 : w.heap.size ≤ w1.heap.size := by omega
  go_wp2_with fail
  refine (quotient_any (x * 4294967296) y b k o _ I.out y0 y1 (HM.out.below hb1 M0)).mono ?_
  rintro e w9 ⟨rfl, hb9⟩
  go_wp2
  go_ret
  exact ⟨rfl, FxW.behind hb1 hb9 hb1.size⟩
theorem fxOf_any (x : Int) (b k : Nat) (o : Bool) (w : World) (x0 : -9223372036854775808 ≤ x) (x1 : x ≤ 9223372036854775807) (m : MAt w b k o) :
    Calls Try.prog 63 #[.pointer (some ⟨b, k, none⟩), .int .i64 x] w fun e w' => e = .returned (.int .i64 (ofF x)) ∧ FxW w.heap.size w b k (o || ofO x) w' := by
  have I := Lib.hid (mul_128 x0 x1 (show (-9223372036854775808 : Int) ≤ 4294967296 by omega) (by omega))
  have hmf : ∀ (fn : Fn) (first cap : Array Value) (w : World), (Instr.makeFunc fn first cap).run Try.prog w = .ok (.func fn first cap) w := fun _ _ _ _ => rfl
  have HM := Lib.hid m
  have M0 := m.lt
  clear m
  go_enter Try.func63, Try.ntmps63
  go_wp2_with fail
  refine (Mul_any x 4294967296 _ x0 x1 (by omega) (by omega)).mono ?_
  rintro e w1 ⟨rfl, hb1⟩
  obtain ⟨hc_w1, hf_w1⟩ := bcell hb1
  have z_w1 := hb1.size
  try simp at z_w1
  have y_w1 : w.heap.size ≤ w1.heap.size := by omega
  go_wp2_with fail
  refine (narrow_any (x * 4294967296) b k o _ I.out (HM.out.below hb1 M0)).mono ?_
  rintro e w9 ⟨rfl, hb9⟩
  go_wp2
  go_ret
  exact ⟨rfl, FxW.behind hb1 hb9 hb1.size⟩
end Go.Proofs.Ytmdcfnifbkpedaa
