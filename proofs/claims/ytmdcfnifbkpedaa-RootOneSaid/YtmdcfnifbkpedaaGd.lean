/- Contracts of package fx: Add, Sub, Neg, Abs. -/
import Derived.Test.YtmdcfnifbkpedaaGc
import Derived.Deep.RegionWith
namespace Go.Proofs.Ytmdcfnifbkpedaa
open Go.RowKit

theorem add_128 {a b : Int} (a0 : -9223372036854775808 ≤ a) (a1 : a ≤ 9223372036854775807) (b0 : -9223372036854775808 ≤ b) (b1 : b ≤ 9223372036854775807) : In128 (a + b) ∧ In128 (a - b) ∧ In128 a ∧ In128 b ∧ In128 (-b) := by
  unfold In128; omega
theorem mul_128 {a b : Int} (a0 : -9223372036854775808 ≤ a) (a1 : a ≤ 9223372036854775807) (b0 : -9223372036854775808 ≤ b) (b1 : b ≤ 9223372036854775807) : In128 (a * b) := by
  have := mul_bound a0 (by omega) b0 (by omega)
  unfold In128; omega
set_option maxHeartbeats 2000000 in
theorem fxSub_any (x y : Int) (b k : Nat) (o : Bool) (w : World) (x0 : -9223372036854775808 ≤ x) (x1 : x ≤ 9223372036854775807) (y0 : -9223372036854775808 ≤ y) (y1 : y ≤ 9223372036854775807) (m : MAt w b k o) :
    Calls Try.prog 70 #[.pointer (some ⟨b, k, none⟩), .int .i64 x, .int .i64 y] w fun e w' => e = .returned (.int .i64 (subF x y)) ∧ FxW w.heap.size w b k (o || subO x y) w' := by
  have I := Lib.hid (add_128 x0 x1 y0 y1)
  have I2 := Lib.hid (show x + -y = x - y by omega)
  have hmf : ∀ (fn : Fn) (first cap : Array Value) (w : World), (Instr.makeFunc fn first cap).run Try.prog w = .ok (.func fn first cap) w := fun _ _ _ _ => rfl
  have HM := Lib.hid m
  have M0 := m.lt
  clear m
  go_enter Try.func70, Try.ntmps70
  go_wp2_with fail
  refine (Of_any y _ y0 y1).mono ?_
  rintro e w1 ⟨rfl, hb1⟩
  obtain ⟨hc_w1, hf_w1⟩ := bcell hb1
  have z_w1 := hb1.size
  try simp at z_w1
  have y_w1 : w.heap.size ≤ w1.heap.size := by omega
  go_wp2_with fail
  refine (Neg_yes y (-y) _ I.out.2.2.2.1 rfl I.out.2.2.2.2).mono ?_
  rintro e w2 ⟨rfl, hb2⟩
  obtain ⟨hc_w2, hf_w2⟩ := bcell hb2
  have z_w2 := hb2.size
  try simp at z_w2
  have y_w2 : w.heap.size ≤ w2.heap.size := by omega
  have B2 : Below w.heap.size w w2 := by repeat (first | exact Below.refl _ _ | assumption | refine Below.setCell ?_ (by first | omega | (simp; done) | (simp; omega)) _ | refine Below.alloc ?_ (by first | omega | (simp; done) | (simp; omega)) _ | refine below_drewN ?_ _ | refine Below.drew ?_ | refine Below.trans ?_ (Below.mono (by assumption) (by first | omega | (simp; done) | (simp; omega))))
  have HB2 := Lib.hid B2
  have y2 : w.heap.size ≤ w2.heap.size := B2.size
  clear B2 hb1 hb2 hc_w1 hf_w1 hc_w2 hf_w2
  go_wp2_with fail
  have C : CellW (w2.alloc (.cells #[.int .i64 (hiW (-y)), .int .u64 (loW (-y))] 24)) w2.heap.size (hiW (-y)) (loW (-y)) := CellW.new w2 _ _ _
  have c0 := C.c0
  have c1 := C.c1
  have HC := Lib.hid C
  clear C
  go_region_with (first | (go_at_call 31; refine (Of_any x _ x0 x1).mono ?_; rintro e w5 ⟨rfl, hb5⟩; have z5 : w2.heap.size < w5.heap.size := (by have := hb5.size; (try simp at this); omega); (try (have z5b : w2.heap.size + 1 < w5.heap.size := (by have := hb5.size; (try simp at this); omega))); obtain ⟨hc_w5, hf_w5⟩ := bcell hb5) | (go_at_call 74; refine (Add_yes x (-y) (x - y) _ I.out.2.2.1 I.out.2.2.2.2 I2.out I.out.2.1).mono ?_; rintro e w6 ⟨rfl, hb6⟩; have z6 : w2.heap.size < w6.heap.size := (by have := hb6.size; (try simp at this); omega); (try (have z6b : w2.heap.size + 1 < w6.heap.size := (by have := hb6.size; (try simp at this); omega))); (try (have z6c : w5.heap.size < w6.heap.size := (by have := hb6.size; (try simp at this); omega))); obtain ⟨hc_w6, hf_w6⟩ := bcell hb6))
  all_goals
    have B2 := HB2.out
    go_wp2_with fail
    refine (narrow_any _ b k o _ I.out.2.1 (HM.out.below (B := w.heap.size) (by repeat (first | exact Below.refl _ _ | assumption | refine Below.setCell ?_ (by first | omega | (simp; done) | (simp; omega)) _ | refine Below.alloc ?_ (by first | omega | (simp; done) | (simp; omega)) _ | refine below_drewN ?_ _ | refine Below.drew ?_ | refine Below.trans ?_ (Below.mono (by assumption) (by first | omega | (simp; done) | (simp; omega))))) M0)).mono ?_
    rintro e w9 ⟨rfl, hb9⟩
    go_wp2
    go_ret
    exact ⟨rfl, FxW.behind (by repeat (first | exact Below.refl _ _ | assumption | refine Below.setCell ?_ (by first | omega | (simp; done) | (simp; omega)) _ | refine Below.alloc ?_ (by first | omega | (simp; done) | (simp; omega)) _ | refine below_drewN ?_ _ | refine Below.drew ?_ | refine Below.trans ?_ (Below.mono (by assumption) (by first | omega | (simp; done) | (simp; omega))))) hb9 (by simp [World.setCell]; omega)⟩
end Go.Proofs.Ytmdcfnifbkpedaa
