/- Contracts of package fx: Floor, Clamp; of the statements' awake. -/
import Derived.Test.YtbigjdhehaihoaaGe
namespace Go.Proofs.Ytbigjdhehaihoaa
open Go.RowKit

def clampF (a l h : Int) : Int := if a < l then l else if h < a then h else a
theorem clampF_in {a l h : Int} (ha : In64 a) (hl : In64 l) (hh : In64 h) : In64 (clampF a l h) := by
  unfold clampF
  by_cases p : a < l
  · rw [if_pos p]; exact hl
  · rw [if_neg p]
    by_cases q : h < a
    · rw [if_pos q]; exact hh
    · rw [if_neg q]; exact ha
theorem fxFloor_any (x : Int) (w : World) :
    Calls Try.prog 40 #[.int .i64 x] w fun e w' => e = .returned (.int .i64 (x / 4294967296)) ∧ w' = w := by
  go_enter Try.func40, Try.ntmps40
  go_wp2
  go_ret
  exact ⟨rfl, rfl⟩
theorem fxClamp_any (a l h : Int) (w : World) :
    Calls Try.prog 42 #[.int .i64 a, .int .i64 l, .int .i64 h] w fun e w' => e = .returned (.int .i64 (clampF a l h)) ∧ w' = w := by
  by_cases p : a < l
  · have K := Lib.hid (show l = clampF a l h by unfold clampF; rw [if_pos p])
    go_enter Try.func42, Try.ntmps42
    go_wp2
    go_ret
    exact ⟨retI K.out, rfl⟩
  · by_cases q : h < a
    · have K := Lib.hid (show h = clampF a l h by unfold clampF; rw [if_neg p, if_pos q])
      go_enter Try.func42, Try.ntmps42
      go_wp2
      go_ret
      exact ⟨retI K.out, rfl⟩
    · have K := Lib.hid (show a = clampF a l h by unfold clampF; rw [if_neg p, if_neg q])
      go_enter Try.func42, Try.ntmps42
      go_wp2
      go_ret
      exact ⟨retI K.out, rfl⟩
/-- what a call by a receiver leaves, laid open for the walk -/
theorem fx_open {w w1 : World} {b k : Nat} {o p : Bool} (m : MAt w b k o) (h : FxW w.heap.size w b k p w1) :
    Hid (MAt w1 b k p) ∧ w1.cell? ⟨b, k, none⟩ = some (.bool p) ∧ w.heap.size ≤ w1.heap.size := ⟨h.at m m.lt, (h.at m m.lt).c, h.size⟩
theorem ev1 : mulF 2147483648 1 = 0 ∧ mulO 2147483648 1 = false := by decide +kernel
theorem ev2 : mulF 6442450944 1 = 2 ∧ mulO 6442450944 1 = false := by decide +kernel
theorem ev3 : divF 4294967296 12884901888 = 1431655765 ∧ divO 4294967296 12884901888 = false := by decide +kernel
theorem ev4 : mulF 4611686018427387904 4611686018427387904 = 9223372036854775807 ∧ mulO 4611686018427387904 4611686018427387904 = true := by decide +kernel
set_option maxHeartbeats 1000000 in
theorem fxAwake_any (w : World) :
    Calls Try.prog 31 #[] w fun e w' => e = .returned (.bool true) ∧ Below w.heap.size w w' := by
  go_enter Try.func31, Try.ntmps31
  go_wp2_with fail
  have m0 : MAt (w.alloc (.cells #[.bool false] 47)) w.heap.size 0 false := MAt.new w _ _
  have M0 := Lib.hid m0
  clear m0
  refine (fxMul_any 2147483648 1 w.heap.size 0 false _ (by omega) (by omega) (by omega) (by omega) M0.out).mono ?_
  rw [ev1.1, ev1.2]
  rintro e w1 ⟨rfl, h1⟩
  have M1 := Lib.hid (h1.at M0.out M0.out.lt)
  have B1 := Lib.hid (((Below.refl w.heap.size w).alloc (Nat.le_refl _) _).trans (h1.below (C := w.heap.size) (by simp) (Nat.le_refl _)))
  clear h1
  go_wp2_with fail
  refine (fxMul_any 6442450944 1 w.heap.size 0 false _ (by omega) (by omega) (by omega) (by omega) M1.out).mono ?_
  rw [ev2.1, ev2.2]
  rintro e w2 ⟨rfl, h2⟩
  have M2 := Lib.hid (h2.at M1.out M1.out.lt)
  have B2 := Lib.hid (B1.out.trans (h2.below (C := w.heap.size) B1.out.size (Nat.le_refl _)))
  clear h2
  go_wp2_with fail
  refine (fxDiv_any 4294967296 12884901888 w.heap.size 0 false _ (by omega) (by omega) (by omega) (by omega) M2.out).mono ?_
  rw [ev3.1, ev3.2]
  rintro e w3 ⟨rfl, h3⟩
  have M3 := Lib.hid (h3.at M2.out M2.out.lt)
  have B3 := Lib.hid (B2.out.trans (h3.below (C := w.heap.size) B2.out.size (Nat.le_refl _)))
  clear h3
  have c3 : w3.cell? ⟨w.heap.size, 0, none⟩ = some (.bool false) := M3.out.c
  go_wp2_with fail
  refine (fxMul_any 4611686018427387904 4611686018427387904 w.heap.size 0 false _ (by omega) (by omega) (by omega) (by omega) M3.out).mono ?_
  rw [ev4.1, ev4.2]
  rintro e w4 ⟨rfl, h4⟩
  have M4 := Lib.hid (h4.at M3.out M3.out.lt)
  have B4 := Lib.hid (B3.out.trans (h4.below (C := w.heap.size) B3.out.size (Nat.le_refl _)))
  clear h4
  have c4 : w4.cell? ⟨w.heap.size, 0, none⟩ = some (.bool true) := M4.out.c
  go_wp2
  go_ret
  exact ⟨rfl, B4.out⟩
end Go.Proofs.Ytbigjdhehaihoaa
