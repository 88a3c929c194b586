/- Small whole numbers as floating-point and complex numbers. -/
import Derived.WalkLawsBesides
import Derived.Test.YtinahmhiopgcnaaProg
namespace Go.Proofs.Ytinahmhiopgcnaa
open Go.RowKit
set_option linter.unusedVariables false
set_option linter.unusedSimpArgs false

/-- a whole number's bits -/
def fz (z : Int) : Nat := floatOfInt .f64 z
theorem fz_ord : ∀ a < 66, ∀ b < 66, FloatKind.f64.format.order (fz (a : Nat)) (fz (b : Nat)) = some (compare a b) := by decide +kernel
theorem fz_sub : ∀ a < 65, ∀ b < 65, floatBits .sub .f64 (fz (a : Nat)) (fz (b : Nat)) = some (fz ((a : Int) - (b : Nat))) := by decide +kernel
theorem fz_up : ∀ a < 65, floatBits .add .f64 (fz (a : Nat)) 4607182418800017408 = some (fz ((a + 1 : Nat))) ∧ floatBits .add .f64 (fz (a : Nat)) 0 = some (fz (a : Nat)) := by decide +kernel
theorem fz_int : ∀ a < 65, floatToIntVal .f64 (fz (a : Nat)) .i64 = some ((a : Nat) : Int) ∧ floatToIntVal .f64 (fz (-(a : Int))) .i64 = some (-(a : Int)) := by decide +kernel
theorem fz_leq {a b : Nat} (ha : a < 66) (hb : b < 66) : (FloatKind.f64.format.order (fz a) (fz b) == some .lt || FloatKind.f64.format.order (fz a) (fz b) == some .eq) = decide (a ≤ b) := by
  rw [fz_ord a ha b hb]
  rcases Nat.lt_trichotomy a b with h | h | h
  · rw [Nat.compare_eq_lt.2 h, decide_eq_true (by omega)]; rfl
  · rw [Nat.compare_eq_eq.2 h, decide_eq_true (by omega)]; rfl
  · rw [Nat.compare_eq_gt.2 h, decide_eq_false (by omega)]; rfl
theorem fz_eq {a b : Nat} (ha : a < 66) (hb : b < 66) : (FloatKind.f64.format.order (fz a) (fz b) == some .eq) = decide (a = b) := by
  rw [fz_ord a ha b hb]
  rcases Nat.lt_trichotomy a b with h | h | h
  · rw [Nat.compare_eq_lt.2 h, decide_eq_false (by omega)]; rfl
  · rw [Nat.compare_eq_eq.2 h, decide_eq_true (by omega)]; rfl
  · rw [Nat.compare_eq_gt.2 h, decide_eq_false (by omega)]; rfl
section
variable {P : Program} (w : World)
theorem fz_min {a b : Nat} (ha : a < 66) (hb : b < 66) (ts : Array TypeId) (t : TypeId) : (Builtin.min_ ts t #[.float .f64 (fz a), .float .f64 (fz b)]).run P w = .ok (.float .f64 (fz ((min a b : Nat)))) w := by
  have h := fz_ord a ha b hb
  rcases Nat.lt_trichotomy a b with g | g | g
  · rw [Nat.compare_eq_lt.2 g] at h
    rw [Nat.min_eq_left (by omega)]
    simp [Builtin.min_, Builtin.min2, h]
  · rw [Nat.compare_eq_eq.2 g] at h
    rw [Nat.min_eq_left (by omega)]
    subst g
    simp [Builtin.min_, Builtin.min2, h]
  · rw [Nat.compare_eq_gt.2 g] at h
    rw [Nat.min_eq_right (by omega)]
    simp [Builtin.min_, Builtin.min2, h]
theorem fz_max {a b : Nat} (ha : a < 66) (hb : b < 66) (ts : Array TypeId) (t : TypeId) : (Builtin.max_ ts t #[.float .f64 (fz a), .float .f64 (fz b)]).run P w = .ok (.float .f64 (fz ((max a b : Nat)))) w := by
  have h := fz_ord a ha b hb
  rcases Nat.lt_trichotomy a b with g | g | g
  · rw [Nat.compare_eq_lt.2 g] at h
    rw [Nat.max_eq_right (by omega)]
    simp [Builtin.max_, Builtin.max2, h]
  · rw [Nat.compare_eq_eq.2 g] at h
    rw [Nat.max_eq_left (by omega)]
    subst g
    simp [Builtin.max_, Builtin.max2, h]
  · rw [Nat.compare_eq_gt.2 g] at h
    rw [Nat.max_eq_left (by omega)]
    simp [Builtin.max_, Builtin.max2, h]
theorem fz_csub {a b c d : Nat} (ha : a < 65) (hb : b < 65) (hc : c < 65) (hd : d < 65) (t : TypeId) : (binOp .sub t (.complex .f64 (fz a) (fz b)) (.complex .f64 (fz c) (fz d))).run P w = .ok (.complex .f64 (fz ((a : Int) - (c : Nat))) (fz ((b : Int) - (d : Nat)))) w :=
  run_complex_sum w .sub (Or.inr rfl) t .f64 _ _ _ _ _ _ (by unfold cSumBits; rw [fz_sub a ha c hc, fz_sub b hb d hd]; rfl)
theorem fz_right {a b : Nat} (ha : a < 65) (hb : b < 65) (t : TypeId) : (binOp .add t (.complex .f64 (fz a) (fz b)) (.complex .f64 4607182418800017408 0)).run P w = .ok (.complex .f64 (fz ((a + 1 : Nat))) (fz b)) w :=
  run_complex_sum w .add (Or.inl rfl) t .f64 _ _ _ _ _ _ (by unfold cSumBits; rw [(fz_up a ha).1, (fz_up b hb).2]; rfl)
theorem fz_down {a b : Nat} (ha : a < 65) (hb : b < 65) (t : TypeId) : (binOp .add t (.complex .f64 (fz a) (fz b)) (.complex .f64 0 4607182418800017408)).run P w = .ok (.complex .f64 (fz a) (fz ((b + 1 : Nat)))) w :=
  run_complex_sum w .add (Or.inl rfl) t .f64 _ _ _ _ _ _ (by unfold cSumBits; rw [(fz_up a ha).2, (fz_up b hb).1]; rfl)
theorem fz_conv {a : Nat} (ha : a < 65) (src dst : TypeId) (hs : (P.underlying src).isSome = true) (hd : P.underlying dst = some (.int .i64)) : (convert src dst (.float .f64 (fz a))).run P w = .ok (.int .i64 (a : Nat)) w :=
  run_convert_float_int w src dst .f64 .i64 _ _ hs hd (fz_int a ha).1
theorem fz_cdif {a b : Nat} (ha : a < 65) (hb : b < 65) (src dst : TypeId) (hs : (P.underlying src).isSome = true) (hd : P.underlying dst = some (.int .i64)) : (convert src dst (.float .f64 (fz ((a : Int) - (b : Nat))))).run P w = .ok (.int .i64 ((a : Int) - (b : Nat))) w := by
  refine run_convert_float_int w src dst .f64 .i64 _ _ hs hd ?_
  rcases Nat.le_total b a with h | h
  · have := (fz_int (a - b) (by omega)).1
    rw [show ((a - b : Nat) : Int) = (a : Int) - (b : Nat) by omega] at this
    exact this
  · have := (fz_int (b - a) (by omega)).2
    rw [show -((b - a : Nat) : Int) = (a : Int) - (b : Nat) by omega] at this
    exact this
end
end Go.Proofs.Ytinahmhiopgcnaa
