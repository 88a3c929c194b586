/- The series of the table; the direction of two numbers: numbers alone. No program in sight. -/
import Derived.Test.YtldcmiomfahaoaaIb
namespace Go.Proofs.Ytldcmiomfahaoaa
open Go.RowKit
set_option linter.unusedVariables false

/-- the document's series: sum and term behind j terms -/
def tstep (x n : Int) (p : Int × Int) : Int × Int := (if n % 4 = 1 then p.1 + p.2 else p.1 - p.2, (divI (divI (p.2 * x) 1000000000000000000 * x) 1000000000000000000).tdiv ((n + 1) * (n + 2)))
def tser (x : Int) : Nat → Int × Int
  | 0 => (0, x)
  | j + 1 => tstep x (2 * j + 1) (tser x j)
def tarc (k : Int) : Int := divI (3141592653589793238 * k) 128
theorem ser_bounds : ∀ k : Nat, k < 65 → ∀ j : Nat, j < 13 → (-4611686018427387904 ≤ (tser (tarc k) j).1 ∧ (tser (tarc k) j).1 ≤ 4611686018427387904) ∧ (-4611686018427387904 ≤ (tser (tarc k) j).2 ∧ (tser (tarc k) j).2 ≤ 4611686018427387904) := by decide +kernel
theorem ser_tab : ∀ k : Nat, k < 65 → divI ((tser (tarc k) 12).1 * 4294967296) 1000000000000000000 = tabS k ∧ 0 ≤ tarc k ∧ tarc k ≤ 1600000000000000000 := by decide +kernel
theorem tab_out {k : Int} (h : k < 0 ∨ 64 < k) : tabS k = 0 := by
  unfold tabS
  by_cases p : 0 ≤ k
  · rw [if_pos p, List.getD_eq_getElem?_getD, List.getElem?_eq_none (by show (65 : Nat) ≤ k.toNat; omega)]; rfl
  · rw [if_neg p]
theorem divI_in (a b : Int) : In64 (divI a b) := by
  unfold divI
  by_cases hb : b = 0
  · rw [if_pos hb]; unfold In64; omega
  · rw [if_neg hb]
    unfold sgnI In64
    have := rndN_nn (n := (a.natAbs : Int)) (d := (b.natAbs : Int)) (by omega) (by omega)
    split <;> split <;> omega
/-- the step between two entries, a part of it: what a quotient of wide numbers tells -/
theorem arc_div {i f : Int} (i0 : 0 ≤ i) (i1 : i < 64) (f0 : 0 ≤ f) (f1 : f ≤ 16777216) : divI ((tabS (i + 1) - tabS i) * f) 16777216 = rq ((tabS (i + 1) - tabS i) * f) 16777216 := by
  have s := tab_step i0 i1
  have u := rq_step (d := tabS (i + 1) - tabS i) (f := f) (by omega) f0 f1
  have k := div_fit (a := (tabS (i + 1) - tabS i) * f) (b := 16777216) (by omega)
  exact k.2 (k.1.2 ⟨by omega, by omega⟩)

open Classical in
noncomputable def firstF (x y : Int) : Int := if h : ∃ t, IsFirst x y t then Classical.choose h else 0
theorem firstF_eq {x y t : Int} (x0 : 0 ≤ x) (y0 : 0 ≤ y) (k : IsFirst x y t) : firstF x y = t := by
  unfold firstF
  rw [dif_pos ⟨t, k⟩]
  exact (Classical.choose_spec (⟨t, k⟩ : ∃ t, IsFirst x y t)).uniq x0 y0 k
/-- the least number is taken as the one above it -/
def aboveF (x : Int) : Int := if x = -9223372036854775808 then -9223372036854775807 else x
/-- the direction of two numbers that have an opposite -/
noncomputable def dirF (x y : Int) : Int :=
  if x = 0 ∧ y = 0 then 0 else if 0 ≤ x ∧ 0 ≤ y then firstF x y else if x < 0 ∧ 0 ≤ y then 1073741824 + firstF y (-x) else if x ≤ 0 ∧ y < 0 then 2147483648 + firstF (-x) (-y) else 3221225472 + firstF (-y) x
noncomputable def towF (x y : Int) : Int := dirF (aboveF x) (aboveF y) % 4294967296
theorem isFirst_ex {x y : Int} (x0 : 0 ≤ x) (y0 : 0 ≤ y) : ∃ t, IsFirst x y t := by
  by_cases h : holdsF x y 1073741824
  · exact ⟨_, first_top h⟩
  · have go : ∀ (n : Nat) (t : Int), OpenT x y t n → ∃ s, IsFirst x y s := by
      intro n
      induction n with
      | zero => intro t k; exact ⟨t, k.first⟩
      | succ n ih =>
        intro t k
        by_cases g : holdsF x y (t + 2 ^ n)
        · exact ih _ (k.up g)
        · exact ih _ (k.down g)
    exact go 30 0 (open_start y0 h)
theorem firstF_in {x y : Int} (x0 : 0 ≤ x) (y0 : 0 ≤ y) : 0 ≤ firstF x y ∧ firstF x y ≤ 1073741824 := by
  obtain ⟨t, k⟩ := isFirst_ex x0 y0
  rw [firstF_eq x0 y0 k]
  exact ⟨k.t0, k.t1⟩
theorem dir_pp {x y : Int} (h : ¬ (x = 0 ∧ y = 0)) (p : 0 ≤ x) (q : 0 ≤ y) : dirF x y = firstF x y := by
  unfold dirF; rw [if_neg h, if_pos ⟨p, q⟩]
theorem dir_np {x y : Int} (p : x < 0) (q : 0 ≤ y) : dirF x y = 1073741824 + firstF y (-x) := by
  unfold dirF; rw [if_neg (by omega), if_neg (by omega), if_pos ⟨p, q⟩]
theorem dir_nn {x y : Int} (p : x ≤ 0) (q : y < 0) : dirF x y = 2147483648 + firstF (-x) (-y) := by
  unfold dirF; rw [if_neg (by omega), if_neg (by omega), if_neg (by omega), if_pos ⟨p, q⟩]
theorem dir_pn {x y : Int} (p : 0 < x) (q : y < 0) : dirF x y = 3221225472 + firstF (-y) x := by
  unfold dirF; rw [if_neg (by omega), if_neg (by omega), if_neg (by omega), if_neg (by omega)]
theorem tow_back {x y : Int} (hx : x ≠ 0) (hy : y ≠ 0) (x0 : -9223372036854775807 ≤ x) (x1 : x ≤ 9223372036854775807) (y0 : -9223372036854775807 ≤ y) (y1 : y ≤ 9223372036854775807) : towF (-x) (-y) = (towF x y + 2147483648) % 4294967296 := by
  have e : ∀ n : Int, n ≠ -9223372036854775808 → aboveF n = n := fun n h => by unfold aboveF; rw [if_neg h]
  unfold towF
  rw [e x (by omega), e y (by omega), e (-x) (by omega), e (-y) (by omega)]
  by_cases p : 0 < x
  · by_cases q : 0 < y
    · rw [dir_nn (x := -x) (y := -y) (by omega) (by omega), dir_pp (x := x) (y := y) (by omega) (by omega) (by omega), Int.neg_neg, Int.neg_neg]; omega
    · rw [dir_np (x := -x) (y := -y) (by omega) (by omega), dir_pn (x := x) (y := y) (by omega) (by omega), Int.neg_neg]; omega
  · by_cases q : 0 < y
    · rw [dir_pn (x := -x) (y := -y) (by omega) (by omega), dir_np (x := x) (y := y) (by omega) (by omega), Int.neg_neg]; omega
    · rw [dir_pp (x := -x) (y := -y) (by omega) (by omega) (by omega), dir_nn (x := x) (y := y) (by omega) (by omega)]; omega
theorem tow_one : towF 4294967296 4294967296 = 536870912 := by
  have k : IsFirst 4294967296 4294967296 536870912 :=
    ⟨by omega, by omega, by unfold holdsF; decide +kernel, fun _ => by unfold holdsF; decide +kernel⟩
  unfold towF
  rw [show aboveF 4294967296 = 4294967296 from by decide]
  unfold dirF
  rw [if_neg (by omega), if_pos (by omega), firstF_eq (by omega) (by omega) k]
  rfl
theorem sin_eighth : sinF 536870912 = 3037000500 ∧ cosF 0 = 4294967296 := by decide +kernel
end Go.Proofs.Ytldcmiomfahaoaa
