/- Sines of a turn by a table of a quarter: numbers alone. No program in sight. -/
import Derived.Test.YtldcmiomfahaoaaBn
namespace Go.Proofs.Ytldcmiomfahaoaa
open Go.RowKit
set_option linter.unusedVariables false

def tabL : List Int := [0, 105403774, 210744057, 315957395, 420980412, 525749847, 630202589, 734275721, 837906553, 941032661, 1043591926, 1145522571, 1246763195, 1347252816, 1446930903, 1545737412, 1643612827, 1740498191, 1836335144, 1931065957, 2024633568, 2116981616, 2208054473, 2297797281, 2386155981, 2473077351, 2558509031, 2642399561, 2724698408, 2805355999, 2884323748, 2961554089, 3037000500, 3110617535, 3182360851, 3252187232, 3320054617, 3385922125, 3449750080, 3511500034, 3571134792, 3628618433, 3683916329, 3736995171, 3787822988, 3836369162, 3882604450, 3926501002, 3968032378, 4007173558, 4043900968, 4078192482, 4110027446, 4139386683, 4166252509, 4190608739, 4212440704, 4231735252, 4248480760, 4262667143, 4274285855, 4283329896, 4289793820, 4293673732, 4294967296]
/-- the table's entry, 0 beside it -/
def tabS (k : Int) : Int := if 0 ≤ k then tabL.getD k.toNat 0 else 0
/-- the sine of r parts of the first quarter -/
def arcF (r : Int) : Int := if r / 16777216 < 64 then tabS (r / 16777216) + rq ((tabS (r / 16777216 + 1) - tabS (r / 16777216)) * (r % 16777216)) 16777216 else tabS (r / 16777216)
def quartF (t : Int) : Int := if t / 1073741824 % 2 = 1 then 1073741824 - t % 1073741824 else t % 1073741824
def sinF (t : Int) : Int := if 2 ≤ t / 1073741824 then -arcF (quartF t) else arcF (quartF t)
def cosF (t : Int) : Int := sinF ((t + 1073741824) % 4294967296)

theorem tab_steps : ∀ i : Nat, i < 64 → tabS i ≤ tabS (i + 1) ∧ 0 ≤ tabS i ∧ tabS (i + 1) ≤ 4294967296 := by decide +kernel
theorem tab_step {i : Int} (h0 : 0 ≤ i) (h1 : i < 64) : tabS i ≤ tabS (i + 1) ∧ 0 ≤ tabS i ∧ tabS (i + 1) ≤ 4294967296 := by
  have := tab_steps i.toNat (by omega)
  rwa [show (i.toNat : Int) = i by omega] at this
theorem tab_mono {i : Int} (h0 : 0 ≤ i) : ∀ n : Nat, i + n ≤ 64 → tabS i ≤ tabS (i + n)
  | 0, _ => by rw [show i + ((0 : Nat) : Int) = i by omega]; omega
  | n + 1, h => by
    have h1 := tab_mono h0 n (by omega)
    have h2 := (tab_step (i := i + n) (by omega) (by omega)).1
    rw [show i + ((n + 1 : Nat) : Int) = i + n + 1 by omega]
    omega
theorem tab_le {i j : Int} (h0 : 0 ≤ i) (h : i ≤ j) (h1 : j ≤ 64) : tabS i ≤ tabS j := by
  have := tab_mono h0 (j - i).toNat (by omega)
  rwa [show i + ((j - i).toNat : Int) = j by omega] at this
theorem rq_exact (a : Int) : rq (a * 16777216) 16777216 = a := by
  have := rq_near (a := a * 16777216) (b := 16777216) (by omega)
  omega
theorem rq_nought : rq 0 16777216 = 0 := rq_exact 0
/-- what is added to an entry lies between 0 and the step to the next one -/
theorem rq_step {d f : Int} (hd : 0 ≤ d) (f0 : 0 ≤ f) (f1 : f ≤ 16777216) : 0 ≤ rq (d * f) 16777216 ∧ rq (d * f) 16777216 ≤ d := by
  have h1 := rq_mono (a := 0) (b := d * f) (d := 16777216) (by omega) (Int.mul_nonneg hd f0)
  have h2 := rq_mono (a := d * f) (b := d * 16777216) (d := 16777216) (by omega) (Int.mul_le_mul_of_nonneg_left f1 hd)
  rw [rq_nought] at h1
  rw [rq_exact] at h2
  exact ⟨h1, h2⟩
theorem arc_in {r : Int} (h0 : 0 ≤ r) (h1 : r ≤ 1073741824) : tabS (r / 16777216) ≤ arcF r ∧ arcF r ≤ 4294967296 ∧ 0 ≤ arcF r ∧ (r < 1073741824 → arcF r ≤ tabS (r / 16777216 + 1)) := by
  unfold arcF
  by_cases p : r / 16777216 < 64
  · rw [if_pos p]
    have s := tab_step (i := r / 16777216) (by omega) p
    have u := rq_step (d := tabS (r / 16777216 + 1) - tabS (r / 16777216)) (f := r % 16777216) (by omega) (by omega) (by omega)
    omega
  · have e : r / 16777216 = 64 := by omega
    rw [if_neg p, e, show tabS 64 = 4294967296 from by decide +kernel]
    omega
theorem arc_mono {r s : Int} (h0 : 0 ≤ r) (h : r ≤ s) (h1 : s ≤ 1073741824) : arcF r ≤ arcF s := by
  by_cases e : r / 16777216 = s / 16777216
  · unfold arcF
    rw [e]
    by_cases p : s / 16777216 < 64
    · rw [if_pos p, if_pos p]
      have st := tab_step (i := s / 16777216) (by omega) p
      have := rq_mono (a := (tabS (s / 16777216 + 1) - tabS (s / 16777216)) * (r % 16777216)) (b := (tabS (s / 16777216 + 1) - tabS (s / 16777216)) * (s % 16777216)) (d := 16777216) (by omega) (Int.mul_le_mul_of_nonneg_left (by omega) (by omega))
      omega
    · rw [if_neg p, if_neg p]; omega
  · have a := (arc_in h0 (by omega)).2.2.2 (by omega)
    have b := (arc_in (show 0 ≤ s by omega) h1).1
    have c := tab_le (i := r / 16777216 + 1) (j := s / 16777216) (by omega) (by omega) (by omega)
    omega
theorem quart_in {t : Int} (h0 : 0 ≤ t) : 0 ≤ quartF t ∧ quartF t ≤ 1073741824 := by
  unfold quartF; split <;> omega
theorem arc_zero : arcF 0 = 0 := by decide +kernel
theorem sin_in {t : Int} (h0 : 0 ≤ t) : -4294967296 ≤ sinF t ∧ sinF t ≤ 4294967296 := by
  have q := quart_in h0
  have a := arc_in q.1 q.2
  unfold sinF; split <;> omega
theorem sin_half {t : Int} (h0 : 0 ≤ t) (h1 : t < 4294967296) : sinF ((t + 2147483648) % 4294967296) = -sinF t := by
  have e : quartF ((t + 2147483648) % 4294967296) = quartF t := by
    unfold quartF
    have a : (t + 2147483648) % 4294967296 % 1073741824 = t % 1073741824 := by omega
    have b : (t + 2147483648) % 4294967296 / 1073741824 % 2 = t / 1073741824 % 2 := by omega
    rw [a, b]
  unfold sinF
  rw [e]
  by_cases p : 2 ≤ t / 1073741824
  · rw [if_pos p, if_neg (by omega)]; omega
  · rw [if_neg p, if_pos (by omega)]
/-- a sine by the quarter and its rest -/
theorem sin_of {t u : Int} (h : quartF t = quartF u) (k : (2 ≤ t / 1073741824) ↔ (2 ≤ u / 1073741824)) : sinF t = sinF u := by
  unfold sinF
  rw [h]
  by_cases p : 2 ≤ u / 1073741824
  · rw [if_pos p, if_pos (k.2 p)]
  · rw [if_neg p, if_neg (fun x => p (k.1 x))]
theorem sin_nought {t : Int} (h : quartF t = 0) : sinF t = 0 := by
  unfold sinF
  rw [h, arc_zero]
  split <;> rfl
theorem sin_mirror {t : Int} (h0 : 0 ≤ t) (h1 : t < 4294967296) : sinF ((2147483648 - t) % 4294967296) = sinF t := by
  by_cases z : t % 2147483648 = 0
  · rw [sin_nought (t := t) (by unfold quartF; rw [if_neg (by omega)]; omega), sin_nought]
    unfold quartF; rw [if_neg (by omega)]; omega
  · refine sin_of ?_ (by omega)
    unfold quartF
    by_cases p : t / 1073741824 % 2 = 1
    · rw [if_pos p]
      by_cases q : (2147483648 - t) % 4294967296 / 1073741824 % 2 = 1
      · rw [if_pos q]; omega
      · rw [if_neg q]; omega
    · rw [if_neg p]
      by_cases q : (2147483648 - t) % 4294967296 / 1073741824 % 2 = 1
      · rw [if_pos q]; omega
      · rw [if_neg q]; omega
theorem cos_even {t : Int} (h0 : 0 ≤ t) (h1 : t < 4294967296) : cosF t = cosF ((-t) % 4294967296) := by
  unfold cosF
  rw [← sin_mirror (t := (t + 1073741824) % 4294967296) (by omega) (by omega)]
  congr 1
  omega
theorem sin_first {t : Int} (h0 : 0 ≤ t) (h1 : t ≤ 1073741824) : sinF t = arcF t := by
  unfold sinF
  rw [if_neg (by omega)]
  congr 1
  unfold quartF
  by_cases p : t / 1073741824 % 2 = 1
  · rw [if_pos p]; omega
  · rw [if_neg p]; omega
theorem cos_first {t : Int} (h0 : 0 ≤ t) (h1 : t ≤ 1073741824) : cosF t = arcF (1073741824 - t) := by
  unfold cosF
  by_cases e : t = 1073741824
  · subst e
    rw [show (1073741824 - 1073741824 : Int) = 0 from rfl, arc_zero]
    exact sin_nought (by decide)
  · unfold sinF
    rw [if_neg (by omega)]
    congr 1
    unfold quartF
    rw [if_pos (by omega)]
    omega
theorem sin_rises {a b : Int} (h0 : 0 ≤ a) (h : a ≤ b) (h1 : b ≤ 1073741824) : sinF a ≤ sinF b ∧ cosF b ≤ cosF a := by
  rw [sin_first h0 (by omega), sin_first (by omega) h1, cos_first h0 (by omega), cos_first (by omega) h1]
  exact ⟨arc_mono h0 h h1, arc_mono (by omega) (by omega) (by omega)⟩
/-- sizes of sine and cosine, by the first quarter -/
theorem sin_cos_sq {t : Int} (h0 : 0 ≤ t) (h1 : t < 4294967296) : sinF t * sinF t = arcF (quartF t) * arcF (quartF t) ∧ cosF t * cosF t = arcF (1073741824 - quartF t) * arcF (1073741824 - quartF t) := by
  constructor
  · unfold sinF; split
    · rw [Int.neg_mul_neg]
    · rfl
  · unfold cosF
    have e : quartF ((t + 1073741824) % 4294967296) = 1073741824 - quartF t ∨ (quartF ((t + 1073741824) % 4294967296) = 1073741824 - quartF t) := by
      left
      unfold quartF
      by_cases p : t / 1073741824 % 2 = 1
      · rw [if_pos p]
        rw [if_neg (by omega)]; omega
      · rw [if_neg p]
        rw [if_pos (by omega)]; omega
    have e := e.elim id id
    unfold sinF
    rw [e]
    split
    · rw [Int.neg_mul_neg]
    · rfl
theorem tab_round : ∀ i : Nat, i < 65 → -8589934592 ≤ tabS i * tabS i + tabS (64 - i) * tabS (64 - i) - 18446744073709551616 ∧ tabS i * tabS i + tabS (64 - i) * tabS (64 - i) - 18446744073709551616 ≤ 8589934592 := by decide +kernel
theorem tab_bend : ∀ i : Nat, i < 64 → (-11200000000000000 ≤ 2 * (tabS i * (tabS (i + 1) - tabS i) - tabS (64 - i) * (tabS (64 - i) - tabS (63 - i))) ∧ 2 * (tabS i * (tabS (i + 1) - tabS i) - tabS (64 - i) * (tabS (64 - i) - tabS (63 - i))) ≤ 11200000000000000) ∧ (tabS (i + 1) - tabS i) * (tabS (i + 1) - tabS i) + (tabS (64 - i) - tabS (63 - i)) * (tabS (64 - i) - tabS (63 - i)) ≤ 11200000000000000 := by decide +kernel
end Go.Proofs.Ytldcmiomfahaoaa
