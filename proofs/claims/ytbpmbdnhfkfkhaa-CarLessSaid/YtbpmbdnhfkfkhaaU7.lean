/- The statements on cars: few, awake; what the document asks of ratios and of less gears, by numbers. -/
import Derived.Test.YtbpmbdnhfkfkhaaWk
import Derived.Test.YtbpmbdnhfkfkhaaPh
import Derived.Test.YtbpmbdnhfkfkhaaBn
namespace Go.Proofs.Ytbpmbdnhfkfkhaa
open Go.RowKit
set_option linter.unusedVariables false
set_option linter.unusedSimpArgs false

set_option maxHeartbeats 4000000 in
theorem lFew_any (c : Cr) (B : Nat) (w : World) (hB : B ≤ w.heap.size) (M : CrM B w c) :
    Calls Try.prog 6 #[.agg (carL c).toArray] w fun e w' => e = .returned (.bool (decide (fewC c))) ∧ Below w.heap.size w w' := by
  obtain ⟨f, hf⟩ : ∃ f, decide (fewC c) = f := ⟨_, rfl⟩
  rw [hf]
  have FN := Lib.hid (fun (h : ¬ fewC c) => (show false = f by rw [← hf]; exact (decide_eq_false h).symm))
  have FY := Lib.hid (fun (a : c.d.n ≤ 40) (b : c.q.n ≤ 40) (d : c.r.n ≤ 40) (g : c.g.n ≤ 20) => (show decide (fewP c.t) = f by rw [← hf, decide_eq_decide]; exact ⟨fun h => ⟨a, b, d, g, h⟩, fun h => h.2.2.2.2⟩))
  clear hf
  have Q0 := Lib.hid (CA.new 37 M hB)
  have XF := Lib.hid (fun (W : World) (Q : CA w W B w.heap.size c) => few_any c.t B W Q.bz Q.M.t)
  obtain ⟨k46, k47, k48, k49, k50, k51⟩ := Q0.out.k.slS
  have k60 := Q0.out.k.c 60 _ rfl
  clear M
  by_cases s1 : c.d.n ≤ 40
  rotate_left
  · have E := Lib.hid (FN.out (fun k => s1 k.1))
    have z1 : ¬ (c.d.n : Int) ≤ 40 := by omega
    clear FN FY XF
    go_enter Try.func6, Try.ntmps6
    go_wp2
    go_ret
    exact ⟨retB E.out, Q0.out.l⟩
  have z1 : (c.d.n : Int) ≤ 40 := by omega
  by_cases s2 : c.q.n ≤ 40
  rotate_left
  · have E := Lib.hid (FN.out (fun k => s2 k.2.1))
    have z2 : ¬ (c.q.n : Int) ≤ 40 := by omega
    clear FN FY XF
    go_enter Try.func6, Try.ntmps6
    go_wp2
    go_ret
    exact ⟨retB E.out, Q0.out.l⟩
  have z2 : (c.q.n : Int) ≤ 40 := by omega
  by_cases s3 : c.r.n ≤ 40
  rotate_left
  · have E := Lib.hid (FN.out (fun k => s3 k.2.2.1))
    have z3 : ¬ (c.r.n : Int) ≤ 40 := by omega
    clear FN FY XF
    go_enter Try.func6, Try.ntmps6
    go_wp2
    go_ret
    exact ⟨retB E.out, Q0.out.l⟩
  have z3 : (c.r.n : Int) ≤ 40 := by omega
  by_cases s4 : c.g.n ≤ 20
  rotate_left
  · have E := Lib.hid (FN.out (fun k => s4 k.2.2.2.1))
    have z4 : ¬ (c.g.n : Int) ≤ 20 := by omega
    clear FN FY XF
    go_enter Try.func6, Try.ntmps6
    go_wp2
    go_ret
    exact ⟨retB E.out, Q0.out.l⟩
  have z4 : (c.g.n : Int) ≤ 20 := by omega
  have E := Lib.hid (FY.out s1 s2 s3 s4)
  clear FN FY
  go_enter Try.func6, Try.ntmps6
  go_wp2_with fail
  refine calls_gen (S := fun W => CA w W B w.heap.size c) Q0.out (fun W1 hS => ?_)
  have Q1 := Lib.hid hS
  clear hS Q0 k46 k47 k48 k49 k50 k51 k60
  refine (XF.out _ Q1.out).mono ?_
  rintro e w2 ⟨rfl, h⟩
  have Q2 := Lib.hid (Q1.out.step h)
  clear h Q1 XF
  go_wp2
  go_ret
  exact ⟨retB E.out, Q2.out.l⟩
theorem smp_w (n : Nat → Nat) : CrW (smpC n) := by
  refine ⟨fun k => ?_, by show (0 : Int) ≤ 268435456; omega, by show (0 : Int) ≤ 1073741824; omega, fun i hi => ?_⟩
  · have key : ∀ (l : List Int), (∀ x ∈ l, In64 x) → In64 (l.getD k 0) := fun l h => by
      rw [List.getD_eq_getElem?_getD]
      cases e : l[k]? with
      | none => exact ⟨by show (-9223372036854775808 : Int) ≤ 0; omega, by show (0 : Int) ≤ 9223372036854775807; omega⟩
      | some x => exact h x (List.mem_of_getElem? e)
    exact key _ (by unfold In64; decide +kernel)
  · have : i = 0 ∨ i = 1 ∨ i = 2 := by have : i < 3 := hi; omega
    rcases this with rfl | rfl | rfl
    · exact ⟨by show (-9223372036854775808 : Int) ≤ 12884901888; omega, by show (12884901888 : Int) ≤ 9223372036854775807; omega⟩
    · exact ⟨by show (-9223372036854775808 : Int) ≤ 8589934592; omega, by show (8589934592 : Int) ≤ 9223372036854775807; omega⟩
    · exact ⟨by show (-9223372036854775808 : Int) ≤ 4294967296; omega, by show (4294967296 : Int) ≤ 9223372036854775807; omega⟩
theorem smc_few (n : Nat → Nat) : fewC (smpC n) := by
  refine ⟨by show 3 ≤ 40; omega, by show 3 ≤ 40; omega, by show 2 ≤ 40; omega, by show 3 ≤ 20; omega, by show 3 ≤ 40; omega, by show 2 ≤ 40; omega, by show 2 ≤ 40; omega, fun i hi => ?_⟩
  have : i = 0 ∨ i = 1 := by have : i < 2 := hi; omega
  rcases this with rfl | rfl
  · show 3 ≤ 40; omega
  · show 3 ≤ 40; omega
theorem smp_free (n : Nat → Nat) : rgtC (smpC n) = rgtC (smpC (fun _ => 0)) ∧ ratioF (smpC n) 2 = ratioF (smpC (fun _ => 0)) 2 ∧ ratioF (smpC n) (-1) = ratioF (smpC (fun _ => 0)) (-1) := ⟨rfl, rfl, rfl⟩
theorem smp_right (n : Nat → Nat) : rgtC (smpC n) = (0, 0) := (smp_free n).1.trans (by decide +kernel)
theorem smp_two (n : Nat → Nat) : ratioF (smpC n) 2 = 34359738368 := (smp_free n).2.1.trans (by decide +kernel)
theorem smp_back (n : Nat → Nat) : ratioF (smpC n) (-1) = -51539607552 := (smp_free n).2.2.trans (by decide +kernel)
/-- a car of nothing -/
def nilC : Cr := ⟨fun _ => 0, fun _ => false, ⟨none, 0, 0, fun _ => 0, fun _ => 0⟩, nilP, ⟨none, 0, 0, fun _ => 0, fun _ => 0⟩, ⟨none, 0, 0, fun _ => 0, fun _ => 0⟩, ⟨none, 0, 0, fun _ => 0⟩⟩
theorem nilC_m (B : Nat) (W : World) : CrM B W nilC := by
  have d : DzM B W ⟨none, 0, 0, fun _ => 0, fun _ => 0⟩ := ⟨by show 0 ≤ maxLen; unfold maxLen; decide, Nat.le_refl _, fun i hi => absurd hi (by show ¬ i < 0; omega), fun h => absurd h (by show ¬ 0 < 0; omega)⟩
  exact ⟨d, (nilP_is B W).1, d, d, ⟨by show 0 ≤ maxLen; unfold maxLen; decide, Nat.le_refl _, fun i hi => absurd hi (by show ¬ i < 0; omega), fun h => absurd h (by show ¬ 0 < 0; omega)⟩⟩
theorem nilC_w : CrW nilC := ⟨fun k => ⟨by show (-9223372036854775808 : Int) ≤ 0; omega, by show (0 : Int) ≤ 9223372036854775807; omega⟩, Int.le_refl _, Int.le_refl _, fun i hi => absurd hi (by show ¬ i < 0; omega)⟩
theorem nilC_few : fewC nilC := ⟨by show 0 ≤ 40; omega, by show 0 ≤ 40; omega, by show 0 ≤ 40; omega, by show 0 ≤ 20; omega, (nilP_is 0 default).2.1⟩
theorem nilC_right : rgtC nilC = (40, 0) := by decide +kernel
set_option maxRecDepth 100000 in
set_option maxHeartbeats 8000000 in
theorem carAwake_any (w : World) : Calls Try.prog 9 #[] w fun e w' => e = .returned (.bool true) ∧ Below w.heap.size w w' := by
  have L0 := Lib.hid (Below.refl w.heap.size w)
  have X1 := Lib.hid (fun (n : Nat → Nat) (W : World) (P : CrM W.heap.size W (smpC n)) => by
    have h := cRight_any (smpC n) W.heap.size W (Nat.le_refl _) (smc_few n) (smp_w n) P
    rw [smp_right n] at h
    exact h)
  have X2 := Lib.hid (fun (W : World) => by
    have h := cRight_any nilC W.heap.size W (Nat.le_refl _) nilC_few nilC_w (nilC_m _ _)
    rw [nilC_right] at h
    exact h)
  have X3 := Lib.hid (fun (n : Nat → Nat) (W : World) (P : CrM W.heap.size W (smpC n)) => by
    have h := cRatio_any (smpC n) 2 W.heap.size W (Nat.le_refl _) (smp_w n) ⟨by decide, by decide⟩ P.g (smc_few n).2.2.2.1
    rw [smp_two n] at h
    exact h)
  have X4 := Lib.hid (fun (n : Nat → Nat) (W : World) (P : CrM W.heap.size W (smpC n)) => by
    have h := cRatio_any (smpC n) (-1) W.heap.size W (Nat.le_refl _) (smp_w n) ⟨by decide, by decide⟩ P.g (smc_few n).2.2.2.1
    rw [smp_back n] at h
    exact h)
  go_enter Try.func9, Try.ntmps9
  go_wp2_with fail
  refine (lSample_any _).mono ?_
  rintro e w1 ⟨n1, rfl, P, h⟩
  have P1 := Lib.hid P
  have L1 := Lib.hid (L0.out.trans (h.mono L0.out.size))
  clear h P L0
  go_wp2_with fail
  refine (X1.out n1 _ P1.out).mono ?_
  rintro e w2 ⟨rfl, h⟩
  have L2 := Lib.hid (L1.out.trans (h.mono L1.out.size))
  clear h L1
  go_wp2_with fail
  refine (X2.out _).mono ?_
  rintro e w3 ⟨rfl, h⟩
  have L3 := Lib.hid (L2.out.trans (h.mono L2.out.size))
  clear h L2
  go_wp2_with fail
  refine (lSample_any _).mono ?_
  rintro e w4 ⟨n4, rfl, P, h⟩
  have P4 := Lib.hid P
  have L4 := Lib.hid (L3.out.trans (h.mono L3.out.size))
  clear h P L3
  go_wp2_with fail
  refine (X3.out n4 _ P4.out).mono ?_
  rintro e w5 ⟨rfl, h⟩
  have L5 := Lib.hid (L4.out.trans (h.mono L4.out.size))
  clear h L4
  go_wp2_with fail
  refine (lwhole_any 8 34359738368 (by decide +kernel) _).mono ?_
  rintro e w6 ⟨rfl, rfl⟩
  have L6 := L5
  clear L5
  go_wp2_with fail
  refine (lSample_any _).mono ?_
  rintro e w7 ⟨n7, rfl, P, h⟩
  have P7 := Lib.hid P
  have L7 := Lib.hid (L6.out.trans (h.mono L6.out.size))
  clear h P L6
  go_wp2_with fail
  refine (X4.out n7 _ P7.out).mono ?_
  rintro e w8 ⟨rfl, h⟩
  have L8 := Lib.hid (L7.out.trans (h.mono L7.out.size))
  clear h L7
  go_wp2_with fail
  refine (lwhole_any (-12) (-51539607552) (by decide +kernel) _).mono ?_
  rintro e w9 ⟨rfl, rfl⟩
  go_wp2
  go_ret
  exact ⟨rfl, L8.out⟩
end Go.Proofs.Ytbpmbdnhfkfkhaa
namespace Go.Proofs.Ytbpmbdnhfkfkhaa
open Go.RowKit
set_option linter.unusedVariables false
set_option linter.unusedSimpArgs false

theorem fst_all : ∀ {l : List Int} {j : Nat}, (fstC l j).1 = 0 → ∀ x ∈ l, x = 0
  | [], _, _ => fun x h => absurd h (by simp)
  | y :: l, j, h => fun x hx => by
    unfold fstC at h
    by_cases e : y = 0
    · rw [if_pos e] at h
      rcases List.mem_cons.mp hx with k | k
      · rw [k]; exact e
      · exact fst_all h x k
    · rw [if_neg e] at h
      exact absurd h e
theorem fst_set {l : List Int} (h : ∀ x ∈ l, x = 0) (k : Nat) (hk : k < l.length) (e : Int) : fstC (l.set k e) 0 = if e = 0 then (0, 0) else (e, k) := by
  by_cases z : e = 0
  · rw [if_pos z]
    refine fst_zero fun x hx => ?_
    rcases List.mem_or_eq_of_mem_set hx with h1 | h1
    · exact h x h1
    · rw [h1]; exact z
  · rw [if_neg z]
    have := fst_at (l := l.set k e) (j := 0) (k := k) (x := e) (fun i hi => by
      rw [List.getElem?_set_ne (by omega), List.getElem?_eq_getElem (by omega)]
      congr 1
      exact h _ (List.getElem_mem _)) (by rw [List.getElem?_set_self hk]) z
    rw [Nat.zero_add] at this
    exact this
theorem rng_zero {b : Bool} (h : rngC b = 0) : b = true := by cases b with | true => rfl | false => cases h
/-- what a car that may be has -/
theorem right_gears {c : Cr} (h : (rgtC c).1 = 0) : (1 ≤ c.g.n ∧ c.g.n ≤ 8) ∧ (1073741824 ≤ c.f 59 ∧ c.f 59 ≤ 137438953472) ∧ (2147483648 ≤ c.f 61 ∧ c.f 61 ≤ 68719476736) ∧ ∀ i, i < c.g.n → 1073741824 ≤ c.g.v i ∧ c.g.v i ≤ 137438953472 := by
  have z := fst_all h (rCGearsN c) (by unfold errC; simp)
  rw [gears_eq] at z
  by_cases n : inC 1 8 c.g.n = true
  · rw [if_pos n] at z
    have b := rng_zero z
    rw [Bool.and_eq_true, Bool.and_eq_true, inC_dec, inC_dec, decide_eq_true_iff, decide_eq_true_iff, decide_eq_true_iff] at b
    rw [inC_dec, decide_eq_true_iff] at n
    exact ⟨by omega, b.1, b.2.2, b.2.1⟩
  · rw [if_neg n] at z
    cases z
theorem mul_bounds {x y : Int} (h1 : 1073741824 ≤ x ∧ x ≤ 137438953472) (h2 : 2147483648 ≤ y ∧ y ≤ 68719476736) :
    (536870912 ≤ mulF x y ∧ mulF x y ≤ 2199023255552) ∧ -2199023255552 ≤ mulF (subF 0 x) y ∧ mulF (subF 0 x) y ≤ -536870912 := by
  have e : subF 0 x = -x := by
    show clip64 (0 - x) = -x
    rw [(clip64_of (n := 0 - x) (by unfold In64; omega)).1]
    omega
  rw [e]
  have a1 : 1073741824 * 2147483648 ≤ x * y := Int.mul_le_mul h1.1 h2.1 (by omega) (by omega)
  have a2 : x * y ≤ 137438953472 * 68719476736 := Int.mul_le_mul h1.2 h2.2 (by omega) (by omega)
  have c1 : quoF (1073741824 * 2147483648) 4294967296 = 536870912 := by decide +kernel
  have c2 : quoF (137438953472 * 68719476736) 4294967296 = 2199023255552 := by decide +kernel
  have c3 : quoF (-(1073741824 * 2147483648)) 4294967296 = -536870912 := by decide +kernel
  have c4 : quoF (-(137438953472 * 68719476736)) 4294967296 = -2199023255552 := by decide +kernel
  have q1 := quoF_mono (d := 4294967296) (by omega) a1
  have q2 := quoF_mono (d := 4294967296) (by omega) a2
  have q3 := quoF_mono (d := 4294967296) (by omega) (show -(137438953472 * 68719476736) ≤ -x * y by rw [Int.neg_mul]; omega)
  have q4 := quoF_mono (d := 4294967296) (by omega) (show -x * y ≤ -(1073741824 * 2147483648) by rw [Int.neg_mul]; omega)
  rw [c1] at q1; rw [c2] at q2; rw [c4] at q3; rw [c3] at q4
  exact ⟨⟨q1, q2⟩, q3, q4⟩
/-- a ratio of a car that may be: none; behind; ahead -/
theorem ratio_none {c : Cr} {g : Int} (h : g = 0 ∨ g < -1 ∨ (c.g.n : Int) < g) : ratioF c g = 0 := by
  unfold ratioF
  rw [if_neg (by omega), if_neg (by omega)]
theorem ratio_some {c : Cr} {g : Int} (k : (rgtC c).1 = 0) (h : ¬ (g = 0 ∨ g < -1 ∨ (c.g.n : Int) < g)) : (0 < ratioF c g ↔ 0 < g) ∧ ratioF c g ≠ 0 ∧ ratioF c g ≤ 2199023255552 ∧ -2199023255552 ≤ ratioF c g := by
  have G := right_gears k
  unfold ratioF
  by_cases m : g = -1
  · rw [if_pos m]
    have := mul_bounds G.2.1 G.2.2.1
    omega
  · rw [if_neg m, if_pos (by omega)]
    have := mul_bounds (G.2.2.2 (g - 1).toNat (by omega)) G.2.2.1
    omega
/-- without its last gear -/
def lessC (c : Cr) : Cr := { c with g := ⟨c.g.a, c.g.n - 1, c.g.c, c.g.v⟩ }
/-- with another differential -/
def diffC (c : Cr) (d : Int) : Cr := { c with f := fun k => if k = 62 then d else c.f k }
theorem less_err (c : Cr) : errC (lessC c) = (errC c).set 11 (rCGearsN (lessC c)) := rfl
theorem diff_err (c : Cr) (d : Int) : errC (diffC c d) = (errC c).set 12 (rngC (rCRestB (diffC c d))) := rfl
theorem less_cells (c : Cr) : (carL c).set 60 (.slice c.g.a (c.g.n - 1) c.g.c) = carL (lessC c) := rfl
theorem diff_cells (c : Cr) (d : Int) : (carL c).set 62 (.int .i64 d) = carL (diffC c d) := rfl
theorem less_gears {c : Cr} (h : (rgtC c).1 = 0) : rCGearsN (lessC c) = if c.g.n = 1 then 42 else 0 := by
  have G := right_gears h
  rw [gears_eq]
  show (if inC 1 8 ((c.g.n - 1 : Nat) : Int) = true then rngC (inC 1073741824 137438953472 (c.f 59) && (decide (allW c.g.v (c.g.n - 1) 1073741824 137438953472) && inC 2147483648 68719476736 (c.f 61))) else 42) = _
  by_cases n : c.g.n = 1
  · have e : inC 1 8 ((c.g.n - 1 : Nat) : Int) = false := by rw [inC_dec, decide_eq_false_iff_not]; omega
    rw [e, if_pos n]
    rfl
  · have e : inC 1 8 ((c.g.n - 1 : Nat) : Int) = true := by rw [inC_dec, decide_eq_true_iff]; omega
    have e1 : inC 1073741824 137438953472 (c.f 59) = true := by rw [inC_dec, decide_eq_true_iff]; exact G.2.1
    have e2 : decide (allW c.g.v (c.g.n - 1) 1073741824 137438953472) = true := decide_eq_true (fun i hi => G.2.2.2 i (by omega))
    have e3 : inC 2147483648 68719476736 (c.f 61) = true := by rw [inC_dec, decide_eq_true_iff]; exact G.2.2.1
    rw [e, e1, e2, e3, if_neg n]
    rfl
theorem less_right {c : Cr} (h : (rgtC c).1 = 0) : rgtC (lessC c) = if c.g.n = 1 then (42, 11) else (0, 0) := by
  have A := fst_all h
  show fstC (errC (lessC c)) 0 = _
  rw [less_err, fst_set A 11 (by show 11 < 14; omega), less_gears h]
  by_cases n : c.g.n = 1
  · rw [if_pos n, if_pos n]; rfl
  · rw [if_neg n, if_neg n]; rfl
theorem diff_right {c : Cr} (h : (rgtC c).1 = 0) (d : Int) : rgtC (diffC c d) = if 0 ≤ d ∧ d ≤ 2 then (0, 0) else (40, 12) := by
  have A := fst_all h
  have R := rng_zero (A (rngC (rCRestB c)) (by unfold errC; simp))
  show fstC (errC (diffC c d)) 0 = _
  rw [diff_err, fst_set A 12 (by show 12 < 14; omega)]
  have e : rCRestB (diffC c d) = (decide (0 ≤ d) && decide (d ≤ 2)) := by
    unfold rCRestB at R
    rw [Bool.and_eq_true, Bool.and_eq_true] at R
    have R2 := R.2.2
    show (decide (0 ≤ d) && (decide (d ≤ 2) && _)) = _
    rw [← Bool.and_assoc]
    refine (congrArg (fun b => (decide (0 ≤ d) && decide (d ≤ 2)) && b) ?_).trans (Bool.and_true _)
    exact R2
  rw [e, ← Bool.decide_and]
  by_cases k : 0 ≤ d ∧ d ≤ 2
  · rw [decide_eq_true k, if_pos k]; rfl
  · rw [decide_eq_false k, if_neg k]; rfl
theorem less_few {c : Cr} (h : fewC c) : fewC (lessC c) := ⟨h.1, h.2.1, h.2.2.1, by show c.g.n - 1 ≤ 20; have := h.2.2.2.1; omega, h.2.2.2.2⟩
theorem less_w {c : Cr} (h : CrW c) : CrW (lessC c) := ⟨h.i, h.s, h.r, fun i hi => h.g i (by have : i < c.g.n - 1 := hi; omega)⟩
theorem less_m {c : Cr} {B : Nat} {W : World} (h : CrM B W c) : CrM B W (lessC c) :=
  ⟨h.d, h.t, h.q, h.r, ⟨h.g.hm, by show c.g.n - 1 ≤ c.g.c; have := h.g.hl; omega, fun i hi => h.g.wf i (by have : i < c.g.n - 1 := hi; omega), fun h0 => by
    have h1 : 0 < c.g.n - 1 := h0
    obtain ⟨b, off, e, hb, hc⟩ := h.g.at' (by omega)
    exact ⟨b, off, e, hb, fun i hi => hc i (by have : i < c.g.n - 1 := hi; omega)⟩⟩⟩
theorem diff_w {c : Cr} (h : CrW c) {d : Int} (hd : In64 d) : CrW (diffC c d) := ⟨fun k => by
  show In64 (if k = 62 then d else c.f k)
  by_cases e : k = 62
  · rw [if_pos e]; exact hd
  · rw [if_neg e]; exact h.i k, h.s, h.r, h.g⟩
end Go.Proofs.Ytbpmbdnhfkfkhaa
