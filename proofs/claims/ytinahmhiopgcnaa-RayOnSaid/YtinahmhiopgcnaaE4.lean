/- The program's field: values within bounds (a variadic call), copies of lists. -/
import Derived.Test.YtinahmhiopgcnaaYb
import Derived.Lib.SliceRun
namespace Go.Proofs.Ytinahmhiopgcnaa
open Go.RowKit
set_option linter.unusedVariables false
set_option linter.unusedSimpArgs false

/-- n numbers lie at a slice's address -/
def Lie (w : World) (a : Option Addr) (n : Nat) (v : Nat → Int) : Prop := 0 < n → ∃ b off, a = some ⟨b, off, none⟩ ∧ b < w.heap.size ∧ ∀ i, i < n → w.cell? ⟨b, off + i, none⟩ = some (.int .i64 (v i))
theorem Lie.one {w : World} {b : Nat} {x : Int} (h : w.cell? ⟨b, 0, none⟩ = some (.int .i64 x)) (hb : b < w.heap.size) : Lie w (some ⟨b, 0, none⟩) 1 (fun _ => x) :=
  fun _ => ⟨b, 0, rfl, hb, fun i hi => by rw [show 0 + i = 0 by omega]; exact h⟩
theorem Lie.two {w : World} {b : Nat} {x y : Int} (h : w.cell? ⟨b, 0, none⟩ = some (.int .i64 x)) (k : w.cell? ⟨b, 1, none⟩ = some (.int .i64 y)) (hb : b < w.heap.size) : Lie w (some ⟨b, 0, none⟩) 2 (fun i => if i = 0 then x else y) :=
  fun _ => ⟨b, 0, rfl, hb, fun i hi => by
    rcases (show i = 0 ∨ i = 1 by omega) with e | e
    · subst e; exact h
    · subst e; exact k⟩
def allW (v : Nat → Int) (n : Nat) (l h : Int) : Prop := ∀ i, i < n → l ≤ v i ∧ v i ≤ h
instance (v : Nat → Int) (n : Nat) (l h : Int) : Decidable (allW v n l h) := by unfold allW; exact inferInstance
theorem allW_one (x l h : Int) : decide (allW (fun _ => x) 1 l h) = decide (l ≤ x ∧ x ≤ h) := by
  rw [decide_eq_decide]
  exact ⟨fun k => k 0 (by omega), fun k i _ => k⟩
theorem allW_two (x y l h : Int) : decide (allW (fun i => if i = 0 then x else y) 2 l h) = decide ((l ≤ x ∧ x ≤ h) ∧ l ≤ y ∧ y ≤ h) := by
  rw [decide_eq_decide]
  refine ⟨fun k => ⟨k 0 (by omega), k 1 (by omega)⟩, fun k i hi => ?_⟩
  rcases (show i = 0 ∨ i = 1 by omega) with e | e
  · subst e; exact k.1
  · subst e; exact k.2
theorem fall_next {P : Nat → Prop} {j : Nat} (h : ∀ k, k < j → P k) (p : P j) : ∀ k, k < j + 1 → P k := fun k hk => by
  rcases Nat.lt_or_ge k j with l | l
  · exact h k l
  · have e : k = j := by omega
    subst e; exact p
set_option maxHeartbeats 2000000 in
theorem fWithinI_any (a : Option Addr) (n c : Nat) (v : Nat → Int) (l h : Int) (w : World) (hmax : n ≤ 100000) (N : Lie w a n v) :
    Calls Try.prog 55 #[.int .i64 l, .int .i64 h, .slice a n c] w fun e w' => e = .returned (.bool (decide (allW v n l h))) ∧ w' = w := by
  obtain ⟨R, hR⟩ : ∃ R, decide (allW v n l h) = R := ⟨_, rfl⟩
  rw [hR]
  have NF := Lib.hid (fun (k : ¬ allW v n l h) => (show false = R by rw [← hR]; exact (decide_eq_false k).symm))
  have NY := Lib.hid (fun (k : allW v n l h) => (show true = R by rw [← hR]; exact (decide_eq_true k).symm))
  have HN := Lib.hid N
  clear hR N
  go_enter Try.func55, Try.ntmps55
  go_wp2
  go_loopw [11] (fun i wr => ∃ j : Nat, j ≤ n ∧ i = .int .i64 j ∧ Hid (∀ k, k < j → l ≤ v k ∧ v k ≤ h) ∧ wr = w) (fun i _ => n - (intOf i).toNat)
  case atStart => exact ⟨0, by omega, rfl, Lib.hid (fun k h => absurd h (by omega)), rfl⟩
  case round =>
    obtain ⟨j, hj, rfl, I, hw⟩ := hrel
    subst hw
    by_cases hlt : j < n
    · obtain ⟨b, off, ha, hb, hcell⟩ := HN.out (by omega)
      subst ha
      have c0 := hcell j hlt
      have z0 : (0 : Int) ≤ (j : Int) := by omega
      have z1 : (j : Int) < (n : Int) := by omega
      clear hcell hb
      by_cases h1 : v j < l
      · have E := Lib.hid (NF.out (fun k => by have := (k j hlt).1; omega))
        clear I NF NY
        go_wp2
        go_ret
        exact ⟨by rw [← E.out]; rfl, rfl⟩
      by_cases h2 : h < v j
      · have E := Lib.hid (NF.out (fun k => by have := (k j hlt).2; omega))
        clear I NF NY
        go_wp2
        go_ret
        exact ⟨by rw [← E.out]; rfl, rfl⟩
      have I2 := Lib.hid (fall_next (P := fun k => l ≤ v k ∧ v k ≤ h) I.out ⟨by omega, by omega⟩)
      clear I NF NY
      go_wp2
      go_roundw
      case rel => exact ⟨j + 1, by omega, by go_num, I2, trivial⟩
      case measure => simp [intOf]; omega
    · have E := Lib.hid (NY.out (fun k hk => I.out k (by omega)))
      have z1 : ¬ (j : Int) < (n : Int) := by omega
      clear I NF NY
      go_wp2
      go_ret
      exact ⟨by rw [← E.out]; rfl, rfl⟩
set_option maxHeartbeats 2000000 in
theorem fWithinF_any (a : Option Addr) (n c : Nat) (v : Nat → Int) (l h : Int) (w : World) (hmax : n ≤ 100000) (N : Lie w a n v) :
    Calls Try.prog 56 #[.int .i64 l, .int .i64 h, .slice a n c] w fun e w' => e = .returned (.bool (decide (allW v n l h))) ∧ w' = w := by
  obtain ⟨R, hR⟩ : ∃ R, decide (allW v n l h) = R := ⟨_, rfl⟩
  rw [hR]
  have NF := Lib.hid (fun (k : ¬ allW v n l h) => (show false = R by rw [← hR]; exact (decide_eq_false k).symm))
  have NY := Lib.hid (fun (k : allW v n l h) => (show true = R by rw [← hR]; exact (decide_eq_true k).symm))
  have HN := Lib.hid N
  clear hR N
  go_enter Try.func56, Try.ntmps56
  go_wp2
  go_loopw [11] (fun i wr => ∃ j : Nat, j ≤ n ∧ i = .int .i64 j ∧ Hid (∀ k, k < j → l ≤ v k ∧ v k ≤ h) ∧ wr = w) (fun i _ => n - (intOf i).toNat)
  case atStart => exact ⟨0, by omega, rfl, Lib.hid (fun k h => absurd h (by omega)), rfl⟩
  case round =>
    obtain ⟨j, hj, rfl, I, hw⟩ := hrel
    subst hw
    by_cases hlt : j < n
    · obtain ⟨b, off, ha, hb, hcell⟩ := HN.out (by omega)
      subst ha
      have c0 := hcell j hlt
      have z0 : (0 : Int) ≤ (j : Int) := by omega
      have z1 : (j : Int) < (n : Int) := by omega
      clear hcell hb
      by_cases h1 : v j < l
      · have E := Lib.hid (NF.out (fun k => by have := (k j hlt).1; omega))
        clear I NF NY
        go_wp2
        go_ret
        exact ⟨by rw [← E.out]; rfl, rfl⟩
      by_cases h2 : h < v j
      · have E := Lib.hid (NF.out (fun k => by have := (k j hlt).2; omega))
        clear I NF NY
        go_wp2
        go_ret
        exact ⟨by rw [← E.out]; rfl, rfl⟩
      have I2 := Lib.hid (fall_next (P := fun k => l ≤ v k ∧ v k ≤ h) I.out ⟨by omega, by omega⟩)
      clear I NF NY
      go_wp2
      go_roundw
      case rel => exact ⟨j + 1, by omega, by go_num, I2, trivial⟩
      case measure => simp [intOf]; omega
    · have E := Lib.hid (NY.out (fun k hk => I.out k (by omega)))
      have z1 : ¬ (j : Int) < (n : Int) := by omega
      clear I NF NY
      go_wp2
      go_ret
      exact ⟨by rw [← E.out]; rfl, rfl⟩
/-- n numbers in a block of the call's own -/
def OwnN (base : Nat) (W : World) (u : Value) (n : Nat) (v : Nat → Int) : Prop := ∃ g cap, u = .slice (some ⟨g, 0, none⟩) n cap ∧ base ≤ g ∧ g < W.heap.size ∧ ∀ i, i < n → W.cell? ⟨g, i, none⟩ = some (.int .i64 (v i))
def vals (v : Nat → Int) (n : Nat) : List Value := (List.range n).map (fun i => Value.int .i64 (v i))
theorem vals_len (v : Nat → Int) (n : Nat) : (vals v n).length = n := by simp [vals]
theorem vals_at {v : Nat → Int} {n i : Nat} (h : i < n) : (vals v n)[i]? = some (.int .i64 (v i)) := by
  unfold vals; rw [List.getElem?_map, List.getElem?_range h]; rfl
theorem OwnN.of {base : Nat} {W : World} {u : Value} {n : Nat} {v : Nat → Int} (h : OB base W u (vals v n)) (hn : 0 < n) : OwnN base W u n v := by
  rcases h with ⟨_, h0⟩ | ⟨g, cap, rfl, hb, hg, hl, hm, hc, hf, hx⟩
  · have := congrArg List.length h0
    rw [vals_len] at this
    exact absurd this (by simp; omega)
  · rw [vals_len] at *
    exact ⟨g, cap, rfl, hb, hg, fun i hi => hx i _ (vals_at hi)⟩
theorem vals_one (v : Nat → Int) (n : Nat) : ∀ u ∈ vals v n, u.oneCell' = true := by
  intro u hu
  obtain ⟨x, _, rfl⟩ := List.mem_map.1 hu
  rfl
theorem src_lie {P : Program} {tx e' : TypeId} (hk : P.underlying tx = some (.slice e')) {w : World} {b off n c : Nat} {v : Nat → Int} (h : ∀ i, i < n → w.cell? ⟨b, off + i, none⟩ = some (.int .i64 (v i))) : Src P 1 tx (.slice (some ⟨b, off, none⟩) n c) n (vals v n) w :=
  Src.ofSlice _ hk ⟨b, off, none⟩ n c (vals v n) (by rw [vals_len]; omega) (fun j u hj => by
    have hjn : j < n := by
      rcases Nat.lt_or_ge j n with l | l
      · exact l
      · rw [List.getElem?_eq_none (by rw [vals_len]; exact l)] at hj; cases hj
    rw [vals_at hjn] at hj
    cases hj
    rw [show (⟨b, off, none⟩ : Addr).add j = ⟨b, off + j, none⟩ by unfold Addr.add; split <;> simp_all]
    exact h j hjn) (vals_one v n)
set_option maxRecDepth 100000 in
set_option maxHeartbeats 2000000 in
theorem fCloneF_any (b off n c : Nat) (v : Nat → Int) (w : World) (hmax : n ≤ 100000) (h0 : 0 < n) (hb : b < w.heap.size) (hcell : ∀ i, i < n → w.cell? ⟨b, off + i, none⟩ = some (.int .i64 (v i))) :
    Calls Try.prog 28 #[.slice (some ⟨b, off, none⟩) n c] w fun e w' => ∃ u, e = .returned u ∧ OwnN w.heap.size w' u n v ∧ Below w.heap.size w w' := by
  have HC := Lib.hid hcell
  clear hcell
  have q22 : ∀ (w : World) (a : Option Addr) (n c n' c' : Nat), (binOp .eql 36 (.slice a n c) (.slice none n' c')).run Try.prog w = .ok (.bool a.isNone) w := fun w a n c n' c' => Lib.run_eql_slice_nil w _ _ a n c n' c' Try.underlying36
  go_enter Try.func28, Try.ntmps28
  go_wp2_with (at_builtin; refine wpList_ob rfl (.tmp 5) (.tmp 6) 36 36 rfl 22 _ (.int .i64 0) Try.underlying36 rfl rfl rfl rfl (by decide) (OB.new w [] [] #[] _ rfl (Nat.le_refl _) (by unfold maxLen; simp)) rfl _ n (vals v n) rfl (src_lie Try.underlying36 (fun i hi => ((Below.refl w.heap.size w).alloc (Nat.le_refl _) _).cell (p := ⟨b, off + i, none⟩) hb |>.trans (HC.out i hi))) (by simp; omega) (by simp) ?_)
  intro v1 w1 o1 g1 p1
  have O1 := Lib.hid (OwnN.of o1 h0)
  have B1 := Lib.hid ((((Below.refl w.heap.size w).alloc (Nat.le_refl _) _).trans ((OB.new w [] [] #[] _ rfl (Nat.le_refl _) (by unfold maxLen; simp)).up g1 (by simp))))
  clear o1 g1 p1
  go_wp2
  go_ret
  exact ⟨_, rfl, O1.out, B1.out⟩
set_option maxRecDepth 100000 in
set_option maxHeartbeats 2000000 in
theorem fCloneI_any (b off n c : Nat) (v : Nat → Int) (w : World) (hmax : n ≤ 100000) (h0 : 0 < n) (hb : b < w.heap.size) (hcell : ∀ i, i < n → w.cell? ⟨b, off + i, none⟩ = some (.int .i64 (v i))) :
    Calls Try.prog 29 #[.slice (some ⟨b, off, none⟩) n c] w fun e w' => ∃ u, e = .returned u ∧ OwnN w.heap.size w' u n v ∧ Below w.heap.size w w' := by
  have HC := Lib.hid hcell
  clear hcell
  have q22 : ∀ (w : World) (a : Option Addr) (n c n' c' : Nat), (binOp .eql 37 (.slice a n c) (.slice none n' c')).run Try.prog w = .ok (.bool a.isNone) w := fun w a n c n' c' => Lib.run_eql_slice_nil w _ _ a n c n' c' Try.underlying37
  go_enter Try.func29, Try.ntmps29
  go_wp2_with (at_builtin; refine wpList_ob rfl (.tmp 5) (.tmp 6) 37 37 rfl 3 _ (.int .i64 0) Try.underlying37 rfl rfl rfl rfl (by decide) (OB.new w [] [] #[] _ rfl (Nat.le_refl _) (by unfold maxLen; simp)) rfl _ n (vals v n) rfl (src_lie Try.underlying37 (fun i hi => ((Below.refl w.heap.size w).alloc (Nat.le_refl _) _).cell (p := ⟨b, off + i, none⟩) hb |>.trans (HC.out i hi))) (by simp; omega) (by simp) ?_)
  intro v1 w1 o1 g1 p1
  have O1 := Lib.hid (OwnN.of o1 h0)
  have B1 := Lib.hid ((((Below.refl w.heap.size w).alloc (Nat.le_refl _) _).trans ((OB.new w [] [] #[] _ rfl (Nat.le_refl _) (by unfold maxLen; simp)).up g1 (by simp))))
  clear o1 g1 p1
  go_wp2
  go_ret
  exact ⟨_, rfl, O1.out, B1.out⟩
end Go.Proofs.Ytinahmhiopgcnaa
