/- The program's car: values within bounds (a generic variadic call), ranged. -/
import Derived.Test.YtbpmbdnhfkfkhaaZc
import Derived.Test.YtbpmbdnhfkfkhaaBt
namespace Go.Proofs.Ytbpmbdnhfkfkhaa
open Go.RowKit
set_option linter.unusedVariables false
set_option linter.unusedSimpArgs false

theorem cRanged_any (b : Bool) (w : World) : Calls Try.prog 38 #[.bool b] w fun e w' => e = .returned (.int .i64 (rngC b)) ∧ w' = w := by
  cases b with
  | true =>
    go_enter Try.func38, Try.ntmps38
    go_wp2
    go_ret
    exact ⟨rfl, rfl⟩
  | false =>
    go_enter Try.func38, Try.ntmps38
    go_wp2
    go_ret
    exact ⟨rfl, rfl⟩
/-- n numbers of any kind lie at a slice's address -/
def LieK (k : IntKind) (w : World) (a : Option Addr) (n : Nat) (v : Nat → Int) : Prop := 0 < n → ∃ b off, a = some ⟨b, off, none⟩ ∧ b < w.heap.size ∧ ∀ i, i < n → w.cell? ⟨b, off + i, none⟩ = some (.int k (v i))
set_option maxHeartbeats 2000000 in
theorem cWithinF (a : Option Addr) (n c : Nat) (v : Nat → Int) (l h : Int) (w : World) (hmax : n ≤ 100000) (N : LieK .i64 w a n v) :
    Calls Try.prog 39 #[.int .i64 l, .int .i64 h, .slice a n c] w fun e w' => e = .returned (.bool (decide (allW v n l h))) ∧ w' = w := by
  obtain ⟨R, hR⟩ : ∃ R, decide (allW v n l h) = R := ⟨_, rfl⟩
  rw [hR]
  have NF := Lib.hid (fun (k : ¬ allW v n l h) => (show false = R by rw [← hR]; exact (decide_eq_false k).symm))
  have NY := Lib.hid (fun (k : allW v n l h) => (show true = R by rw [← hR]; exact (decide_eq_true k).symm))
  have HN := Lib.hid N
  clear hR N
  go_enter Try.func39, Try.ntmps39
  go_wp2
  go_loopw [11] (fun i wr => ∃ j : Nat, j ≤ n ∧ i = .int .i64 j ∧ Hid (∀ k, k < j → l ≤ v k ∧ v k ≤ h) ∧ wr = w) (fun i _ => n - (intOf i).toNat)
  case atStart => exact ⟨0, by omega, rfl, Lib.hid (fun k h => absurd h (by omega)), rfl⟩
  case round =>
    obtain ⟨j, hj, rfl, I, hw⟩ := hrel
    subst hw
    by_cases hlt : j < n
    · obtain ⟨b, off, ha, hb, hcell⟩ := HN.out (by omega)
      subst ha
      have c0 := hcell j hlt
      have z0 : (0 : Int) ≤ (j : Int) := by omega
      have z1 : (j : Int) < (n : Int) := by omega
      clear hcell hb
      by_cases h1 : v j < l
      · have E := Lib.hid (NF.out (fun k => by have := (k j hlt).1; omega))
        clear I NF NY
        go_wp2
        go_ret
        exact ⟨by rw [← E.out]; rfl, rfl⟩
      by_cases h2 : h < v j
      · have E := Lib.hid (NF.out (fun k => by have := (k j hlt).2; omega))
        clear I NF NY
        go_wp2
        go_ret
        exact ⟨by rw [← E.out]; rfl, rfl⟩
      have I2 := Lib.hid (fall_next (P := fun k => l ≤ v k ∧ v k ≤ h) I.out ⟨by omega, by omega⟩)
      clear I NF NY
      go_wp2
      go_roundw
      case rel => exact ⟨j + 1, by omega, by go_num, I2, trivial⟩
      case measure => simp [intOf]; omega
    · have hje : j = n := by omega
      subst hje
      have E := Lib.hid (NY.out (fun k hk => I.out k hk))
      clear I NF NY
      go_wp2
      go_ret
      exact ⟨by rw [← E.out]; rfl, rfl⟩
set_option maxHeartbeats 2000000 in
theorem cWithinI (a : Option Addr) (n c : Nat) (v : Nat → Int) (l h : Int) (w : World) (hmax : n ≤ 100000) (N : LieK .i64 w a n v) :
    Calls Try.prog 44 #[.int .i64 l, .int .i64 h, .slice a n c] w fun e w' => e = .returned (.bool (decide (allW v n l h))) ∧ w' = w := by
  obtain ⟨R, hR⟩ : ∃ R, decide (allW v n l h) = R := ⟨_, rfl⟩
  rw [hR]
  have NF := Lib.hid (fun (k : ¬ allW v n l h) => (show false = R by rw [← hR]; exact (decide_eq_false k).symm))
  have NY := Lib.hid (fun (k : allW v n l h) => (show true = R by rw [← hR]; exact (decide_eq_true k).symm))
  have HN := Lib.hid N
  clear hR N
  go_enter Try.func44, Try.ntmps44
  go_wp2
  go_loopw [11] (fun i wr => ∃ j : Nat, j ≤ n ∧ i = .int .i64 j ∧ Hid (∀ k, k < j → l ≤ v k ∧ v k ≤ h) ∧ wr = w) (fun i _ => n - (intOf i).toNat)
  case atStart => exact ⟨0, by omega, rfl, Lib.hid (fun k h => absurd h (by omega)), rfl⟩
  case round =>
    obtain ⟨j, hj, rfl, I, hw⟩ := hrel
    subst hw
    by_cases hlt : j < n
    · obtain ⟨b, off, ha, hb, hcell⟩ := HN.out (by omega)
      subst ha
      have c0 := hcell j hlt
      have z0 : (0 : Int) ≤ (j : Int) := by omega
      have z1 : (j : Int) < (n : Int) := by omega
      clear hcell hb
      by_cases h1 : v j < l
      · have E := Lib.hid (NF.out (fun k => by have := (k j hlt).1; omega))
        clear I NF NY
        go_wp2
        go_ret
        exact ⟨by rw [← E.out]; rfl, rfl⟩
      by_cases h2 : h < v j
      · have E := Lib.hid (NF.out (fun k => by have := (k j hlt).2; omega))
        clear I NF NY
        go_wp2
        go_ret
        exact ⟨by rw [← E.out]; rfl, rfl⟩
      have I2 := Lib.hid (fall_next (P := fun k => l ≤ v k ∧ v k ≤ h) I.out ⟨by omega, by omega⟩)
      clear I NF NY
      go_wp2
      go_roundw
      case rel => exact ⟨j + 1, by omega, by go_num, I2, trivial⟩
      case measure => simp [intOf]; omega
    · have hje : j = n := by omega
      subst hje
      have E := Lib.hid (NY.out (fun k hk => I.out k hk))
      clear I NF NY
      go_wp2
      go_ret
      exact ⟨by rw [← E.out]; rfl, rfl⟩
set_option maxHeartbeats 2000000 in
theorem cWithinT (a : Option Addr) (n c : Nat) (v : Nat → Int) (l h : Int) (w : World) (hmax : n ≤ 100000) (N : LieK .u32 w a n v) :
    Calls Try.prog 45 #[.int .u32 l, .int .u32 h, .slice a n c] w fun e w' => e = .returned (.bool (decide (allW v n l h))) ∧ w' = w := by
  obtain ⟨R, hR⟩ : ∃ R, decide (allW v n l h) = R := ⟨_, rfl⟩
  rw [hR]
  have NF := Lib.hid (fun (k : ¬ allW v n l h) => (show false = R by rw [← hR]; exact (decide_eq_false k).symm))
  have NY := Lib.hid (fun (k : allW v n l h) => (show true = R by rw [← hR]; exact (decide_eq_true k).symm))
  have HN := Lib.hid N
  clear hR N
  go_enter Try.func45, Try.ntmps45
  go_wp2
  go_loopw [11] (fun i wr => ∃ j : Nat, j ≤ n ∧ i = .int .i64 j ∧ Hid (∀ k, k < j → l ≤ v k ∧ v k ≤ h) ∧ wr = w) (fun i _ => n - (intOf i).toNat)
  case atStart => exact ⟨0, by omega, rfl, Lib.hid (fun k h => absurd h (by omega)), rfl⟩
  case round =>
    obtain ⟨j, hj, rfl, I, hw⟩ := hrel
    subst hw
    by_cases hlt : j < n
    · obtain ⟨b, off, ha, hb, hcell⟩ := HN.out (by omega)
      subst ha
      have c0 := hcell j hlt
      have z0 : (0 : Int) ≤ (j : Int) := by omega
      have z1 : (j : Int) < (n : Int) := by omega
      clear hcell hb
      by_cases h1 : v j < l
      · have E := Lib.hid (NF.out (fun k => by have := (k j hlt).1; omega))
        clear I NF NY
        go_wp2
        go_ret
        exact ⟨by rw [← E.out]; rfl, rfl⟩
      by_cases h2 : h < v j
      · have E := Lib.hid (NF.out (fun k => by have := (k j hlt).2; omega))
        clear I NF NY
        go_wp2
        go_ret
        exact ⟨by rw [← E.out]; rfl, rfl⟩
      have I2 := Lib.hid (fall_next (P := fun k => l ≤ v k ∧ v k ≤ h) I.out ⟨by omega, by omega⟩)
      clear I NF NY
      go_wp2
      go_roundw
      case rel => exact ⟨j + 1, by omega, by go_num, I2, trivial⟩
      case measure => simp [intOf]; omega
    · have hje : j = n := by omega
      subst hje
      have E := Lib.hid (NY.out (fun k hk => I.out k hk))
      clear I NF NY
      go_wp2
      go_ret
      exact ⟨by rw [← E.out]; rfl, rfl⟩
theorem lk_bw {k : IntKind} {W : World} {b off : Nat} {n : Nat} {v : Nat → Int} (hb : b < W.heap.size) (h : ∀ i, i < n → W.cell? ⟨b, off + i, none⟩ = some (.int k (v i))) : LieK k W (some ⟨b, off, none⟩) n v := fun _ => ⟨b, off, rfl, hb, h⟩
theorem inC_dec (lo hi x : Int) : inC lo hi x = decide (lo ≤ x ∧ x ≤ hi) := by unfold inC; rw [Bool.decide_and]
theorem all1 (x l h : Int) : decide (allW (fun _ => x) 1 l h) = inC l h x := by
  rw [inC_dec, decide_eq_decide]
  exact ⟨fun k => k 0 (by omega), fun k i _ => k⟩
theorem all2 (x y l h : Int) : decide (allW (fun i => if i = 0 then x else y) 2 l h) = (inC l h x && inC l h y) := by
  rw [inC_dec, inC_dec, ← Bool.decide_and, decide_eq_decide]
  refine ⟨fun k => ⟨k 0 (by omega), k 1 (by omega)⟩, fun k i hi => ?_⟩
  rcases (show i = 0 ∨ i = 1 by omega) with e | e
  · subst e; exact k.1
  · subst e; exact k.2
theorem all3 (x y z l h : Int) : decide (allW (fun i => if i = 0 then x else if i = 1 then y else z) 3 l h) = (inC l h x && (inC l h y && inC l h z)) := by
  rw [inC_dec, inC_dec, inC_dec, ← Bool.decide_and, ← Bool.decide_and, decide_eq_decide]
  refine ⟨fun k => ⟨k 0 (by omega), k 1 (by omega), k 2 (by omega)⟩, fun k i hi => ?_⟩
  rcases (show i = 0 ∨ i = 1 ∨ i = 2 by omega) with e | e | e
  · subst e; exact k.1
  · subst e; exact k.2.1
  · subst e; exact k.2.2
theorem cF1 (x lo hi : Int) (b cap : Nat) (W : World) (K : BW W b [.int .i64 x]) : Calls Try.prog 39 #[.int .i64 lo, .int .i64 hi, .slice (some ⟨b, 0, none⟩) 1 cap] W fun e w' => e = .returned (.bool (inC lo hi x)) ∧ w' = W := by
  rw [← all1]
  exact cWithinF _ 1 cap _ lo hi W (by omega) (lk_bw K.lt fun i hi => by
    have e : i = 0 := by omega
    subst e; exact K.c 0 _ rfl)
theorem cI1 (x lo hi : Int) (b cap : Nat) (W : World) (K : BW W b [.int .i64 x]) : Calls Try.prog 44 #[.int .i64 lo, .int .i64 hi, .slice (some ⟨b, 0, none⟩) 1 cap] W fun e w' => e = .returned (.bool (inC lo hi x)) ∧ w' = W := by
  rw [← all1]
  exact cWithinI _ 1 cap _ lo hi W (by omega) (lk_bw K.lt fun i hi => by
    have e : i = 0 := by omega
    subst e; exact K.c 0 _ rfl)
theorem cT1 (x lo hi : Int) (b cap : Nat) (W : World) (K : BW W b [.int .u32 x]) : Calls Try.prog 45 #[.int .u32 lo, .int .u32 hi, .slice (some ⟨b, 0, none⟩) 1 cap] W fun e w' => e = .returned (.bool (inC lo hi x)) ∧ w' = W := by
  rw [← all1]
  exact cWithinT _ 1 cap _ lo hi W (by omega) (lk_bw K.lt fun i hi => by
    have e : i = 0 := by omega
    subst e; exact K.c 0 _ rfl)
theorem cF2 (x y lo hi : Int) (b cap : Nat) (W : World) (K : BW W b [.int .i64 x, .int .i64 y]) : Calls Try.prog 39 #[.int .i64 lo, .int .i64 hi, .slice (some ⟨b, 0, none⟩) 2 cap] W fun e w' => e = .returned (.bool (inC lo hi x && inC lo hi y)) ∧ w' = W := by
  rw [← all2]
  exact cWithinF _ 2 cap _ lo hi W (by omega) (lk_bw K.lt fun i hi => by
    rcases (show i = 0 ∨ i = 1 by omega) with e | e
    · subst e; exact K.c 0 _ rfl
    · subst e; exact K.c 1 _ rfl)
theorem cF3 (x y z lo hi : Int) (b cap : Nat) (W : World) (K : BW W b [.int .i64 x, .int .i64 y, .int .i64 z]) : Calls Try.prog 39 #[.int .i64 lo, .int .i64 hi, .slice (some ⟨b, 0, none⟩) 3 cap] W fun e w' => e = .returned (.bool (inC lo hi x && (inC lo hi y && inC lo hi z))) ∧ w' = W := by
  rw [← all3]
  exact cWithinF _ 3 cap _ lo hi W (by omega) (lk_bw K.lt fun i hi => by
    rcases (show i = 0 ∨ i = 1 ∨ i = 2 by omega) with e | e | e
    · subst e; exact K.c 0 _ rfl
    · subst e; exact K.c 1 _ rfl
    · subst e; exact K.c 2 _ rfl)
/-- both elements of the bars, in the car's copy -/
theorem cF2at (c : Cr) (lo hi : Int) (b : Nat) (W : World) (K : BW W b (carL c)) : Calls Try.prog 39 #[.int .i64 lo, .int .i64 hi, .slice (some ⟨b, 44, none⟩) 2 2] W fun e w' => e = .returned (.bool (inC lo hi (c.f 44) && inC lo hi (c.f 45))) ∧ w' = W := by
  rw [← all2]
  exact cWithinF _ 2 2 _ lo hi W (by omega) (lk_bw K.lt fun i hi => by
    rcases (show i = 0 ∨ i = 1 by omega) with e | e
    · subst e; exact K.c 44 _ rfl
    · subst e; exact K.c 45 _ rfl)
end Go.Proofs.Ytbpmbdnhfkfkhaa
