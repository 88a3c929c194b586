/- Contracts of the document's pane: far, beyond, falls. -/
import Derived.Test.YtbpmbdnhfkfkhaaBp
import Derived.Deep.QuietTactic
import Derived.BigQuiet
namespace Go.Proofs.Ytbpmbdnhfkfkhaa
open Go.RowKit
set_option linter.unusedVariables false
set_option linter.unusedSimpArgs false

theorem all_next {P : Nat → Prop} {j : Nat} (h : ∀ k, k < j → P k) (p : P j) : ∀ k, k < j + 1 → P k := fun k hk => by
  rcases Nat.lt_or_ge k j with l | l
  · exact h k l
  · have e : k = j := by omega
    subst e; exact p
theorem rPFar_any (n : Int) (w : World) :
    Calls Try.prog 80 #[.int .i64 n] w fun e w' => e = .returned (.bool (!decide (inT n))) ∧ w' = w := by
  obtain ⟨r, hr⟩ : ∃ r, (!decide (inT n)) = r := ⟨_, rfl⟩
  rw [hr]
  have R := Lib.hid hr
  clear hr
  go_enter Try.func80, Try.ntmps80
  by_cases h : 4503599627370496 < n
  · have E := Lib.hid (show true = r by rw [← R.out, decide_eq_false (show ¬ inT n by unfold inT; omega)]; rfl)
    clear R
    go_wp2
    go_ret
    exact ⟨by rw [← E.out]; rfl, rfl⟩
  · have E := Lib.hid (show decide (n < -4503599627370496) = r by
      rw [← R.out, ← decide_not, decide_eq_decide]; unfold inT; omega)
    clear R
    go_wp2
    go_ret
    exact ⟨by rw [← E.out]; rfl, rfl⟩
set_option maxHeartbeats 2000000 in
theorem rPBeyond_any (a : Option Addr) (n c : Nat) (v : Nat → Int) (B : Nat) (w : World) (hmax : n ≤ 100) (N : Nums B w ⟨a, n, c, v⟩) :
    Calls Try.prog 63 #[.slice a n c] w fun e w' => e = .returned (.bool (!decide (inS ⟨a, n, c, v⟩))) ∧ w' = w := by
  have HN := Lib.hid N
  obtain ⟨r, hr⟩ : ∃ r, (!decide (inS ⟨a, n, c, v⟩)) = r := ⟨_, rfl⟩
  rw [hr]
  have R := Lib.hid hr
  clear hr N
  go_enter Try.func63, Try.ntmps63
  go_wp2
  go_loopw [3] (fun i wr => ∃ j : Nat, j ≤ n ∧ i = .int .i64 j ∧ Hid (∀ k, k < j → inT (v k)) ∧ wr = w) (fun i _ => n - (intOf i).toNat)
  case atStart => exact ⟨0, by omega, rfl, Lib.hid (fun k h => absurd h (by omega)), rfl⟩
  case round =>
    obtain ⟨j, hj, rfl, I, rfl⟩ := hrel
    by_cases hlt : j < n
    · obtain ⟨b, off, ha, hb, hcell⟩ := HN.out.at' (by show 0 < n; omega)
      dsimp only at ha hcell
      subst ha
      have c0 := hcell j hlt
      clear hcell hb
      by_cases hv : inT (v j)
      · have V := Lib.hid (rPFar_any (v j))
        rw [decide_eq_true hv] at V
        have I2 := Lib.hid (all_next (P := fun k => inT (v k)) I.out hv)
        clear hv I
        go_wp2_with fail
        refine (V.out _).mono ?_
        rintro e w1 ⟨rfl, rfl⟩
        go_wp2
        go_roundw
        case rel => exact ⟨j + 1, by omega, by go_num, I2, trivial⟩
        case measure => simp [intOf]; omega
      · have V := Lib.hid (rPFar_any (v j))
        rw [decide_eq_false hv] at V
        have E := Lib.hid (show true = r by rw [← R.out, decide_eq_false (show ¬ inS ⟨some ⟨b, off, none⟩, n, c, v⟩ from fun k => hv (k j hlt))]; rfl)
        clear hv I
        go_wp2_with fail
        refine (V.out _).mono ?_
        rintro e w1 ⟨rfl, rfl⟩
        go_wp2
        go_ret
        exact ⟨by rw [← E.out]; rfl, rfl⟩
    · have E := Lib.hid (show false = r by rw [← R.out, decide_eq_true (show inS ⟨a, n, c, v⟩ from fun k hk => I.out k (by have : k < n := hk; omega))]; rfl)
      clear I
      go_wp2
      go_ret
      exact ⟨by rw [← E.out]; rfl, rfl⟩
set_option maxHeartbeats 2000000 in
theorem rPFalls_any (a : Option Addr) (n c : Nat) (v : Nat → Int) (B : Nat) (w : World) (hmax : n ≤ 100) (N : Nums B w ⟨a, n, c, v⟩) :
    Calls Try.prog 64 #[.slice a n c] w fun e w' => e = .returned (.bool (!decide (upS ⟨a, n, c, v⟩))) ∧ Below w.heap.size w w' := by
  have HN := Lib.hid N
  obtain ⟨r, hr⟩ : ∃ r, (!decide (upS ⟨a, n, c, v⟩)) = r := ⟨_, rfl⟩
  rw [hr]
  have R := Lib.hid hr
  clear hr N
  go_enter Try.func64, Try.ntmps64
  go_wp2
  go_loopw [3] (fun i wr => ∃ j : Nat, (j ≤ n ∨ j = 1) ∧ 0 < j ∧ i = .int .i64 j ∧ Hid (∀ k, k < j → k < n → 0 < k → v (k - 1) < v k) ∧ Below w.heap.size w wr ∧ (0 < n → ∀ k, k < n → wr.cell? ⟨(a.getD ⟨0, 0, none⟩).block, (a.getD ⟨0, 0, none⟩).off + k, none⟩ = some (.int .i64 (v k)))) (fun i _ => n - (intOf i).toNat)
  case atStart => exact ⟨1, Or.inr rfl, by omega, rfl, Lib.hid (fun k h h1 h2 => absurd h (by omega)), Below.refl _ _, fun h0 k hk => by
    obtain ⟨b, off, ha, hb, hcell⟩ := HN.out.at' h0
    dsimp only at ha hcell
    rw [ha]; exact hcell k hk⟩
  case round =>
    obtain ⟨j, hj, h0, rfl, I, hB, hC⟩ := hrel
    have B1 := Lib.hid hB
    have C1 := Lib.hid hC
    clear hB hC
    by_cases hlt : j < n
    · obtain ⟨b, off, ha, hb, hcell⟩ := HN.out.at' (by show 0 < n; omega)
      dsimp only at ha
      subst ha
      obtain ⟨i, hi⟩ : ∃ i, i + 1 = j := ⟨j - 1, by omega⟩
      have c0 : wr.cell? ⟨b, off + j, none⟩ = some (.int .i64 (v j)) := C1.out (by omega) j hlt
      have c1 : wr.cell? ⟨b, off + i, none⟩ = some (.int .i64 (v i)) := C1.out (by omega) i (by omega)
      have u1 : IntKind.i64.wrap ((j : Int) - 1) = (i : Int) := by rw [show (j : Int) - 1 = i by omega]; exact IntWalk.i64_in _ (by omega)
      have u2 : wrap64 ((j : Int) - 1) = (i : Int) := by unfold wrap64; omega
      have hin : i < n := by omega
      clear hcell hb
      have e : j - 1 = i := by omega
      by_cases hv : v i < v j
      · have I2 := Lib.hid (all_next (P := fun k => k < n → 0 < k → v (k - 1) < v k) I.out (fun _ _ => by rw [e]; exact hv))
        have J := Lib.hid hi
        clear I e hi
        have z0 : (0 : Int) ≤ (j : Int) := by omega
        have z1 : (j : Int) < (n : Int) := by omega
        have z2 : (0 : Int) ≤ (i : Int) := by omega
        have z3 : (i : Int) < (n : Int) := by omega
        go_wp2
        go_quiet (fail)
        go_wp2
        go_roundw
        case rel => exact ⟨j + 1, Or.inl (by omega), by omega, by go_num, I2, below_drewN B1.out _, C1.out⟩
        case measure => simp [intOf]; omega
      · have E := Lib.hid (show true = r by rw [← R.out, decide_eq_false (show ¬ upS ⟨some ⟨b, off, none⟩, n, c, v⟩ from fun k => hv (by have := k j hlt h0; dsimp only at this; rw [e] at this; exact this))]; rfl)
        have J := Lib.hid hi
        clear I e hi
        have z0 : (0 : Int) ≤ (j : Int) := by omega
        have z1 : (j : Int) < (n : Int) := by omega
        have z2 : (0 : Int) ≤ (i : Int) := by omega
        have z3 : (i : Int) < (n : Int) := by omega
        go_wp2
        go_quiet (fail)
        go_wp2
        go_ret
        exact ⟨by rw [← E.out]; rfl, below_drewN B1.out _⟩
    · have E := Lib.hid (show false = r by rw [← R.out, decide_eq_true (show upS ⟨a, n, c, v⟩ from fun k hk h => I.out k (by have : k < n := hk; omega) hk h)]; rfl)
      clear I
      go_wp2
      go_ret
      exact ⟨by rw [← E.out]; rfl, B1.out⟩
end Go.Proofs.Ytbpmbdnhfkfkhaa
