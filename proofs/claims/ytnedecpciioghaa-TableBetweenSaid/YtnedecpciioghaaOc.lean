/- Contracts of the document's table: in, Right, Cell, Bound. -/
import Derived.Test.YtnedecpciioghaaOa
import Derived.Test.YtnedecpciioghaaOb
import Derived.Test.YtnedecpciioghaaKy
namespace Go.Proofs.Ytnedecpciioghaa
open Go.RowKit
set_option linter.unusedVariables false
set_option linter.unusedSimpArgs false

theorem rTIn_any (n : Int) (w : World) :
    Calls Try.prog 19 #[.int .i64 n, .int .i64 4503599627370496] w fun e w' => e = .returned (.bool (decide (inT n))) ∧ w' = w := by
  by_cases h : n ≤ 4503599627370496
  · have E := Lib.hid (show decide (inT n) = decide (-4503599627370496 ≤ n) by rw [decide_eq_decide]; unfold inT; omega)
    rw [E.out]
    go_enter Try.func19, Try.ntmps19
    go_wp2
    go_ret
    exact ⟨retB (by simp [h]), rfl⟩
  · have E := Lib.hid (show decide (inT n) = false by rw [decide_eq_false_iff_not]; unfold inT; omega)
    rw [E.out]
    go_enter Try.func19, Try.ntmps19
    go_wp2
    go_ret
    exact ⟨retB (by simp [h]), rfl⟩
set_option maxHeartbeats 4000000 in
theorem rTCell_any (a : Option Addr) (len cap : Nat) (X Y : Nat → Int) (x : Int) (w : World) (hmax : len ≤ 100) (D : Dots w a len cap X Y) :
    Calls Try.prog 14 #[.slice a len cap, .int .i64 x] w fun e w' => e = .returned (.int .i64 (cellUp X x (len - 1))) ∧ w' = w := by
  have HD := Lib.hid D
  clear D
  go_enter Try.func14, Try.ntmps14
  go_wp2
  go_loopw [5, 6] (fun v i wr => ∃ j : Nat, j ≤ len - 1 ∧ i = .int .i64 j ∧ v = .int .i64 (cellUp X x j) ∧ wr = w) (fun _ i _ => len - (intOf i).toNat)
  case atStart => exact ⟨0, by omega, rfl, rfl, rfl⟩
  case round =>
    obtain ⟨j, hj, rfl, rfl, rfl⟩ := hrel
    have v1 : IntKind.i64.wrap ((j : Int) + 1) = (j : Int) + 1 := IntWalk.i64_in _ (by omega)
    have v2 : wrap64 ((j : Int) + 1) = (j : Int) + 1 := by unfold wrap64; omega
    by_cases hlt : j + 1 < len
    · obtain ⟨b, off, rfl, hb, hcell⟩ := HD.out.at' (by omega)
      have c0 := (hcell j (by omega)).1
      clear hcell
      have g1 : (j : Int) + 1 < len := by omega
      have E := Lib.hid (show cellUp X x (j + 1) = if X j ≤ x then j else cellUp X x j from rfl)
      by_cases c : X j ≤ x
      · rw [if_pos c] at E
        go_wp2
        go_roundw
        case rel => exact ⟨j + 1, by omega, by go_num, by rw [E.out], trivial⟩
        case measure => simp [intOf]; omega
      · rw [if_neg c] at E
        go_wp2
        go_roundw
        case rel => exact ⟨j + 1, by omega, by go_num, by rw [E.out], trivial⟩
        case measure => simp [intOf]; omega
    · have g1 : ¬ (j : Int) + 1 < len := by omega
      have E := Lib.hid (show j = len - 1 by omega)
      go_wp2
      go_ret
      exact ⟨by rw [← E.out]; rfl, rfl⟩
set_option maxHeartbeats 8000000 in
theorem rTRight_any (a : Option Addr) (len cap : Nat) (X Y : Nat → Int) (w : World) (hmax : len ≤ 100) (D : Dots w a len cap X Y) :
    Calls Try.prog 9 #[.slice a len cap] w fun e w' => e = .returned (.int .i64 (rightN len X Y)) ∧ Below w.heap.size w w' := by
  have HD := Lib.hid D
  clear D
  by_cases c : len < 2
  · have E := Lib.hid (show rightN len X Y = 42 by unfold rightN; rw [if_pos (Or.inl c)])
    rw [E.out]
    go_enter Try.func9, Try.ntmps9
    go_wp2
    go_ret
    exact ⟨rfl, by repeat (first | exact Below.refl _ _ | assumption | refine Below.setCell ?_ (by first | omega | (simp; done) | (simp; omega)) _ | refine Below.alloc ?_ (by first | omega | (simp; done) | (simp; omega)) _ | refine below_drewN ?_ _ | refine Below.drew ?_ | refine Below.trans ?_ (Below.mono (by assumption) (by first | omega | (simp; done) | (simp; omega))))⟩
  · by_cases c2 : 32 < len
    · have E := Lib.hid (show rightN len X Y = 42 by unfold rightN; rw [if_pos (Or.inr c2)])
      rw [E.out]
      go_enter Try.func9, Try.ntmps9
      go_wp2
      go_ret
      exact ⟨rfl, by repeat (first | exact Below.refl _ _ | assumption | refine Below.setCell ?_ (by first | omega | (simp; done) | (simp; omega)) _ | refine Below.alloc ?_ (by first | omega | (simp; done) | (simp; omega)) _ | refine below_drewN ?_ _ | refine Below.drew ?_ | refine Below.trans ?_ (Below.mono (by assumption) (by first | omega | (simp; done) | (simp; omega))))⟩
    · obtain ⟨R, hR⟩ : ∃ R, rightF X Y len 0 = R := ⟨_, rfl⟩
      have E := Lib.hid (show rightN len X Y = R by unfold rightN; rw [if_neg (by omega)]; exact hR)
      rw [E.out]
      have HR := Lib.hid hR
      clear hR E
      go_enter Try.func9, Try.ntmps9
      go_wp2
      go_loopw [3] (fun i wr => ∃ (k j : Nat), k + j = len ∧ i = .int .i64 j ∧ rightF X Y k j = R ∧ Below w.heap.size w wr) (fun i _ => len - (intOf i).toNat)
      case atStart => exact ⟨len, 0, by omega, rfl, HR.out, Below.refl _ _⟩
      case round =>
        clear HR
        obtain ⟨kk, j, hj, rfl, HR, HB⟩ := hrel
        have HR := Lib.hid HR
        have HB := Lib.hid HB
        cases kk with
        | zero =>
          have EE : (0 : Int) = R := HR.out
          have hje : j = len := by omega
          go_wp2
          go_ret
          exact ⟨retI EE, HB.out⟩
        | succ k =>
          have hlt : j < len := by omega
          have sz := HB.out.size
          obtain ⟨b, off, rfl, hb, hcell⟩ := HD.out.at' (by omega)
          have c0 : wr.cell? ⟨b, off + j * 2, none⟩ = some (.int .i64 (X j)) := by rw [HB.out.cell (p := ⟨b, off + j * 2, none⟩) hb]; exact (hcell j hlt).1
          have c1 : wr.cell? ⟨b, off + j * 2 + 1, none⟩ = some (.int .i64 (Y j)) := by rw [HB.out.cell (p := ⟨b, off + j * 2 + 1, none⟩) hb]; exact (hcell j hlt).2
          go_wp2_with fail
          refine (rTIn_any (X j) _).mono ?_
          rintro e w1 ⟨rfl, rfl⟩
          by_cases x1 : inT (X j)
          · have t1 : decide (inT (X j)) = true := decide_eq_true x1
            go_wp2_with fail
            refine (rTIn_any (Y j) _).mono ?_
            rintro e w2 ⟨rfl, rfl⟩
            by_cases y1 : inT (Y j)
            · have t2 : decide (inT (Y j)) = true := decide_eq_true y1
              by_cases j0 : j = 0
              · subst j0
                have ER := Lib.hid (show errAt X Y 0 = 0 by unfold errAt; rw [if_pos ⟨x1, y1⟩, if_neg (by omega)])
                try rw [show ((0 : Nat) : Int) = 0 from rfl]
                go_wp2_with fail
                have HB2 := Lib.hid HB.out.drew
                refine wp_region_held_drew (S := fun W => True) (by kernel_rfl) trivial (fun hHeld => ?_)
                refine wpAnyH_takeD 0 34 (v := ?_) (by kernel_rfl) (by kernel_rfl) (by kernel_rfl) (by kernel_rfl) (by rfl) (fun _ _ _ h => h) ?_ hHeld ?_
                rotate_left 1
                (intro o ho W hSw; simp only [List.getElem?_toArray, List.getElem?_cons_succ, List.getElem?_cons_zero, Option.some.injEq] at ho; subst ho; (try dsimp only at hSw); go_simp; try with_reducible rfl)
                (try simp only [Act.put, List.setIfInBounds_toArray, List.set_cons_zero, List.set_cons_succ])
                refine wpAnyH_takeD 1 35 (v := ?_) (by kernel_rfl) (by kernel_rfl) (by kernel_rfl) (by kernel_rfl) (by rfl) (fun _ _ _ h => h) ?_ hHeld ?_
                rotate_left 1
                (intro o ho W hSw; simp only [List.getElem?_toArray, List.getElem?_cons_succ, List.getElem?_cons_zero, Option.some.injEq] at ho; subst ho; (try dsimp only at hSw); go_simp; try with_reducible rfl)
                (try simp only [Act.put, List.setIfInBounds_toArray, List.set_cons_zero, List.set_cons_succ])
                refine wpAnyH_takeD 2 36 (v := ?_) (by kernel_rfl) (by kernel_rfl) (by kernel_rfl) (by kernel_rfl) (by rfl) (fun _ _ _ h => h) ?_ hHeld ?_
                rotate_left 1
                (intro o ho W hSw; simp only [List.getElem?_toArray, List.getElem?_cons_succ, List.getElem?_cons_zero, Option.some.injEq] at ho; subst ho; (try dsimp only at hSw); go_simp; try with_reducible rfl)
                (try simp only [Act.put, List.setIfInBounds_toArray, List.set_cons_zero, List.set_cons_succ])
                refine wpAnyH_skipD 3 37 (by kernel_rfl) (by kernel_rfl) (by kernel_rfl) (by kernel_rfl) (by rfl) (fun _ _ _ h => h) hHeld ?_
                (try simp only [Act.put, List.setIfInBounds_toArray, List.set_cons_zero, List.set_cons_succ])
                refine wpAnyH_skipD 4 38 (by kernel_rfl) (by kernel_rfl) (by kernel_rfl) (by kernel_rfl) (by rfl) (fun _ _ _ h => h) hHeld ?_
                (try simp only [Act.put, List.setIfInBounds_toArray, List.set_cons_zero, List.set_cons_succ])
                refine wpAnyH_skipD 5 39 (by kernel_rfl) (by kernel_rfl) (by kernel_rfl) (by kernel_rfl) (by rfl) (fun _ _ _ h => h) hHeld ?_
                (try simp only [Act.put, List.setIfInBounds_toArray, List.set_cons_zero, List.set_cons_succ])
                refine wpAnyH_skipD 6 40 (by kernel_rfl) (by kernel_rfl) (by kernel_rfl) (by kernel_rfl) (by rfl) (fun _ _ _ h => h) hHeld ?_
                (try simp only [Act.put, List.setIfInBounds_toArray, List.set_cons_zero, List.set_cons_succ])
                refine wpAnyH_skipD 7 41 (by kernel_rfl) (by kernel_rfl) (by kernel_rfl) (by kernel_rfl) (by rfl) (fun _ _ _ h => h) hHeld ?_
                (try simp only [Act.put, List.setIfInBounds_toArray, List.set_cons_zero, List.set_cons_succ])
                refine wpAnyH_skipD 8 42 (by kernel_rfl) (by kernel_rfl) (by kernel_rfl) (by kernel_rfl) (by rfl) (fun _ _ _ h => h) hHeld ?_
                (try simp only [Act.put, List.setIfInBounds_toArray, List.set_cons_zero, List.set_cons_succ])
                refine wpAnyH_skipD 9 43 (by kernel_rfl) (by kernel_rfl) (by kernel_rfl) (by kernel_rfl) (by rfl) (fun _ _ _ h => h) hHeld ?_
                (try simp only [Act.put, List.setIfInBounds_toArray, List.set_cons_zero, List.set_cons_succ])
                refine wpAnyH_skipD 10 44 (by kernel_rfl) (by kernel_rfl) (by kernel_rfl) (by kernel_rfl) (by rfl) (fun _ _ _ h => h) hHeld ?_
                (try simp only [Act.put, List.setIfInBounds_toArray, List.set_cons_zero, List.set_cons_succ])
                refine wpAnyH_skipD 11 45 (by kernel_rfl) (by kernel_rfl) (by kernel_rfl) (by kernel_rfl) (by rfl) (fun _ _ _ h => h) hHeld ?_
                (try simp only [Act.put, List.setIfInBounds_toArray, List.set_cons_zero, List.set_cons_succ])
                refine wpAnyH_skipD 12 46 (by kernel_rfl) (by kernel_rfl) (by kernel_rfl) (by kernel_rfl) (by rfl) (fun _ _ _ h => h) hHeld ?_
                (try simp only [Act.put, List.setIfInBounds_toArray, List.set_cons_zero, List.set_cons_succ])
                refine wpAnyH_skipD 13 47 (by kernel_rfl) (by kernel_rfl) (by kernel_rfl) (by kernel_rfl) (by rfl) (fun _ _ _ h => h) hHeld ?_
                (try simp only [Act.put, List.setIfInBounds_toArray, List.set_cons_zero, List.set_cons_succ])
                refine wpAnyH_skipD 14 48 (by kernel_rfl) (by kernel_rfl) (by kernel_rfl) (by kernel_rfl) (by rfl) (fun _ _ _ h => h) hHeld ?_
                (try simp only [Act.put, List.setIfInBounds_toArray, List.set_cons_zero, List.set_cons_succ])
                refine wpAnyH_takeD 15 49 (v := ?_) (by kernel_rfl) (by kernel_rfl) (by kernel_rfl) (by kernel_rfl) (by rfl) (fun _ _ _ h => h) ?_ hHeld ?_
                rotate_left 1
                (intro o ho W hSw; simp only [List.getElem?_toArray, List.getElem?_cons_succ, List.getElem?_cons_zero, Option.some.injEq] at ho; subst ho; (try dsimp only at hSw); go_simp; try with_reducible rfl)
                (try simp only [Act.put, List.setIfInBounds_toArray, List.set_cons_zero, List.set_cons_succ])
                refine wpAnyH_done (by kernel_rfl) ?_ _
                have HR2 := Lib.hid (show rightF X Y k (0 + 1) = R by rw [← HR.out]; symm; show (if errAt X Y (0) = 0 then rightF X Y k (0 + 1) else errAt X Y (0)) = _; rw [if_pos ER.out])
                go_wp2
                go_roundw
                case rel => exact ⟨k, 0 + 1, by omega, by go_num, HR2.out, HB2.out⟩
                case measure => simp [intOf]; omega
              · obtain ⟨i, hij⟩ : ∃ i, i + 1 = j := ⟨j - 1, by omega⟩
                have d0 : w2.cell? ⟨b, off + i * 2, none⟩ = some (.int .i64 (X i)) := by rw [HB.out.cell (p := ⟨b, off + i * 2, none⟩) hb]; exact (hcell i (by omega)).1
                have v1 : IntKind.i64.wrap ((j : Int) - 1) = (i : Int) := by rw [show (j : Int) - 1 = (i : Int) by omega]; exact IntWalk.i64_in _ (by omega)
                have g0 : (0 : Int) < (j : Int) := by omega
                have HB2 := Lib.hid HB.out.drew
                have hi1 : i < len := by omega
                have HE := Lib.hid (show errAt X Y j = if X j ≤ X i then 41 else 0 by
                  unfold errAt; rw [if_pos ⟨x1, y1⟩, show j - 1 = i by omega]
                  by_cases g : X j ≤ X i
                  · rw [if_pos ⟨by omega, g⟩, if_pos g]
                  · rw [if_neg (fun h => g h.2), if_neg g])
                go_wp2_with fail
                refine wp_region_held_drew (S := fun W => W.cell? ⟨b, off + j * 2, none⟩ = some (.int .i64 (X j)) ∧ W.cell? ⟨b, off + i * 2, none⟩ = some (.int .i64 (X i))) (by kernel_rfl) ⟨c0, d0⟩ (fun hHeld => ?_)
                refine wpAnyH_takeD 0 34 (v := ?_) (by kernel_rfl) (by kernel_rfl) (by kernel_rfl) (by kernel_rfl) (by rfl) (fun _ _ _ h => h) ?_ hHeld ?_
                rotate_left 1
                (intro o ho W hSw; simp only [List.getElem?_toArray, List.getElem?_cons_succ, List.getElem?_cons_zero, Option.some.injEq] at ho; subst ho; (try dsimp only at hSw); go_simp; try with_reducible rfl)
                (try simp only [Act.put, List.setIfInBounds_toArray, List.set_cons_zero, List.set_cons_succ])
                refine wpAnyH_takeD 1 35 (v := ?_) (by kernel_rfl) (by kernel_rfl) (by kernel_rfl) (by kernel_rfl) (by rfl) (fun _ _ _ h => h) ?_ hHeld ?_
                rotate_left 1
                (intro o ho W hSw; simp only [List.getElem?_toArray, List.getElem?_cons_succ, List.getElem?_cons_zero, Option.some.injEq] at ho; subst ho; (try dsimp only at hSw); go_simp; try with_reducible rfl)
                (try simp only [Act.put, List.setIfInBounds_toArray, List.set_cons_zero, List.set_cons_succ])
                refine wpAnyH_takeD 2 36 (v := ?_) (by kernel_rfl) (by kernel_rfl) (by kernel_rfl) (by kernel_rfl) (by rfl) (fun _ _ _ h => h) ?_ hHeld ?_
                rotate_left 1
                (intro o ho W hSw; simp only [List.getElem?_toArray, List.getElem?_cons_succ, List.getElem?_cons_zero, Option.some.injEq] at ho; subst ho; (try dsimp only at hSw); go_simp; try with_reducible rfl)
                (try simp only [Act.put, List.setIfInBounds_toArray, List.set_cons_zero, List.set_cons_succ])
                rw [decide_eq_true (show 0 < j by omega)]
                refine wpAnyH_takeD 3 37 (v := ?_) (by kernel_rfl) (by kernel_rfl) (by kernel_rfl) (by kernel_rfl) (by rfl) (fun _ _ _ h => h) ?_ hHeld ?_
                rotate_left 1
                (intro o ho W hSw; simp only [List.getElem?_toArray, List.getElem?_cons_succ, List.getElem?_cons_zero, Option.some.injEq] at ho; subst ho; (try dsimp only at hSw); go_simp; try with_reducible rfl)
                (try simp only [Act.put, List.setIfInBounds_toArray, List.set_cons_zero, List.set_cons_succ])
                refine wpAnyH_takeD 4 38 (v := ?_) (by kernel_rfl) (by kernel_rfl) (by kernel_rfl) (by kernel_rfl) (by rfl) (fun _ _ _ h => h) ?_ hHeld ?_
                rotate_left 1
                (intro o ho W hSw; simp only [List.getElem?_toArray, List.getElem?_cons_succ, List.getElem?_cons_zero, Option.some.injEq] at ho; subst ho; (try dsimp only at hSw); go_simp; try with_reducible rfl)
                (try simp only [Act.put, List.setIfInBounds_toArray, List.set_cons_zero, List.set_cons_succ])
                refine wpAnyH_takeD 5 39 (v := ?_) (by kernel_rfl) (by kernel_rfl) (by kernel_rfl) (by kernel_rfl) (by rfl) (fun _ _ _ h => h) ?_ hHeld ?_
                rotate_left 1
                (intro o ho W hSw; simp only [List.getElem?_toArray, List.getElem?_cons_succ, List.getElem?_cons_zero, Option.some.injEq] at ho; subst ho; (try dsimp only at hSw); go_simp; try with_reducible rfl)
                (try simp only [Act.put, List.setIfInBounds_toArray, List.set_cons_zero, List.set_cons_succ])
                refine wpAnyH_takeD 6 40 (v := ?_) (by kernel_rfl) (by kernel_rfl) (by kernel_rfl) (by kernel_rfl) (by rfl) (fun _ _ _ h => h) ?_ hHeld ?_
                rotate_left 1
                (intro o ho W hSw; simp only [List.getElem?_toArray, List.getElem?_cons_succ, List.getElem?_cons_zero, Option.some.injEq] at ho; subst ho; (try dsimp only at hSw); go_simp; try with_reducible rfl)
                (try simp only [Act.put, List.setIfInBounds_toArray, List.set_cons_zero, List.set_cons_succ])
                refine wpAnyH_takeD 7 41 (v := ?_) (by kernel_rfl) (by kernel_rfl) (by kernel_rfl) (by kernel_rfl) (by rfl) (fun _ _ _ h => h) ?_ hHeld ?_
                rotate_left 1
                (intro o ho W hSw; simp only [List.getElem?_toArray, List.getElem?_cons_succ, List.getElem?_cons_zero, Option.some.injEq] at ho; subst ho; (try dsimp only at hSw); go_simp; try with_reducible rfl)
                (try simp only [Act.put, List.setIfInBounds_toArray, List.set_cons_zero, List.set_cons_succ])
                refine wpAnyH_takeD 8 42 (v := ?_) (by kernel_rfl) (by kernel_rfl) (by kernel_rfl) (by kernel_rfl) (by rfl) (fun _ _ _ h => h) ?_ hHeld ?_
                rotate_left 1
                (intro o ho W hSw; simp only [List.getElem?_toArray, List.getElem?_cons_succ, List.getElem?_cons_zero, Option.some.injEq] at ho; subst ho; (try dsimp only at hSw); go_simp; try with_reducible rfl)
                (try simp only [Act.put, List.setIfInBounds_toArray, List.set_cons_zero, List.set_cons_succ])
                refine wpAnyH_takeD 9 43 (v := ?_) (by kernel_rfl) (by kernel_rfl) (by kernel_rfl) (by kernel_rfl) (by rfl) (fun _ _ _ h => h) ?_ hHeld ?_
                rotate_left 1
                (intro o ho W hSw; simp only [List.getElem?_toArray, List.getElem?_cons_succ, List.getElem?_cons_zero, Option.some.injEq] at ho; subst ho; (try dsimp only at hSw); go_simp; try with_reducible rfl)
                (try simp only [Act.put, List.setIfInBounds_toArray, List.set_cons_zero, List.set_cons_succ])
                refine wpAnyH_takeD 10 44 (v := ?_) (by kernel_rfl) (by kernel_rfl) (by kernel_rfl) (by kernel_rfl) (by rfl) (fun _ _ _ h => h) ?_ hHeld ?_
                rotate_left 1
                (intro o ho W hSw; simp only [List.getElem?_toArray, List.getElem?_cons_succ, List.getElem?_cons_zero, Option.some.injEq] at ho; subst ho; (try dsimp only at hSw); go_simp; try with_reducible rfl)
                (try simp only [Act.put, List.setIfInBounds_toArray, List.set_cons_zero, List.set_cons_succ])
                refine wpAnyH_takeD 11 45 (v := ?_) (by kernel_rfl) (by kernel_rfl) (by kernel_rfl) (by kernel_rfl) (by rfl) (fun _ _ _ h => h) ?_ hHeld ?_
                rotate_left 1
                (intro o ho W hSw; simp only [List.getElem?_toArray, List.getElem?_cons_succ, List.getElem?_cons_zero, Option.some.injEq] at ho; subst ho; (try dsimp only at hSw); go_simp; try with_reducible rfl)
                (try simp only [Act.put, List.setIfInBounds_toArray, List.set_cons_zero, List.set_cons_succ])
                refine wpAnyH_takeD 12 46 (v := ?_) (by kernel_rfl) (by kernel_rfl) (by kernel_rfl) (by kernel_rfl) (by rfl) (fun _ _ _ h => h) ?_ hHeld ?_
                rotate_left 1
                (intro o ho W hSw; simp only [List.getElem?_toArray, List.getElem?_cons_succ, List.getElem?_cons_zero, Option.some.injEq] at ho; subst ho; (try dsimp only at hSw); go_simp; try with_reducible rfl)
                (try simp only [Act.put, List.setIfInBounds_toArray, List.set_cons_zero, List.set_cons_succ])
                refine wpAnyH_takeD 13 47 (v := ?_) (by kernel_rfl) (by kernel_rfl) (by kernel_rfl) (by kernel_rfl) (by rfl) (fun _ _ _ h => h) ?_ hHeld ?_
                rotate_left 1
                (intro o ho W hSw; simp only [List.getElem?_toArray, List.getElem?_cons_succ, List.getElem?_cons_zero, Option.some.injEq] at ho; subst ho; (try dsimp only at hSw); go_simp; try with_reducible rfl)
                (try simp only [Act.put, List.setIfInBounds_toArray, List.set_cons_zero, List.set_cons_succ])
                refine wpAnyH_takeD 14 48 (v := ?_) (by kernel_rfl) (by kernel_rfl) (by kernel_rfl) (by kernel_rfl) (by rfl) (fun _ _ _ h => h) ?_ hHeld ?_
                rotate_left 1
                (intro o ho W hSw; simp only [List.getElem?_toArray, List.getElem?_cons_succ, List.getElem?_cons_zero, Option.some.injEq] at ho; subst ho; (try dsimp only at hSw); go_simp; try with_reducible rfl)
                (try simp only [Act.put, List.setIfInBounds_toArray, List.set_cons_zero, List.set_cons_succ])
                refine wpAnyH_takeD 15 49 (v := ?_) (by kernel_rfl) (by kernel_rfl) (by kernel_rfl) (by kernel_rfl) (by rfl) (fun _ _ _ h => h) ?_ hHeld ?_
                rotate_left 1
                (intro o ho W hSw; simp only [List.getElem?_toArray, List.getElem?_cons_succ, List.getElem?_cons_zero, Option.some.injEq] at ho; subst ho; (try dsimp only at hSw); go_simp; try with_reducible rfl)
                (try simp only [Act.put, List.setIfInBounds_toArray, List.set_cons_zero, List.set_cons_succ])
                refine wpAnyH_done (by kernel_rfl) ?_ _
                clear hHeld
                by_cases g : X j ≤ X i
                · have ER := Lib.hid (HE.out.trans (if_pos g))
                  have EE : (41 : Int) = R := by rw [← HR.out]; symm; show (if errAt X Y (j) = 0 then rightF X Y k (j + 1) else errAt X Y (j)) = _; rw [ER.out]; simp
                  go_wp2
                  go_ret
                  exact ⟨retI EE, HB2.out⟩
                · have ER := Lib.hid (HE.out.trans (if_neg g))
                  have HR2 := Lib.hid (show rightF X Y k (j + 1) = R by rw [← HR.out]; symm; show (if errAt X Y (j) = 0 then rightF X Y k (j + 1) else errAt X Y (j)) = _; rw [if_pos ER.out])
                  go_wp2
                  go_roundw
                  case rel => exact ⟨k, j + 1, by omega, by go_num, HR2.out, HB2.out⟩
                  case measure => simp [intOf]; omega
            · have t2 : decide (inT (Y j)) = false := decide_eq_false y1
              have ER := Lib.hid (show errAt X Y j = 40 by unfold errAt; rw [if_neg (fun h => y1 h.2)])
              have EE : (40 : Int) = R := by rw [← HR.out]; symm; show (if errAt X Y (j) = 0 then rightF X Y k (j + 1) else errAt X Y (j)) = _; rw [ER.out]; simp
              go_wp2
              go_ret
              exact ⟨retI EE, HB.out⟩
          · have t1 : decide (inT (X j)) = false := decide_eq_false x1
            have ER := Lib.hid (show errAt X Y j = 40 by unfold errAt; rw [if_neg (fun h => x1 h.1)])
            have EE : (40 : Int) = R := by rw [← HR.out]; symm; show (if errAt X Y (j) = 0 then rightF X Y k (j + 1) else errAt X Y (j)) = _; rw [ER.out]; simp
            go_wp2
            go_ret
            exact ⟨retI EE, HB.out⟩
end Go.Proofs.Ytnedecpciioghaa
