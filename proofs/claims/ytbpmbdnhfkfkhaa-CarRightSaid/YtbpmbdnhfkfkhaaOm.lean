/- Contracts of the program's table: within, last, Cell, Right, Bound. -/
import Derived.Test.YtbpmbdnhfkfkhaaBp
import Derived.Test.YtbpmbdnhfkfkhaaGp
import Derived.Test.YtbpmbdnhfkfkhaaBj
namespace Go.Proofs.Ytbpmbdnhfkfkhaa
open Go.RowKit
set_option linter.unusedVariables false
set_option linter.unusedSimpArgs false

theorem tWithin_any (n : Int) (w : World) :
    Calls Try.prog 72 #[.int .i64 n] w fun e w' => e = .returned (.bool (decide (inT n))) ∧ w' = w := by
  by_cases h : -4503599627370496 ≤ n
  · have E := Lib.hid (show decide (inT n) = decide (n ≤ 4503599627370496) by rw [decide_eq_decide]; unfold inT; omega)
    rw [E.out]
    go_enter Try.func72, Try.ntmps72
    go_wp2
    go_ret
    exact ⟨retB (by simp [h]), rfl⟩
  · have E := Lib.hid (show decide (inT n) = false by rw [decide_eq_false_iff_not]; unfold inT; omega)
    rw [E.out]
    go_enter Try.func72, Try.ntmps72
    go_wp2
    go_ret
    exact ⟨retB (by simp [h]), rfl⟩
/-- a slice in a box of its own, a number in another -/
structure TB (W : World) (n m : Nat) (v : Value) (x : Int) : Prop where
  c : W.cell? ⟨n, 0, none⟩ = some v
  d : W.cell? ⟨m, 0, none⟩ = some (.int .i64 x)
  nl : n < W.heap.size
  ml : m < W.heap.size
theorem TB.below {B : Nat} {w w' : World} {n m : Nat} {v : Value} {x : Int} (p : TB w n m v x) (h : Below B w w') (hn : n < B) (hm : m < B) : TB w' n m v x :=
  ⟨(h.cell (p := ⟨n, 0, none⟩) hn).trans p.c, (h.cell (p := ⟨m, 0, none⟩) hm).trans p.d, by have := h.size; have := p.nl; omega, by have := h.size; have := p.ml; omega⟩
theorem cellUp_one (X : Nat → Int) (x : Int) {k : Nat} (h : k ≤ 1) : cellUp X x k = 0 := by
  have := cellUp_le X x k; omega
theorem cellUp_yes {X : Nat → Int} {x : Int} {j : Nat} (h : X j ≤ x) : cellUp X x (j + 1) = j := if_pos h
theorem cellUp_no {X : Nat → Int} {x : Int} {j : Nat} (h : ¬ X j ≤ x) : cellUp X x (j + 1) = cellUp X x j := if_neg h
set_option maxHeartbeats 4000000 in
theorem tRight_any (a : Option Addr) (len cap : Nat) (X Y : Nat → Int) (w : World) (hmax : len ≤ 100) (D : Dots w a len cap X Y) :
    Calls Try.prog 53 #[.slice a len cap] w fun e w' => e = .returned (.int .i64 (rightN len X Y)) ∧ Below w.heap.size w w' := by
  have HD := Lib.hid D
  clear D
  by_cases c : len < 2
  · have E := Lib.hid (show rightN len X Y = 42 by unfold rightN; rw [if_pos (Or.inl c)])
    rw [E.out]
    go_enter Try.func53, Try.ntmps53
    go_wp2
    go_ret
    exact ⟨rfl, by repeat (first | exact Below.refl _ _ | assumption | refine Below.setCell ?_ (by first | omega | (simp; done) | (simp; omega)) _ | refine Below.alloc ?_ (by first | omega | (simp; done) | (simp; omega)) _ | refine below_drewN ?_ _ | refine Below.drew ?_ | refine Below.trans ?_ (Below.mono (by assumption) (by first | omega | (simp; done) | (simp; omega))))⟩
  · by_cases c2 : 32 < len
    · have E := Lib.hid (show rightN len X Y = 42 by unfold rightN; rw [if_pos (Or.inr c2)])
      rw [E.out]
      go_enter Try.func53, Try.ntmps53
      go_wp2
      go_ret
      exact ⟨rfl, by repeat (first | exact Below.refl _ _ | assumption | refine Below.setCell ?_ (by first | omega | (simp; done) | (simp; omega)) _ | refine Below.alloc ?_ (by first | omega | (simp; done) | (simp; omega)) _ | refine below_drewN ?_ _ | refine Below.drew ?_ | refine Below.trans ?_ (Below.mono (by assumption) (by first | omega | (simp; done) | (simp; omega))))⟩
    · obtain ⟨R, hR⟩ : ∃ R, rightF X Y len 0 = R := ⟨_, rfl⟩
      have E := Lib.hid (show rightN len X Y = R by unfold rightN; rw [if_neg (by omega)]; exact hR)
      rw [E.out]
      have HR := Lib.hid hR
      clear hR E
      go_enter Try.func53, Try.ntmps53
      go_wp2
      go_loopw [15] (fun i wr => ∃ (k j : Nat), k + j = len ∧ i = .int .i64 j ∧ rightF X Y k j = R ∧ Below w.heap.size w wr) (fun i _ => len - (intOf i).toNat)
      case atStart => exact ⟨len, 0, by omega, rfl, HR.out, Below.refl _ _⟩
      case round =>
        clear HR
        obtain ⟨kk, j, hj, rfl, HR, HB⟩ := hrel
        have HR := Lib.hid HR
        have HB := Lib.hid HB
        cases kk with
        | zero =>
          have EE : (0 : Int) = R := HR.out
          have hje : j = len := by omega
          go_wp2
          go_ret
          exact ⟨retI EE, HB.out⟩
        | succ k =>
          have hlt : j < len := by omega
          have sz := HB.out.size
          obtain ⟨b, off, rfl, hb, hcell⟩ := HD.out.at' (by omega)
          have c0 : wr.cell? ⟨b, off + j * 2, none⟩ = some (.int .i64 (X j)) := by rw [HB.out.cell (p := ⟨b, off + j * 2, none⟩) hb]; exact (hcell j hlt).1
          have c1 : wr.cell? ⟨b, off + j * 2 + 1, none⟩ = some (.int .i64 (Y j)) := by rw [HB.out.cell (p := ⟨b, off + j * 2 + 1, none⟩) hb]; exact (hcell j hlt).2
          go_wp2_with fail
          refine calls_gen (S := fun W => BW W wr.heap.size [.int .i64 (X j), .int .i64 (Y j)] ∧ Below w.heap.size w W) ⟨BW.new _ _ [_, _] _ rfl, HB.out.alloc sz _⟩ (fun W1 hS => ?_)
          clear c0 c1
          have HP := Lib.hid hS.1
          have HB1 := Lib.hid hS.2
          have p0 := hS.1.c 0 _ rfl
          have p1 := hS.1.c 1 _ rfl
          clear hS
          refine (tWithin_any (X j) _).mono ?_
          rintro e w1 ⟨rfl, rfl⟩
          by_cases x1 : inT (X j)
          · have t1 : decide (inT (X j)) = true := decide_eq_true x1
            go_wp2_with fail
            refine (tWithin_any (Y j) _).mono ?_
            rintro e w2 ⟨rfl, rfl⟩
            by_cases y1 : inT (Y j)
            · have t2 : decide (inT (Y j)) = true := decide_eq_true y1
              by_cases j0 : j = 0
              · subst j0
                have ER := Lib.hid (show errAt X Y 0 = 0 by unfold errAt; rw [if_pos ⟨x1, y1⟩, if_neg (by omega)])
                try rw [show ((0 : Nat) : Int) = 0 from rfl]
                go_wp2_with fail
                have HB2 := Lib.hid HB1.out.drew
                refine wp_region_held_drew (S := fun W => True) (by kernel_rfl) trivial (fun hHeld => ?_)
                refine tkD 0 32 (v := ?_) ?_ hHeld ?_
                rotate_left 1
                (intro W hSw; (try dsimp only at hSw); go_simp; try with_reducible rfl)
                (try simp only [putA, putB, putC, putD])
                refine tkD 1 33 (v := ?_) ?_ hHeld ?_
                rotate_left 1
                (intro W hSw; (try dsimp only at hSw); go_simp; try with_reducible rfl)
                (try simp only [putA, putB, putC, putD])
                refine tkD 2 34 (v := ?_) ?_ hHeld ?_
                rotate_left 1
                (intro W hSw; (try dsimp only at hSw); go_simp; try with_reducible rfl)
                (try simp only [putA, putB, putC, putD])
                refine wpAnyH_skipD 3 35 (by kernel_rfl) (by kernel_rfl) (by kernel_rfl) (by kernel_rfl) (by rfl) (fun _ _ _ h => h) hHeld ?_
                (try simp only [putA, putB, putC, putD])
                refine wpAnyH_skipD 4 36 (by kernel_rfl) (by kernel_rfl) (by kernel_rfl) (by kernel_rfl) (by rfl) (fun _ _ _ h => h) hHeld ?_
                (try simp only [putA, putB, putC, putD])
                refine wpAnyH_skipD 5 37 (by kernel_rfl) (by kernel_rfl) (by kernel_rfl) (by kernel_rfl) (by rfl) (fun _ _ _ h => h) hHeld ?_
                (try simp only [putA, putB, putC, putD])
                refine wpAnyH_skipD 6 38 (by kernel_rfl) (by kernel_rfl) (by kernel_rfl) (by kernel_rfl) (by rfl) (fun _ _ _ h => h) hHeld ?_
                (try simp only [putA, putB, putC, putD])
                refine wpAnyH_skipD 7 39 (by kernel_rfl) (by kernel_rfl) (by kernel_rfl) (by kernel_rfl) (by rfl) (fun _ _ _ h => h) hHeld ?_
                (try simp only [putA, putB, putC, putD])
                refine wpAnyH_skipD 8 40 (by kernel_rfl) (by kernel_rfl) (by kernel_rfl) (by kernel_rfl) (by rfl) (fun _ _ _ h => h) hHeld ?_
                (try simp only [putA, putB, putC, putD])
                refine wpAnyH_skipD 9 41 (by kernel_rfl) (by kernel_rfl) (by kernel_rfl) (by kernel_rfl) (by rfl) (fun _ _ _ h => h) hHeld ?_
                (try simp only [putA, putB, putC, putD])
                refine wpAnyH_skipD 10 42 (by kernel_rfl) (by kernel_rfl) (by kernel_rfl) (by kernel_rfl) (by rfl) (fun _ _ _ h => h) hHeld ?_
                (try simp only [putA, putB, putC, putD])
                refine wpAnyH_skipD 11 43 (by kernel_rfl) (by kernel_rfl) (by kernel_rfl) (by kernel_rfl) (by rfl) (fun _ _ _ h => h) hHeld ?_
                (try simp only [putA, putB, putC, putD])
                refine tkD 12 44 (v := ?_) ?_ hHeld ?_
                rotate_left 1
                (intro W hSw; (try dsimp only at hSw); go_simp; try with_reducible rfl)
                (try simp only [putA, putB, putC, putD])
                refine tkD 13 31 (v := ?_) ?_ hHeld ?_
                rotate_left 1
                (intro W hSw; (try dsimp only at hSw); go_simp; try with_reducible rfl)
                (try simp only [putA, putB, putC, putD])
                refine wpAnyH_done (by kernel_rfl) ?_ _
                have HR2 := Lib.hid (show rightF X Y k (0 + 1) = R by rw [← HR.out]; symm; show (if errAt X Y (0) = 0 then rightF X Y k (0 + 1) else errAt X Y (0)) = _; rw [if_pos ER.out])
                go_wp2
                go_roundw
                case rel => exact ⟨k, 0 + 1, by omega, by go_num, HR2.out, HB2.out⟩
                case measure => simp [intOf]; omega
              · obtain ⟨i, hij⟩ : ∃ i, i + 1 = j := ⟨j - 1, by omega⟩
                have d0 : w2.cell? ⟨b, off + i * 2, none⟩ = some (.int .i64 (X i)) := by rw [HB1.out.cell (p := ⟨b, off + i * 2, none⟩) hb]; exact (hcell i (by omega)).1
                have v1 : IntKind.i64.wrap ((j : Int) - 1) = (i : Int) := by rw [show (j : Int) - 1 = (i : Int) by omega]; exact IntWalk.i64_in _ (by omega)
                have g0 : (0 : Int) < (j : Int) := by omega
                have HB2 := Lib.hid HB1.out.drew
                have hi1 : i < len := by omega
                have HE := Lib.hid (show errAt X Y j = if X j ≤ X i then 41 else 0 by
                  unfold errAt; rw [if_pos ⟨x1, y1⟩, show j - 1 = i by omega]
                  by_cases g : X j ≤ X i
                  · rw [if_pos ⟨by omega, g⟩, if_pos g]
                  · rw [if_neg (fun h => g h.2), if_neg g])
                go_wp2_with fail
                refine wp_region_held_drew (S := fun W => W.cell? ⟨wr.heap.size, 0, none⟩ = some (.int .i64 (X j)) ∧ W.cell? ⟨b, off + i * 2, none⟩ = some (.int .i64 (X i))) (by kernel_rfl) ⟨p0, d0⟩ (fun hHeld => ?_)
                refine tkD 0 32 (v := ?_) ?_ hHeld ?_
                rotate_left 1
                (intro W hSw; (try dsimp only at hSw); go_simp; try with_reducible rfl)
                (try simp only [putA, putB, putC, putD])
                refine tkD 1 33 (v := ?_) ?_ hHeld ?_
                rotate_left 1
                (intro W hSw; (try dsimp only at hSw); go_simp; try with_reducible rfl)
                (try simp only [putA, putB, putC, putD])
                refine tkD 2 34 (v := ?_) ?_ hHeld ?_
                rotate_left 1
                (intro W hSw; (try dsimp only at hSw); go_simp; try with_reducible rfl)
                (try simp only [putA, putB, putC, putD])
                rw [decide_eq_true (show 0 < j by omega)]
                refine tkD 3 35 (v := ?_) ?_ hHeld ?_
                rotate_left 1
                (intro W hSw; (try dsimp only at hSw); go_simp; try with_reducible rfl)
                (try simp only [putA, putB, putC, putD])
                refine tkD 4 36 (v := ?_) ?_ hHeld ?_
                rotate_left 1
                (intro W hSw; (try dsimp only at hSw); go_simp; try with_reducible rfl)
                (try simp only [putA, putB, putC, putD])
                refine tkD 5 37 (v := ?_) ?_ hHeld ?_
                rotate_left 1
                (intro W hSw; (try dsimp only at hSw); go_simp; try with_reducible rfl)
                (try simp only [putA, putB, putC, putD])
                refine tkD 6 38 (v := ?_) ?_ hHeld ?_
                rotate_left 1
                (intro W hSw; (try dsimp only at hSw); go_simp; try with_reducible rfl)
                (try simp only [putA, putB, putC, putD])
                refine tkD 7 39 (v := ?_) ?_ hHeld ?_
                rotate_left 1
                (intro W hSw; (try dsimp only at hSw); go_simp; try with_reducible rfl)
                (try simp only [putA, putB, putC, putD])
                refine tkD 8 40 (v := ?_) ?_ hHeld ?_
                rotate_left 1
                (intro W hSw; (try dsimp only at hSw); go_simp; try with_reducible rfl)
                (try simp only [putA, putB, putC, putD])
                refine tkD 9 41 (v := ?_) ?_ hHeld ?_
                rotate_left 1
                (intro W hSw; (try dsimp only at hSw); go_simp; try with_reducible rfl)
                (try simp only [putA, putB, putC, putD])
                refine tkD 10 42 (v := ?_) ?_ hHeld ?_
                rotate_left 1
                (intro W hSw; (try dsimp only at hSw); go_simp; try with_reducible rfl)
                (try simp only [putA, putB, putC, putD])
                refine tkD 11 43 (v := ?_) ?_ hHeld ?_
                rotate_left 1
                (intro W hSw; (try dsimp only at hSw); go_simp; try with_reducible rfl)
                (try simp only [putA, putB, putC, putD])
                refine tkD 12 44 (v := ?_) ?_ hHeld ?_
                rotate_left 1
                (intro W hSw; (try dsimp only at hSw); go_simp; try with_reducible rfl)
                (try simp only [putA, putB, putC, putD])
                refine tkD 13 31 (v := ?_) ?_ hHeld ?_
                rotate_left 1
                (intro W hSw; (try dsimp only at hSw); go_simp; try with_reducible rfl)
                (try simp only [putA, putB, putC, putD])
                refine wpAnyH_done (by kernel_rfl) ?_ _
                clear hHeld
                by_cases g : X j ≤ X i
                · have ER := Lib.hid (HE.out.trans (if_pos g))
                  have EE : (41 : Int) = R := by rw [← HR.out]; symm; show (if errAt X Y (j) = 0 then rightF X Y k (j + 1) else errAt X Y (j)) = _; rw [ER.out]; simp
                  go_wp2
                  go_ret
                  exact ⟨retI EE, HB2.out⟩
                · have ER := Lib.hid (HE.out.trans (if_neg g))
                  have HR2 := Lib.hid (show rightF X Y k (j + 1) = R by rw [← HR.out]; symm; show (if errAt X Y (j) = 0 then rightF X Y k (j + 1) else errAt X Y (j)) = _; rw [if_pos ER.out])
                  go_wp2
                  go_roundw
                  case rel => exact ⟨k, j + 1, by omega, by go_num, HR2.out, HB2.out⟩
                  case measure => simp [intOf]; omega
            · have t2 : decide (inT (Y j)) = false := decide_eq_false y1
              have ER := Lib.hid (show errAt X Y j = 40 by unfold errAt; rw [if_neg (fun h => y1 h.2)])
              have EE : (40 : Int) = R := by rw [← HR.out]; symm; show (if errAt X Y (j) = 0 then rightF X Y k (j + 1) else errAt X Y (j)) = _; rw [ER.out]; simp
              go_wp2
              go_ret
              exact ⟨retI EE, HB1.out⟩
          · have t1 : decide (inT (X j)) = false := decide_eq_false x1
            have ER := Lib.hid (show errAt X Y j = 40 by unfold errAt; rw [if_neg (fun h => x1 h.1)])
            have EE : (40 : Int) = R := by rw [← HR.out]; symm; show (if errAt X Y (j) = 0 then rightF X Y k (j + 1) else errAt X Y (j)) = _; rw [ER.out]; simp
            go_wp2
            go_ret
            exact ⟨retI EE, HB1.out⟩
theorem tabs_fit {y : Int} (h : inT y) : absF y = if y < 0 then -y else y := by
  unfold inT at h
  unfold absF subF
  by_cases c : y < 0
  · rw [if_pos c, if_pos c, (clip64_of (n := 0 - y) (by unfold In64; omega)).1]; omega
  · rw [if_neg c, if_neg c]
end Go.Proofs.Ytbpmbdnhfkfkhaa
