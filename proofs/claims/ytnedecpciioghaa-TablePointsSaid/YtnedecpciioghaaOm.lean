/- Contracts of the program's table: within, last, Cell, Right, Bound. -/
import Derived.Test.YtnedecpciioghaaOe
import Derived.Test.YtnedecpciioghaaGp
import Derived.Test.YtnedecpciioghaaKz
namespace Go.Proofs.Ytnedecpciioghaa
open Go.RowKit
set_option linter.unusedVariables false
set_option linter.unusedSimpArgs false

theorem tWithin_any (n : Int) (w : World) :
    Calls Try.prog 18 #[.int .i64 n] w fun e w' => e = .returned (.bool (decide (inT n))) ∧ w' = w := by
  by_cases h : -4503599627370496 ≤ n
  · have E := Lib.hid (show decide (inT n) = decide (n ≤ 4503599627370496) by rw [decide_eq_decide]; unfold inT; omega)
    rw [E.out]
    go_enter Try.func18, Try.ntmps18
    go_wp2
    go_ret
    exact ⟨retB (by simp [h]), rfl⟩
  · have E := Lib.hid (show decide (inT n) = false by rw [decide_eq_false_iff_not]; unfold inT; omega)
    rw [E.out]
    go_enter Try.func18, Try.ntmps18
    go_wp2
    go_ret
    exact ⟨retB (by simp [h]), rfl⟩
/-- a slice in a box of its own, a number in another -/
structure TB (W : World) (n m : Nat) (v : Value) (x : Int) : Prop where
  c : W.cell? ⟨n, 0, none⟩ = some v
  d : W.cell? ⟨m, 0, none⟩ = some (.int .i64 x)
  nl : n < W.heap.size
  ml : m < W.heap.size
theorem TB.below {B : Nat} {w w' : World} {n m : Nat} {v : Value} {x : Int} (p : TB w n m v x) (h : Below B w w') (hn : n < B) (hm : m < B) : TB w' n m v x :=
  ⟨(h.cell (p := ⟨n, 0, none⟩) hn).trans p.c, (h.cell (p := ⟨m, 0, none⟩) hm).trans p.d, by have := h.size; have := p.nl; omega, by have := h.size; have := p.ml; omega⟩
set_option maxHeartbeats 1000000 in
theorem tCellF_any (a : Option Addr) (len cap : Nat) (X Y : Nat → Int) (x : Int) (i n m : Nat) (w : World) (hi : i < len) (D : Dots w a len cap X Y) (T : TB w n m (.slice a len cap) x) :
    Calls Try.prog 21 #[.int .i64 i, .pointer (some ⟨n, 0, none⟩), .pointer (some ⟨m, 0, none⟩)] w fun e w' => e = .returned (.bool (decide (X i ≤ x))) ∧ Below w.heap.size w w' := by
  obtain ⟨b, off, rfl, hb, hcell⟩ := D.at' (by omega)
  have c0 := (hcell i hi).1
  have tc := T.c
  have td := T.d
  clear hcell D T
  go_enter Try.func21, Try.ntmps21
  go_wp2_with fail
  go_quiet (fail)
  go_wp2
  go_ret
  exact ⟨rfl, by repeat (first | exact Below.refl _ _ | assumption | refine Below.setCell ?_ (by first | omega | (simp; done) | (simp; omega)) _ | refine Below.alloc ?_ (by first | omega | (simp; done) | (simp; omega)) _ | refine below_drewN ?_ _ | refine Below.drew ?_ | refine Below.trans ?_ (Below.mono (by assumption) (by first | omega | (simp; done) | (simp; omega))))⟩
theorem cellUp_one (X : Nat → Int) (x : Int) {k : Nat} (h : k ≤ 1) : cellUp X x k = 0 := by
  have := cellUp_le X x k; omega
theorem cellUp_yes {X : Nat → Int} {x : Int} {j : Nat} (h : X j ≤ x) : cellUp X x (j + 1) = j := if_pos h
theorem cellUp_no {X : Nat → Int} {x : Int} {j : Nat} (h : ¬ X j ≤ x) : cellUp X x (j + 1) = cellUp X x j := if_neg h
set_option maxHeartbeats 2000000 in
set_option maxRecDepth 100000 in
/-- last: places are asked from the last one down to the second -/
theorem tLast_any (g : Nat) (cb : Array Value) (k : Nat) (X : Nat → Int) (x kk : Int) (w : World) (eg : ∀ args w, (callFunc g args).run Try.prog w = .ok (.enter g args) w) (hk : kk = k ∨ (k = 0 ∧ kk = -1)) (hsz : k < 1000)
    (hf : ∀ (i : Nat) (wr : World), i < k → Below w.heap.size w wr → Calls Try.prog g (#[.int .i64 i] ++ cb) wr fun e w' => e = .returned (.bool (decide (X i ≤ x))) ∧ Below wr.heap.size wr w') :
    Calls Try.prog 20 #[.int .i64 kk, .func (.func g) #[] cb] w fun e w' => e = .returned (.int .i64 (cellUp X x k)) ∧ Below w.heap.size w w' := by
  have HF := Lib.hid hf
  obtain ⟨R, hR⟩ : ∃ R, cellUp X x k = R := ⟨_, rfl⟩
  have k0 : -1 ≤ kk := by omega
  have k1 : kk < 1000 := by omega
  have S := Lib.hid (show (kk - 1 ≤ 0 → R = 0) ∧ (∀ j : Nat, kk - 1 = j → 0 < j → j < k ∧ cellUp X x (j + 1) = R) from
    ⟨fun h => by rw [← hR]; exact cellUp_one X x (by omega), fun j h h0 => by
      have e : k = j + 1 := by omega
      exact ⟨by omega, by rw [← hR, e]⟩⟩)
  rw [hR]
  clear hf hk hR
  go_enter Try.func20, Try.ntmps20
  go_wp2
  go_loopw [5] (fun i wr => ∃ z : Int, i = .int .i64 z ∧ -2 ≤ z ∧ z < 1000 ∧ Hid ((z ≤ 0 → R = 0) ∧ (∀ j : Nat, z = j → 0 < j → j < k ∧ cellUp X x (j + 1) = R)) ∧ Below w.heap.size w wr) (fun i _ => (intOf i + 2).toNat)
  case atStart => exact ⟨kk - 1, rfl, by omega, by omega, S.out, Below.refl _ _⟩
  case round =>
    obtain ⟨z, rfl, z0, z1, H, B⟩ := hrel
    clear S
    by_cases hz : 0 < z
    · obtain ⟨j, rfl⟩ : ∃ j : Nat, z = j := ⟨z.toNat, by omega⟩
      have hj := H.out.2 j rfl (by omega)
      have hc := HF.out j wr hj.1 B
      have hj1 := hj.1
      have HB := Lib.hid B
      clear B H
      by_cases c : X j ≤ x
      · rw [decide_eq_true c] at hc
        have E := Lib.hid (show j = R by rw [← hj.2, cellUp_yes c])
        clear hj c
        go_wp2_with (go_at_fn g; refine hc.mono ?_; rintro e w' ⟨rfl, hb⟩)
        go_ret
        exact ⟨by rw [← E.out]; rfl, HB.out.trans (hb.mono HB.out.size)⟩
      · rw [decide_eq_false c] at hc
        have E := Lib.hid (show ((j : Int) - 1 ≤ 0 → R = 0) ∧ (∀ i : Nat, (j : Int) - 1 = i → 0 < i → i < k ∧ cellUp X x (i + 1) = R) from
          ⟨fun h => by rw [← hj.2, cellUp_no c]; exact cellUp_one X x (by omega), fun i h h0 => by
            have e : j = i + 1 := by omega
            exact ⟨by omega, by rw [← hj.2, cellUp_no c, e]⟩⟩)
        clear hj c
        go_wp2_with (go_at_fn g; refine hc.mono ?_; rintro e w' ⟨rfl, hb⟩)
        go_roundw
        case rel => exact ⟨(j : Int) - 1, rfl, by omega, by omega, E.out, HB.out.trans (hb.mono HB.out.size)⟩
        case measure => simp [intOf]; omega
    · have E := Lib.hid (show (0 : Nat) = R from (H.out.1 (by omega)).symm)
      go_wp2
      go_ret
      exact ⟨by rw [← E.out]; rfl, B⟩
set_option maxHeartbeats 1000000 in
theorem tCell_any (a : Option Addr) (len cap : Nat) (X Y : Nat → Int) (x : Int) (w : World) (hmax : len ≤ 100) (hx : In64 x) (D : Dots w a len cap X Y) :
    Calls Try.prog 13 #[.slice a len cap, .int .i64 x] w fun e w' => e = .returned (.int .i64 (cellUp X x (len - 1))) ∧ Below w.heap.size w w' := by
  have HD := Lib.hid D
  have hmf : ∀ (fn : Fn) (first cap : Array Value) (w : World), (Instr.makeFunc fn first cap).run Try.prog w = .ok (.func fn first cap) w := fun _ _ _ _ => rfl
  have KK := Lib.hid (show (len : Int) - 1 = ((len - 1 : Nat) : Int) ∨ (len - 1 = 0 ∧ (len : Int) - 1 = -1) by omega)
  clear D
  go_enter Try.func13, Try.ntmps13
  go_wp2_with fail
  refine calls_gen (S := fun W => TB W w.heap.size (w.heap.size + 1) (.slice a len cap) x ∧ Below w.heap.size w W) ⟨⟨by go_simp, by go_simp, by simp; omega, by simp⟩, by repeat (first | exact Below.refl _ _ | assumption | refine Below.setCell ?_ (by first | omega | (simp; done) | (simp; omega)) _ | refine Below.alloc ?_ (by first | omega | (simp; done) | (simp; omega)) _ | refine below_drewN ?_ _ | refine Below.drew ?_ | refine Below.trans ?_ (Below.mono (by assumption) (by first | omega | (simp; done) | (simp; omega))))⟩ (fun W0 hS => ?_)
  have T0 := Lib.hid hS.1
  have B0 := Lib.hid hS.2
  clear hS
  refine (tLast_any 21 #[.pointer (some ⟨w.heap.size, 0, none⟩), .pointer (some ⟨w.heap.size + 1, 0, none⟩)] (len - 1) X x _ _ (fun _ _ => rfl) KK.out (by omega) (fun i wr hi hb => tCellF_any a len cap X Y x i _ _ wr (by omega) (HD.out.below (B0.out.trans (hb.mono B0.out.size)) (Nat.le_refl _)) (T0.out.below hb (by have := T0.out.ml; omega) T0.out.ml))).mono ?_
  rintro e w1 ⟨rfl, h⟩
  have B1 := Lib.hid (B0.out.trans (h.mono B0.out.size))
  clear h B0 T0
  go_wp2
  go_ret
  exact ⟨rfl, B1.out⟩
set_option maxHeartbeats 4000000 in
theorem tRight_any (a : Option Addr) (len cap : Nat) (X Y : Nat → Int) (w : World) (hmax : len ≤ 100) (D : Dots w a len cap X Y) :
    Calls Try.prog 8 #[.slice a len cap] w fun e w' => e = .returned (.int .i64 (rightN len X Y)) ∧ Below w.heap.size w w' := by
  have HD := Lib.hid D
  clear D
  by_cases c : len < 2
  · have E := Lib.hid (show rightN len X Y = 42 by unfold rightN; rw [if_pos (Or.inl c)])
    rw [E.out]
    go_enter Try.func8, Try.ntmps8
    go_wp2
    go_ret
    exact ⟨rfl, by repeat (first | exact Below.refl _ _ | assumption | refine Below.setCell ?_ (by first | omega | (simp; done) | (simp; omega)) _ | refine Below.alloc ?_ (by first | omega | (simp; done) | (simp; omega)) _ | refine below_drewN ?_ _ | refine Below.drew ?_ | refine Below.trans ?_ (Below.mono (by assumption) (by first | omega | (simp; done) | (simp; omega))))⟩
  · by_cases c2 : 32 < len
    · have E := Lib.hid (show rightN len X Y = 42 by unfold rightN; rw [if_pos (Or.inr c2)])
      rw [E.out]
      go_enter Try.func8, Try.ntmps8
      go_wp2
      go_ret
      exact ⟨rfl, by repeat (first | exact Below.refl _ _ | assumption | refine Below.setCell ?_ (by first | omega | (simp; done) | (simp; omega)) _ | refine Below.alloc ?_ (by first | omega | (simp; done) | (simp; omega)) _ | refine below_drewN ?_ _ | refine Below.drew ?_ | refine Below.trans ?_ (Below.mono (by assumption) (by first | omega | (simp; done) | (simp; omega))))⟩
    · obtain ⟨R, hR⟩ : ∃ R, rightF X Y len 0 = R := ⟨_, rfl⟩
      have E := Lib.hid (show rightN len X Y = R by unfold rightN; rw [if_neg (by omega)]; exact hR)
      rw [E.out]
      have HR := Lib.hid hR
      clear hR E
      go_enter Try.func8, Try.ntmps8
      go_wp2
      go_loopw [15] (fun i wr => ∃ (k j : Nat), k + j = len ∧ i = .int .i64 j ∧ rightF X Y k j = R ∧ Below w.heap.size w wr) (fun i _ => len - (intOf i).toNat)
      case atStart => exact ⟨len, 0, by omega, rfl, HR.out, Below.refl _ _⟩
      case round =>
        clear HR
        obtain ⟨kk, j, hj, rfl, HR, HB⟩ := hrel
        have HR := Lib.hid HR
        have HB := Lib.hid HB
        cases kk with
        | zero =>
          have EE : (0 : Int) = R := HR.out
          have hje : j = len := by omega
          go_wp2
          go_ret
          exact ⟨retI EE, HB.out⟩
        | succ k =>
          have hlt : j < len := by omega
          have sz := HB.out.size
          obtain ⟨b, off, rfl, hb, hcell⟩ := HD.out.at' (by omega)
          have c0 : wr.cell? ⟨b, off + j * 2, none⟩ = some (.int .i64 (X j)) := by rw [HB.out.cell (p := ⟨b, off + j * 2, none⟩) hb]; exact (hcell j hlt).1
          have c1 : wr.cell? ⟨b, off + j * 2 + 1, none⟩ = some (.int .i64 (Y j)) := by rw [HB.out.cell (p := ⟨b, off + j * 2 + 1, none⟩) hb]; exact (hcell j hlt).2
          go_wp2_with fail
          refine calls_gen (S := fun W => BW W wr.heap.size [.int .i64 (X j), .int .i64 (Y j)] ∧ Below w.heap.size w W) ⟨BW.new _ _ [_, _] _ rfl, HB.out.alloc sz _⟩ (fun W1 hS => ?_)
          clear c0 c1
          have HP := Lib.hid hS.1
          have HB1 := Lib.hid hS.2
          have p0 := hS.1.c 0 _ rfl
          have p1 := hS.1.c 1 _ rfl
          clear hS
          refine (tWithin_any (X j) _).mono ?_
          rintro e w1 ⟨rfl, rfl⟩
          by_cases x1 : inT (X j)
          · have t1 : decide (inT (X j)) = true := decide_eq_true x1
            go_wp2_with fail
            refine (tWithin_any (Y j) _).mono ?_
            rintro e w2 ⟨rfl, rfl⟩
            by_cases y1 : inT (Y j)
            · have t2 : decide (inT (Y j)) = true := decide_eq_true y1
              by_cases j0 : j = 0
              · subst j0
                have ER := Lib.hid (show errAt X Y 0 = 0 by unfold errAt; rw [if_pos ⟨x1, y1⟩, if_neg (by omega)])
                try rw [show ((0 : Nat) : Int) = 0 from rfl]
                go_wp2_with fail
                have HB2 := Lib.hid HB1.out.drew
                refine wp_region_held_drew (S := fun W => True) (by kernel_rfl) trivial (fun hHeld => ?_)
                refine wpAnyH_takeD 0 32 (v := ?_) (by kernel_rfl) (by kernel_rfl) (by kernel_rfl) (by kernel_rfl) (by rfl) (fun _ _ _ h => h) ?_ hHeld ?_
                rotate_left 1
                (intro o ho W hSw; simp only [List.getElem?_toArray, List.getElem?_cons_succ, List.getElem?_cons_zero, Option.some.injEq] at ho; subst ho; (try dsimp only at hSw); go_simp; try with_reducible rfl)
                (try simp only [Act.put, List.setIfInBounds_toArray, List.set_cons_zero, List.set_cons_succ])
                refine wpAnyH_takeD 1 33 (v := ?_) (by kernel_rfl) (by kernel_rfl) (by kernel_rfl) (by kernel_rfl) (by rfl) (fun _ _ _ h => h) ?_ hHeld ?_
                rotate_left 1
                (intro o ho W hSw; simp only [List.getElem?_toArray, List.getElem?_cons_succ, List.getElem?_cons_zero, Option.some.injEq] at ho; subst ho; (try dsimp only at hSw); go_simp; try with_reducible rfl)
                (try simp only [Act.put, List.setIfInBounds_toArray, List.set_cons_zero, List.set_cons_succ])
                refine wpAnyH_takeD 2 34 (v := ?_) (by kernel_rfl) (by kernel_rfl) (by kernel_rfl) (by kernel_rfl) (by rfl) (fun _ _ _ h => h) ?_ hHeld ?_
                rotate_left 1
                (intro o ho W hSw; simp only [List.getElem?_toArray, List.getElem?_cons_succ, List.getElem?_cons_zero, Option.some.injEq] at ho; subst ho; (try dsimp only at hSw); go_simp; try with_reducible rfl)
                (try simp only [Act.put, List.setIfInBounds_toArray, List.set_cons_zero, List.set_cons_succ])
                refine wpAnyH_skipD 3 35 (by kernel_rfl) (by kernel_rfl) (by kernel_rfl) (by kernel_rfl) (by rfl) (fun _ _ _ h => h) hHeld ?_
                (try simp only [Act.put, List.setIfInBounds_toArray, List.set_cons_zero, List.set_cons_succ])
                refine wpAnyH_skipD 4 36 (by kernel_rfl) (by kernel_rfl) (by kernel_rfl) (by kernel_rfl) (by rfl) (fun _ _ _ h => h) hHeld ?_
                (try simp only [Act.put, List.setIfInBounds_toArray, List.set_cons_zero, List.set_cons_succ])
                refine wpAnyH_skipD 5 37 (by kernel_rfl) (by kernel_rfl) (by kernel_rfl) (by kernel_rfl) (by rfl) (fun _ _ _ h => h) hHeld ?_
                (try simp only [Act.put, List.setIfInBounds_toArray, List.set_cons_zero, List.set_cons_succ])
                refine wpAnyH_skipD 6 38 (by kernel_rfl) (by kernel_rfl) (by kernel_rfl) (by kernel_rfl) (by rfl) (fun _ _ _ h => h) hHeld ?_
                (try simp only [Act.put, List.setIfInBounds_toArray, List.set_cons_zero, List.set_cons_succ])
                refine wpAnyH_skipD 7 39 (by kernel_rfl) (by kernel_rfl) (by kernel_rfl) (by kernel_rfl) (by rfl) (fun _ _ _ h => h) hHeld ?_
                (try simp only [Act.put, List.setIfInBounds_toArray, List.set_cons_zero, List.set_cons_succ])
                refine wpAnyH_skipD 8 40 (by kernel_rfl) (by kernel_rfl) (by kernel_rfl) (by kernel_rfl) (by rfl) (fun _ _ _ h => h) hHeld ?_
                (try simp only [Act.put, List.setIfInBounds_toArray, List.set_cons_zero, List.set_cons_succ])
                refine wpAnyH_skipD 9 41 (by kernel_rfl) (by kernel_rfl) (by kernel_rfl) (by kernel_rfl) (by rfl) (fun _ _ _ h => h) hHeld ?_
                (try simp only [Act.put, List.setIfInBounds_toArray, List.set_cons_zero, List.set_cons_succ])
                refine wpAnyH_skipD 10 42 (by kernel_rfl) (by kernel_rfl) (by kernel_rfl) (by kernel_rfl) (by rfl) (fun _ _ _ h => h) hHeld ?_
                (try simp only [Act.put, List.setIfInBounds_toArray, List.set_cons_zero, List.set_cons_succ])
                refine wpAnyH_skipD 11 43 (by kernel_rfl) (by kernel_rfl) (by kernel_rfl) (by kernel_rfl) (by rfl) (fun _ _ _ h => h) hHeld ?_
                (try simp only [Act.put, List.setIfInBounds_toArray, List.set_cons_zero, List.set_cons_succ])
                refine wpAnyH_takeD 12 44 (v := ?_) (by kernel_rfl) (by kernel_rfl) (by kernel_rfl) (by kernel_rfl) (by rfl) (fun _ _ _ h => h) ?_ hHeld ?_
                rotate_left 1
                (intro o ho W hSw; simp only [List.getElem?_toArray, List.getElem?_cons_succ, List.getElem?_cons_zero, Option.some.injEq] at ho; subst ho; (try dsimp only at hSw); go_simp; try with_reducible rfl)
                (try simp only [Act.put, List.setIfInBounds_toArray, List.set_cons_zero, List.set_cons_succ])
                refine wpAnyH_takeD 13 31 (v := ?_) (by kernel_rfl) (by kernel_rfl) (by kernel_rfl) (by kernel_rfl) (by rfl) (fun _ _ _ h => h) ?_ hHeld ?_
                rotate_left 1
                (intro o ho W hSw; simp only [List.getElem?_toArray, List.getElem?_cons_succ, List.getElem?_cons_zero, Option.some.injEq] at ho; subst ho; (try dsimp only at hSw); go_simp; try with_reducible rfl)
                (try simp only [Act.put, List.setIfInBounds_toArray, List.set_cons_zero, List.set_cons_succ])
                refine wpAnyH_done (by kernel_rfl) ?_ _
                have HR2 := Lib.hid (show rightF X Y k (0 + 1) = R by rw [← HR.out]; symm; show (if errAt X Y (0) = 0 then rightF X Y k (0 + 1) else errAt X Y (0)) = _; rw [if_pos ER.out])
                go_wp2
                go_roundw
                case rel => exact ⟨k, 0 + 1, by omega, by go_num, HR2.out, HB2.out⟩
                case measure => simp [intOf]; omega
              · obtain ⟨i, hij⟩ : ∃ i, i + 1 = j := ⟨j - 1, by omega⟩
                have d0 : w2.cell? ⟨b, off + i * 2, none⟩ = some (.int .i64 (X i)) := by rw [HB1.out.cell (p := ⟨b, off + i * 2, none⟩) hb]; exact (hcell i (by omega)).1
                have v1 : IntKind.i64.wrap ((j : Int) - 1) = (i : Int) := by rw [show (j : Int) - 1 = (i : Int) by omega]; exact IntWalk.i64_in _ (by omega)
                have g0 : (0 : Int) < (j : Int) := by omega
                have HB2 := Lib.hid HB1.out.drew
                have hi1 : i < len := by omega
                have HE := Lib.hid (show errAt X Y j = if X j ≤ X i then 41 else 0 by
                  unfold errAt; rw [if_pos ⟨x1, y1⟩, show j - 1 = i by omega]
                  by_cases g : X j ≤ X i
                  · rw [if_pos ⟨by omega, g⟩, if_pos g]
                  · rw [if_neg (fun h => g h.2), if_neg g])
                go_wp2_with fail
                refine wp_region_held_drew (S := fun W => W.cell? ⟨wr.heap.size, 0, none⟩ = some (.int .i64 (X j)) ∧ W.cell? ⟨b, off + i * 2, none⟩ = some (.int .i64 (X i))) (by kernel_rfl) ⟨p0, d0⟩ (fun hHeld => ?_)
                refine wpAnyH_takeD 0 32 (v := ?_) (by kernel_rfl) (by kernel_rfl) (by kernel_rfl) (by kernel_rfl) (by rfl) (fun _ _ _ h => h) ?_ hHeld ?_
                rotate_left 1
                (intro o ho W hSw; simp only [List.getElem?_toArray, List.getElem?_cons_succ, List.getElem?_cons_zero, Option.some.injEq] at ho; subst ho; (try dsimp only at hSw); go_simp; try with_reducible rfl)
                (try simp only [Act.put, List.setIfInBounds_toArray, List.set_cons_zero, List.set_cons_succ])
                refine wpAnyH_takeD 1 33 (v := ?_) (by kernel_rfl) (by kernel_rfl) (by kernel_rfl) (by kernel_rfl) (by rfl) (fun _ _ _ h => h) ?_ hHeld ?_
                rotate_left 1
                (intro o ho W hSw; simp only [List.getElem?_toArray, List.getElem?_cons_succ, List.getElem?_cons_zero, Option.some.injEq] at ho; subst ho; (try dsimp only at hSw); go_simp; try with_reducible rfl)
                (try simp only [Act.put, List.setIfInBounds_toArray, List.set_cons_zero, List.set_cons_succ])
                refine wpAnyH_takeD 2 34 (v := ?_) (by kernel_rfl) (by kernel_rfl) (by kernel_rfl) (by kernel_rfl) (by rfl) (fun _ _ _ h => h) ?_ hHeld ?_
                rotate_left 1
                (intro o ho W hSw; simp only [List.getElem?_toArray, List.getElem?_cons_succ, List.getElem?_cons_zero, Option.some.injEq] at ho; subst ho; (try dsimp only at hSw); go_simp; try with_reducible rfl)
                (try simp only [Act.put, List.setIfInBounds_toArray, List.set_cons_zero, List.set_cons_succ])
                rw [decide_eq_true (show 0 < j by omega)]
                refine wpAnyH_takeD 3 35 (v := ?_) (by kernel_rfl) (by kernel_rfl) (by kernel_rfl) (by kernel_rfl) (by rfl) (fun _ _ _ h => h) ?_ hHeld ?_
                rotate_left 1
                (intro o ho W hSw; simp only [List.getElem?_toArray, List.getElem?_cons_succ, List.getElem?_cons_zero, Option.some.injEq] at ho; subst ho; (try dsimp only at hSw); go_simp; try with_reducible rfl)
                (try simp only [Act.put, List.setIfInBounds_toArray, List.set_cons_zero, List.set_cons_succ])
                refine wpAnyH_takeD 4 36 (v := ?_) (by kernel_rfl) (by kernel_rfl) (by kernel_rfl) (by kernel_rfl) (by rfl) (fun _ _ _ h => h) ?_ hHeld ?_
                rotate_left 1
                (intro o ho W hSw; simp only [List.getElem?_toArray, List.getElem?_cons_succ, List.getElem?_cons_zero, Option.some.injEq] at ho; subst ho; (try dsimp only at hSw); go_simp; try with_reducible rfl)
                (try simp only [Act.put, List.setIfInBounds_toArray, List.set_cons_zero, List.set_cons_succ])
                refine wpAnyH_takeD 5 37 (v := ?_) (by kernel_rfl) (by kernel_rfl) (by kernel_rfl) (by kernel_rfl) (by rfl) (fun _ _ _ h => h) ?_ hHeld ?_
                rotate_left 1
                (intro o ho W hSw; simp only [List.getElem?_toArray, List.getElem?_cons_succ, List.getElem?_cons_zero, Option.some.injEq] at ho; subst ho; (try dsimp only at hSw); go_simp; try with_reducible rfl)
                (try simp only [Act.put, List.setIfInBounds_toArray, List.set_cons_zero, List.set_cons_succ])
                refine wpAnyH_takeD 6 38 (v := ?_) (by kernel_rfl) (by kernel_rfl) (by kernel_rfl) (by kernel_rfl) (by rfl) (fun _ _ _ h => h) ?_ hHeld ?_
                rotate_left 1
                (intro o ho W hSw; simp only [List.getElem?_toArray, List.getElem?_cons_succ, List.getElem?_cons_zero, Option.some.injEq] at ho; subst ho; (try dsimp only at hSw); go_simp; try with_reducible rfl)
                (try simp only [Act.put, List.setIfInBounds_toArray, List.set_cons_zero, List.set_cons_succ])
                refine wpAnyH_takeD 7 39 (v := ?_) (by kernel_rfl) (by kernel_rfl) (by kernel_rfl) (by kernel_rfl) (by rfl) (fun _ _ _ h => h) ?_ hHeld ?_
                rotate_left 1
                (intro o ho W hSw; simp only [List.getElem?_toArray, List.getElem?_cons_succ, List.getElem?_cons_zero, Option.some.injEq] at ho; subst ho; (try dsimp only at hSw); go_simp; try with_reducible rfl)
                (try simp only [Act.put, List.setIfInBounds_toArray, List.set_cons_zero, List.set_cons_succ])
                refine wpAnyH_takeD 8 40 (v := ?_) (by kernel_rfl) (by kernel_rfl) (by kernel_rfl) (by kernel_rfl) (by rfl) (fun _ _ _ h => h) ?_ hHeld ?_
                rotate_left 1
                (intro o ho W hSw; simp only [List.getElem?_toArray, List.getElem?_cons_succ, List.getElem?_cons_zero, Option.some.injEq] at ho; subst ho; (try dsimp only at hSw); go_simp; try with_reducible rfl)
                (try simp only [Act.put, List.setIfInBounds_toArray, List.set_cons_zero, List.set_cons_succ])
                refine wpAnyH_takeD 9 41 (v := ?_) (by kernel_rfl) (by kernel_rfl) (by kernel_rfl) (by kernel_rfl) (by rfl) (fun _ _ _ h => h) ?_ hHeld ?_
                rotate_left 1
                (intro o ho W hSw; simp only [List.getElem?_toArray, List.getElem?_cons_succ, List.getElem?_cons_zero, Option.some.injEq] at ho; subst ho; (try dsimp only at hSw); go_simp; try with_reducible rfl)
                (try simp only [Act.put, List.setIfInBounds_toArray, List.set_cons_zero, List.set_cons_succ])
                refine wpAnyH_takeD 10 42 (v := ?_) (by kernel_rfl) (by kernel_rfl) (by kernel_rfl) (by kernel_rfl) (by rfl) (fun _ _ _ h => h) ?_ hHeld ?_
                rotate_left 1
                (intro o ho W hSw; simp only [List.getElem?_toArray, List.getElem?_cons_succ, List.getElem?_cons_zero, Option.some.injEq] at ho; subst ho; (try dsimp only at hSw); go_simp; try with_reducible rfl)
                (try simp only [Act.put, List.setIfInBounds_toArray, List.set_cons_zero, List.set_cons_succ])
                refine wpAnyH_takeD 11 43 (v := ?_) (by kernel_rfl) (by kernel_rfl) (by kernel_rfl) (by kernel_rfl) (by rfl) (fun _ _ _ h => h) ?_ hHeld ?_
                rotate_left 1
                (intro o ho W hSw; simp only [List.getElem?_toArray, List.getElem?_cons_succ, List.getElem?_cons_zero, Option.some.injEq] at ho; subst ho; (try dsimp only at hSw); go_simp; try with_reducible rfl)
                (try simp only [Act.put, List.setIfInBounds_toArray, List.set_cons_zero, List.set_cons_succ])
                refine wpAnyH_takeD 12 44 (v := ?_) (by kernel_rfl) (by kernel_rfl) (by kernel_rfl) (by kernel_rfl) (by rfl) (fun _ _ _ h => h) ?_ hHeld ?_
                rotate_left 1
                (intro o ho W hSw; simp only [List.getElem?_toArray, List.getElem?_cons_succ, List.getElem?_cons_zero, Option.some.injEq] at ho; subst ho; (try dsimp only at hSw); go_simp; try with_reducible rfl)
                (try simp only [Act.put, List.setIfInBounds_toArray, List.set_cons_zero, List.set_cons_succ])
                refine wpAnyH_takeD 13 31 (v := ?_) (by kernel_rfl) (by kernel_rfl) (by kernel_rfl) (by kernel_rfl) (by rfl) (fun _ _ _ h => h) ?_ hHeld ?_
                rotate_left 1
                (intro o ho W hSw; simp only [List.getElem?_toArray, List.getElem?_cons_succ, List.getElem?_cons_zero, Option.some.injEq] at ho; subst ho; (try dsimp only at hSw); go_simp; try with_reducible rfl)
                (try simp only [Act.put, List.setIfInBounds_toArray, List.set_cons_zero, List.set_cons_succ])
                refine wpAnyH_done (by kernel_rfl) ?_ _
                clear hHeld
                by_cases g : X j ≤ X i
                · have ER := Lib.hid (HE.out.trans (if_pos g))
                  have EE : (41 : Int) = R := by rw [← HR.out]; symm; show (if errAt X Y (j) = 0 then rightF X Y k (j + 1) else errAt X Y (j)) = _; rw [ER.out]; simp
                  go_wp2
                  go_ret
                  exact ⟨retI EE, HB2.out⟩
                · have ER := Lib.hid (HE.out.trans (if_neg g))
                  have HR2 := Lib.hid (show rightF X Y k (j + 1) = R by rw [← HR.out]; symm; show (if errAt X Y (j) = 0 then rightF X Y k (j + 1) else errAt X Y (j)) = _; rw [if_pos ER.out])
                  go_wp2
                  go_roundw
                  case rel => exact ⟨k, j + 1, by omega, by go_num, HR2.out, HB2.out⟩
                  case measure => simp [intOf]; omega
            · have t2 : decide (inT (Y j)) = false := decide_eq_false y1
              have ER := Lib.hid (show errAt X Y j = 40 by unfold errAt; rw [if_neg (fun h => y1 h.2)])
              have EE : (40 : Int) = R := by rw [← HR.out]; symm; show (if errAt X Y (j) = 0 then rightF X Y k (j + 1) else errAt X Y (j)) = _; rw [ER.out]; simp
              go_wp2
              go_ret
              exact ⟨retI EE, HB1.out⟩
          · have t1 : decide (inT (X j)) = false := decide_eq_false x1
            have ER := Lib.hid (show errAt X Y j = 40 by unfold errAt; rw [if_neg (fun h => x1 h.1)])
            have EE : (40 : Int) = R := by rw [← HR.out]; symm; show (if errAt X Y (j) = 0 then rightF X Y k (j + 1) else errAt X Y (j)) = _; rw [ER.out]; simp
            go_wp2
            go_ret
            exact ⟨retI EE, HB1.out⟩
theorem tabs_fit {y : Int} (h : inT y) : absF y = if y < 0 then -y else y := by
  unfold inT at h
  unfold absF subF
  by_cases c : y < 0
  · rw [if_pos c, if_pos c, (clip64_of (n := 0 - y) (by unfold In64; omega)).1]; omega
  · rw [if_neg c, if_neg c]
set_option maxHeartbeats 4000000 in
theorem tBound_any (a : Option Addr) (len cap : Nat) (X Y : Nat → Int) (w : World) (R : RightT len X Y) (D : Dots w a len cap X Y) :
    Calls Try.prog 10 #[.slice a len cap] w fun e w' => e = .returned (.int .i64 (boundUp Y len)) ∧ Below w.heap.size w w' := by
  have HD := Lib.hid D
  have HR := Lib.hid R
  have hmax := R.hi
  clear D R
  go_enter Try.func10, Try.ntmps10
  go_wp2
  go_loopw [4, 9] (fun v i wr => ∃ j : Nat, j ≤ len ∧ i = .int .i64 j ∧ v = .int .i64 (boundUp Y j) ∧ Below w.heap.size w wr) (fun _ i _ => len - (intOf i).toNat)
  case atStart => exact ⟨0, by omega, rfl, rfl, Below.refl _ _⟩
  case round =>
    obtain ⟨j, hj, rfl, rfl, hB⟩ := hrel
    have HB := Lib.hid hB
    clear hB
    by_cases hlt : j < len
    · have hy := HR.out.y j hlt
      have hb0 := (bound_in HR.out j (by omega)).1
      have EA := Lib.hid (tabs_fit hy)
      unfold inT at hy
      obtain ⟨b, off, rfl, hb, hcell⟩ := HD.out.at' (by omega)
      have sz := HB.out.size
      have c0 : wr.cell? ⟨b, off + j * 2, none⟩ = some (.int .i64 (X j)) := by rw [HB.out.cell (p := ⟨b, off + j * 2, none⟩) hb]; exact (hcell j hlt).1
      have c1 : wr.cell? ⟨b, off + j * 2 + 1, none⟩ = some (.int .i64 (Y j)) := by rw [HB.out.cell (p := ⟨b, off + j * 2 + 1, none⟩) hb]; exact (hcell j hlt).2
      have E := Lib.hid (show boundUp Y (j + 1) = max (boundUp Y j) (absF (Y j)) by
        rw [EA.out]
        show max (max (boundUp Y j) (Y j)) (-(Y j)) = _
        split <;> omega)
      clear hcell
      go_wp2_with fail
      refine calls_gen (S := fun W => Below w.heap.size w W) (HB.out.alloc sz _) (fun W1 hS => ?_)
      have HB1 := Lib.hid hS
      clear hS c0 c1
      refine (fxAbs_nil (Y j) _ (by omega) (by omega)).mono ?_
      rintro e w1 ⟨rfl, h⟩
      have HB2 := Lib.hid (HB1.out.trans (h.mono HB1.out.size))
      clear h HB1
      generalize absF (Y j) = z at *
      go_wp2
      go_roundw
      case rel => exact ⟨j + 1, by omega, by go_num, by rw [E.out] <;> (try (congr 1; (repeat' split) <;> omega)), HB2.out⟩
      case measure => simp [intOf]; omega
    · have E := Lib.hid (show j = len by omega)
      go_wp2
      go_ret
      exact ⟨by rw [← E.out]; rfl, HB.out⟩
end Go.Proofs.Ytnedecpciioghaa
