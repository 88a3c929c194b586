/- The program's car: tables. -/
import Derived.Test.YtbpmbdnhfkfkhaaW1
import Derived.Test.YtbpmbdnhfkfkhaaOm
import Derived.Test.YtbpmbdnhfkfkhaaPw
namespace Go.Proofs.Ytbpmbdnhfkfkhaa
open Go.RowKit
set_option linter.unusedVariables false
set_option linter.unusedSimpArgs false

/-- a list of n numbers that was made: as it is filled -/
structure MkF (W : World) (g n : Nat) (X : Nat → Int) : Prop where
  lt : g < W.heap.size
  f : ∀ j, W.frozen? ⟨g, j, none⟩ = false
  c : ∀ i, i < n → W.cell? ⟨g, i, none⟩ = some (.int .i64 (X i))
theorem MkF.below {W W' : World} {g n : Nat} {X : Nat → Int} (h : MkF W g n X) (k : Below W.heap.size W W') : MkF W' g n X :=
  ⟨by have := h.lt; have := k.size; omega, fun j => (k.frozen (p := ⟨g, j, none⟩) h.lt).trans (h.f j), fun i hi => (k.cell (p := ⟨g, i, none⟩) h.lt).trans (h.c i hi)⟩
theorem MkF.congr {W : World} {g n : Nat} {X X' : Nat → Int} (h : MkF W g n X) (k : ∀ i, i < n → X i = X' i) : MkF W g n X' :=
  ⟨h.lt, h.f, fun i hi => by rw [← k i hi]; exact h.c i hi⟩
theorem MkF.set {W : World} {g n : Nat} {X : Nat → Int} (h : MkF W g n X) {k : Nat} (hk : k < n) (x : Int) : MkF (W.setCell ⟨g, k, none⟩ (.int .i64 x)) g n (fun i => if i = k then x else X i) :=
  ⟨by rw [set_size]; exact h.lt, fun j => (World.frozen?_setCell _ _ _ _).trans (h.f j), fun i hi => by
    by_cases e : i = k
    · subst e; rw [if_pos rfl]; exact World.cell?_setCell_same _ _ _ (h.c i hi)
    · rw [if_neg e]; exact (World.cell?_setCell_other _ _ _ _ (fun q => e (by have := congrArg Addr.off q; simp at this; omega))).trans (h.c i hi)⟩
theorem made_ints (n : Nat) : ∀ j, j < n → (madeCells (Value.int .i64 0).cells (n * 1)).toList[j]? = some (.int .i64 0) := by
  intro j hj
  have h2 : (Value.int .i64 0).cells = #[.int .i64 0] := rfl
  rw [h2, Nat.mul_one]
  unfold madeCells
  rw [Array.toList_map, List.getElem?_map, Array.toList_range, List.getElem?_range hj]
  simp [Nat.mod_one]
theorem MkF.new {W : World} {base g n : Nat} {e : TypeId} {cs : List Value} (h : W.ownsRow base e 1 (.slice (some ⟨g, 0, none⟩) n n) n cs) (hc : ∀ j, j < n → cs[j]? = some (.int .i64 0)) : MkF W g n (fun _ => 0) := by
  have hcs := h.cells (g := g) rfl
  obtain ⟨_, ⟨c, _⟩ | ⟨g2, cap, cur, hv, hb, hg, hn, hm, hs, ht⟩⟩ := h
  · cases c
  · cases hv
    have hlt : g < W.heap.size := by
      rcases Nat.lt_or_ge g W.heap.size with l | l
      · exact l
      · rw [Array.getElem?_eq_none l] at hg; cases hg
    have a0 : ∀ j, (⟨g, 0, none⟩ : Addr).add j = ⟨g, j, none⟩ := fun j => by unfold Addr.add; split <;> simp_all
    refine ⟨hlt, fun j => ?_, fun i hi => ?_⟩
    · unfold World.frozen?; rw [hg]; simp
    · have k0 := hcs _ _ (hc i hi)
      rw [a0] at k0
      exact k0
set_option maxRecDepth 100000 in
set_option maxHeartbeats 4000000 in
theorem cHeights_any (a : Option Addr) (n c : Nat) (X Y : Nat → Int) (w : World) (hmax : n ≤ 100) (D : Dots w a n c X Y) :
    Calls Try.prog 54 #[.slice a n c] w fun e w' => e = .returned (.slice (some ⟨w.heap.size, 0, none⟩) n n) ∧ MkF w' w.heap.size n Y ∧ Below w.heap.size w w' := by
  have HD := Lib.hid D
  obtain ⟨i0, hi, hz0, hz1, hz2⟩ := info_parts fxInfoP
  have U := Try.underlying30
  clear D
  go_enter Try.func54, Try.ntmps54
  go_wp2_with (at_make; refine wpList_make_full _ rfl _ _ 30 rfl w.heap.size 22 i0 (.int .i64 0) 1 U hi hz0 hz1 .i64 .i64 _ _ n rfl rfl rfl rfl (by rw [hz2]; omega) (by unfold maxLen; omega) (Nat.le_refl _) ?_; intro w0 hown0 hgrow0)
  refine wp_gen (S := fun W => Below w.heap.size w W ∧ MkF W w.heap.size n (firstK Y 0)) ⟨⟨hgrow0.os, hgrow0.tape, hgrow0.output, hgrow0.size, fun k hk => hgrow0.block k hk (by simp)⟩, (MkF.new hown0 (made_ints n)).congr (fun i hi => by unfold firstK; simp)⟩ (fun W1 hS => ?_)
  have B1 := Lib.hid hS.1
  have D1 := Lib.hid hS.2
  clear hS hown0 hgrow0
  go_loopw [11, 4, 5] (fun i _ _ wr => ∃ k : Nat, k ≤ n ∧ i = .int .i64 k ∧ Below w.heap.size w wr ∧ MkF wr w.heap.size n (firstK Y k)) (fun i _ _ _ => n - (intOf i).toNat)
  case atStart => exact ⟨0, by omega, rfl, B1.out, D1.out⟩
  case round =>
    obtain ⟨k, hk, rfl, hB1, hD⟩ := hrel
    have B2 := Lib.hid hB1
    have D2 := Lib.hid hD
    clear hB1 hD B1 D1
    by_cases hlt : k < n
    · obtain ⟨bx, ox, hxa, hbx, hcx⟩ := HD.out.at' (by omega)
      subst hxa
      have z0 : (0 : Int) ≤ (k : Int) := by omega
      have z1 : (k : Int) < (n : Int) := by omega
      have c5 : wr.cell? ⟨bx, ox + k * 2, none⟩ = some (.int .i64 (X k)) := (B2.out.cell (p := ⟨bx, _, none⟩) (by show bx < w.heap.size; omega)).trans (hcx k (by omega)).1
      have c6 : wr.cell? ⟨bx, ox + k * 2 + 1, none⟩ = some (.int .i64 (Y k)) := (B2.out.cell (p := ⟨bx, _, none⟩) (by show bx < w.heap.size; omega)).trans (hcx k (by omega)).2
      have k0 := D2.out.c k hlt
      have kf := D2.out.f
      have kl := D2.out.lt
      have hzw := B2.out.size
      clear hcx
      go_wp2
      go_roundw
      case rel => exact ⟨k + 1, by omega, by go_num, (B2.out.setCell (p := ⟨w.heap.size, k, none⟩) (Nat.le_refl _) _).alloc (by rw [set_size]; exact hzw) _, ((D2.out.set hlt (Y k)).below ((Below.refl _ _).alloc (Nat.le_refl _) _)).congr (fun i hi => firstK_succ Y k i)⟩
      case measure => simp [intOf]; omega
    · have e : k = n := by omega
      subst e
      go_wp2
      go_ret
      exact ⟨rfl, D2.out.congr (fun i hi => if_pos hi), B2.out⟩
/-- no point has opposite signs -/
def resP (X Y : Nat → Int) (n : Nat) : Prop := ∀ i, i < n → ¬ (X i < 0 ∧ 0 < Y i ∨ 0 < X i ∧ Y i < 0)
instance (X Y : Nat → Int) (n : Nat) : Decidable (resP X Y n) := by unfold resP; exact inferInstance
set_option maxRecDepth 100000 in
set_option maxHeartbeats 4000000 in
theorem cResists_any (a : Option Addr) (n c : Nat) (X Y : Nat → Int) (w : World) (hmax : n ≤ 100) (D : Dots w a n c X Y) :
    Calls Try.prog 41 #[.slice a n c] w fun e w' => e = .returned (.bool (decide (resP X Y n))) ∧ Below w.heap.size w w' := by
  obtain ⟨R, hR⟩ : ∃ R, decide (resP X Y n) = R := ⟨_, rfl⟩
  rw [hR]
  have NF := Lib.hid (fun (k : ¬ resP X Y n) => (show false = R by rw [← hR]; exact (decide_eq_false k).symm))
  have NY := Lib.hid (fun (k : resP X Y n) => (show true = R by rw [← hR]; exact (decide_eq_true k).symm))
  have HD := Lib.hid D
  clear D hR
  go_enter Try.func41, Try.ntmps41
  go_wp2
  go_loopw [7, 4] (fun i _ wr => ∃ k : Nat, k ≤ n ∧ i = .int .i64 k ∧ Hid (∀ q, q < k → ¬ (X q < 0 ∧ 0 < Y q ∨ 0 < X q ∧ Y q < 0)) ∧ Below w.heap.size w wr) (fun i _ _ => n - (intOf i).toNat)
  case atStart => exact ⟨0, by omega, rfl, Lib.hid (fun k h => absurd h (by omega)), Below.refl _ _⟩
  case round =>
    obtain ⟨k, hk, rfl, I, hB1⟩ := hrel
    have B2 := Lib.hid hB1
    clear hB1
    by_cases hlt : k < n
    · obtain ⟨bx, ox, hxa, hbx, hcx⟩ := HD.out.at' (by omega)
      subst hxa
      have z0 : (0 : Int) ≤ (k : Int) := by omega
      have z1 : (k : Int) < (n : Int) := by omega
      have c5 : wr.cell? ⟨bx, ox + k * 2, none⟩ = some (.int .i64 (X k)) := (B2.out.cell (p := ⟨bx, _, none⟩) (by show bx < w.heap.size; omega)).trans (hcx k (by omega)).1
      have c6 : wr.cell? ⟨bx, ox + k * 2 + 1, none⟩ = some (.int .i64 (Y k)) := (B2.out.cell (p := ⟨bx, _, none⟩) (by show bx < w.heap.size; omega)).trans (hcx k (by omega)).2
      have hzw := B2.out.size
      clear hcx
      by_cases x0 : X k < 0
      · have x1 : ¬ 0 < X k := by omega
        by_cases y1 : 0 < Y k
        · skip
          have E := Lib.hid (NF.out (fun q => q k hlt (by omega)))
          clear I NF NY
          go_wp2
          go_ret
          exact ⟨by rw [← E.out]; rfl, B2.out.alloc hzw _⟩
        · skip
          have I2 := Lib.hid (fall_next (P := fun k => ¬ (X k < 0 ∧ 0 < Y k ∨ 0 < X k ∧ Y k < 0)) I.out (by omega))
          clear I NF NY
          go_wp2
          go_roundw
          case rel => exact ⟨k + 1, by omega, by go_num, I2, B2.out.alloc hzw _⟩
          case measure => simp [intOf]; omega
      · by_cases x1 : 0 < X k
        · by_cases y0 : Y k < 0
          · skip
            have E := Lib.hid (NF.out (fun q => q k hlt (by omega)))
            clear I NF NY
            go_wp2
            go_ret
            exact ⟨by rw [← E.out]; rfl, B2.out.alloc hzw _⟩
          · skip
            have I2 := Lib.hid (fall_next (P := fun k => ¬ (X k < 0 ∧ 0 < Y k ∨ 0 < X k ∧ Y k < 0)) I.out (by omega))
            clear I NF NY
            go_wp2
            go_roundw
            case rel => exact ⟨k + 1, by omega, by go_num, I2, B2.out.alloc hzw _⟩
            case measure => simp [intOf]; omega
        · skip
          have I2 := Lib.hid (fall_next (P := fun k => ¬ (X k < 0 ∧ 0 < Y k ∨ 0 < X k ∧ Y k < 0)) I.out (by omega))
          clear I NF NY
          go_wp2
          go_roundw
          case rel => exact ⟨k + 1, by omega, by go_num, I2, B2.out.alloc hzw _⟩
          case measure => simp [intOf]; omega
    · have e : k = n := by omega
      subst e
      have E := Lib.hid (NY.out (fun q hq => I.out q hq))
      clear I NF NY
      go_wp2
      go_ret
      exact ⟨by rw [← E.out]; rfl, B2.out⟩
theorem badF_all (lo hi : Int) (s : Bool) (X Y : Nat → Int) : ∀ (k j : Nat), badF lo hi s X Y k j = rngC (decide (∀ i, i < k → ¬ badD lo hi s (X (j + i)) (Y (j + i))))
  | 0, j => by rw [decide_eq_true (fun i hi => absurd hi (by omega))]; rfl
  | k + 1, j => by
    unfold badF
    by_cases h : badD lo hi s (X j) (Y j)
    · rw [if_pos h, decide_eq_false (fun q => q 0 (by omega) h)]; rfl
    · rw [if_neg h, badF_all lo hi s X Y k (j + 1)]
      congr 1
      rw [decide_eq_decide]
      refine ⟨fun q i hi => ?_, fun q i hi => ?_⟩
      · cases i with
        | zero => exact h
        | succ i => have := q i (by omega); rw [show j + 1 + i = j + (i + 1) by omega] at this; exact this
      · have := q (i + 1) (by omega); rw [show j + (i + 1) = j + 1 + i by omega] at this; exact this
/-- a table without signs -/
theorem dots_plain (n : Nat) (X Y : Nat → Int) (lo hi : Int) : dotsN n X Y lo hi false = if rightN n X Y = 0 then rngC (decide (allW Y n lo hi)) else rightN n X Y := by
  unfold dotsN
  by_cases h : rightN n X Y = 0
  · rw [if_pos h, if_pos h, badF_all]
    congr 1
    rw [decide_eq_decide]
    refine forall_congr' fun i => forall_congr' fun hi => ?_
    rw [Nat.zero_add]
    unfold badD
    rw [inC_dec, decide_eq_false_iff_not]
    simp
  · rw [if_neg h, if_neg h]
theorem dots_signs (n : Nat) (X Y : Nat → Int) (lo hi : Int) : dotsN n X Y lo hi true = if dotsN n X Y lo hi false = 0 then rngC (decide (resP X Y n)) else dotsN n X Y lo hi false := by
  rw [dots_plain]
  unfold dotsN
  by_cases h : rightN n X Y = 0
  · rw [if_pos h, if_pos h, badF_all]
    by_cases a : allW Y n lo hi
    · rw [decide_eq_true a, if_pos (show rngC true = 0 from rfl)]
      congr 1
      rw [decide_eq_decide]
      refine forall_congr' fun i => forall_congr' fun hi => ?_
      rw [Nat.zero_add]
      have := a i hi
      unfold badD
      rw [inC_dec, decide_eq_true this]
      simp
      omega
    · rw [decide_eq_false a, if_neg (by decide)]
      rw [decide_eq_false (fun q => a (fun i hi => ?_))]
      have := q i hi
      rw [Nat.zero_add] at this
      unfold badD at this
      rw [inC_dec, decide_eq_false_iff_not] at this
      exact Classical.byContradiction fun c => this (Or.inl c)
  · rw [if_neg h, if_neg h, if_neg h]
set_option maxRecDepth 100000 in
set_option maxHeartbeats 4000000 in
theorem cCurve_any (a : Option Addr) (n c : Nat) (X Y : Nat → Int) (lo hi : Int) (w : World) (hmax : n ≤ 100) (D : Dots w a n c X Y) :
    Calls Try.prog 40 #[.slice a n c, .int .i64 lo, .int .i64 hi] w fun e w' => e = .returned (.int .i64 (dotsN n X Y lo hi false)) ∧ Below w.heap.size w w' := by
  have HR := dots_plain n X Y lo hi
  obtain ⟨R, hR⟩ : ∃ R, dotsN n X Y lo hi false = R := ⟨_, rfl⟩
  rw [hR] at HR ⊢
  have HD := Lib.hid D
  have X1 := Lib.hid (tRight_any a n c X Y w hmax D)
  have X2 := Lib.hid (fun (W : World) (h : Below w.heap.size w W) => cHeights_any a n c X Y W hmax (D.below h (Nat.le_refl _)))
  have X3 := Lib.hid (fun (g : Nat) (W : World) (h : MkF W g n Y) => cWithinF (some ⟨g, 0, none⟩) n n Y lo hi W (by omega) (lk_bw h.lt fun i hi => by rw [Nat.zero_add]; exact h.c i hi))
  generalize rightN n X Y = r at *
  generalize decide (allW Y n lo hi) = q at *
  clear D hR
  by_cases r0 : r = 0
  · subst r0
    rw [if_pos rfl] at HR
    have HR := Lib.hid HR
    go_enter Try.func40, Try.ntmps40
    go_wp2_with fail
    refine X1.out.mono ?_
    rintro e w1 ⟨rfl, h⟩
    have B1 := Lib.hid h
    clear h X1
    go_wp2_with fail
    refine (X2.out _ B1.out).mono ?_
    rintro e w2 ⟨rfl, h1, h2⟩
    have M2 := Lib.hid h1
    have B2 := Lib.hid (B1.out.trans (h2.mono B1.out.size))
    clear h1 h2 B1 X2
    go_wp2_with fail
    refine (X3.out _ _ M2.out).mono ?_
    rintro e w3 ⟨rfl, rfl⟩
    go_wp2_with fail
    refine (cRanged_any q _).mono ?_
    rintro e w4 ⟨rfl, rfl⟩
    go_wp2
    go_ret
    exact ⟨retI HR.out.symm, B2.out⟩
  · rw [if_neg r0] at HR
    have HR := Lib.hid HR
    have rb : (r != 0) = true := bne_iff_ne.mpr r0
    go_enter Try.func40, Try.ntmps40
    go_wp2_with fail
    refine X1.out.mono ?_
    rintro e w1 ⟨rfl, h⟩
    have B1 := Lib.hid h
    clear h X1
    go_wp2
    go_ret
    exact ⟨retI HR.out.symm, B1.out⟩
set_option maxRecDepth 100000 in
set_option maxHeartbeats 4000000 in
theorem cDamper_any (a : Option Addr) (n c : Nat) (X Y : Nat → Int) (w : World) (hmax : n ≤ 100) (D : Dots w a n c X Y) :
    Calls Try.prog 16 #[.slice a n c] w fun e w' => e = .returned (.int .i64 (dotsN n X Y (-140737488355328) 140737488355328 true)) ∧ Below w.heap.size w w' := by
  have HR := dots_signs n X Y (-140737488355328) 140737488355328
  obtain ⟨R, hR⟩ : ∃ R, dotsN n X Y (-140737488355328) 140737488355328 true = R := ⟨_, rfl⟩
  rw [hR] at HR ⊢
  have X1 := Lib.hid (cCurve_any a n c X Y (-140737488355328) 140737488355328 w hmax D)
  have X2 := Lib.hid (fun (W : World) (h : Below w.heap.size w W) => cResists_any a n c X Y W hmax (D.below h (Nat.le_refl _)))
  generalize dotsN n X Y (-140737488355328) 140737488355328 false = r at *
  generalize decide (resP X Y n) = q at *
  clear D hR
  by_cases r0 : r = 0
  · subst r0
    rw [if_pos rfl] at HR
    have HR := Lib.hid HR
    go_enter Try.func16, Try.ntmps16
    go_wp2_with fail
    refine X1.out.mono ?_
    rintro e w1 ⟨rfl, h⟩
    have B1 := Lib.hid h
    clear h X1
    go_wp2_with fail
    refine (X2.out _ B1.out).mono ?_
    rintro e w2 ⟨rfl, h⟩
    have B2 := Lib.hid (B1.out.trans (h.mono B1.out.size))
    clear h B1 X2
    go_wp2_with fail
    refine (cRanged_any q _).mono ?_
    rintro e w4 ⟨rfl, rfl⟩
    go_wp2
    go_ret
    exact ⟨retI HR.out.symm, B2.out⟩
  · rw [if_neg r0] at HR
    have HR := Lib.hid HR
    have rb : (r == 0) = false := beq_false_of_ne r0
    go_enter Try.func16, Try.ntmps16
    go_wp2_with fail
    refine X1.out.mono ?_
    rintro e w1 ⟨rfl, h⟩
    have B1 := Lib.hid h
    clear h X1
    go_wp2
    go_ret
    exact ⟨retI HR.out.symm, B1.out⟩
theorem cTorque_any (a : Option Addr) (n c : Nat) (X Y : Nat → Int) (w : World) (hmax : n ≤ 100) (D : Dots w a n c X Y) :
    Calls Try.prog 18 #[.slice a n c] w fun e w' => e = .returned (.int .i64 (dotsN n X Y (-17592186044416) (17592186044416) false)) ∧ Below w.heap.size w w' := by
  have X1 := Lib.hid (cCurve_any a n c X Y (-17592186044416) (17592186044416) w hmax D)
  generalize dotsN n X Y (-17592186044416) (17592186044416) false = r at *
  clear D
  go_enter Try.func18, Try.ntmps18
  go_wp2_with fail
  refine X1.out.mono ?_
  rintro e w1 ⟨rfl, h⟩
  have B1 := Lib.hid h
  clear h X1
  go_wp2
  go_ret
  exact ⟨rfl, B1.out⟩
theorem cAir_any (a : Option Addr) (n c : Nat) (X Y : Nat → Int) (w : World) (hmax : n ≤ 100) (D : Dots w a n c X Y) :
    Calls Try.prog 19 #[.slice a n c] w fun e w' => e = .returned (.int .i64 (dotsN n X Y (0) (140737488355328) false)) ∧ Below w.heap.size w w' := by
  have X1 := Lib.hid (cCurve_any a n c X Y (0) (140737488355328) w hmax D)
  generalize dotsN n X Y (0) (140737488355328) false = r at *
  clear D
  go_enter Try.func19, Try.ntmps19
  go_wp2_with fail
  refine X1.out.mono ?_
  rintro e w1 ⟨rfl, h⟩
  have B1 := Lib.hid h
  clear h X1
  go_wp2
  go_ret
  exact ⟨rfl, B1.out⟩
end Go.Proofs.Ytbpmbdnhfkfkhaa
