/- The walk of TrackStarts: awake stands as a condition, and what plane tells of how far behind a line a place is. -/
import Derived.Test.YtjbalpmcnihhpaaDoorB4
namespace Go.Proofs.YtjbalpmcnihhpaaDoor
open Go.RowKit
set_option linter.unusedVariables false
set_option linter.unusedSimpArgs false

theorem fstI_is {f : Nat → Int} : ∀ n, (fstI f n < n → f (fstI f n) ≠ 0) ∧ (¬ fstI f n < n → ∀ i, i < n → f i = 0)
  | 0 => ⟨fun h => absurd h (by omega), fun _ i hi => absurd hi (by omega)⟩
  | n + 1 => by
    obtain ⟨h1, h2⟩ := fstI_is (f := f) n
    rw [show fstI f (n + 1) = if fstI f n < n then fstI f n else if f n = 0 then n + 1 else n from rfl]
    by_cases a : fstI f n < n
    · rw [if_pos a]
      exact ⟨fun _ => h1 a, fun h => absurd (by omega) h⟩
    · rw [if_neg a]
      by_cases b : f n = 0
      · rw [if_pos b]
        refine ⟨fun h => absurd h (by omega), fun _ i hi => ?_⟩
        rcases Nat.lt_or_ge i n with l | l
        · exact h2 a i l
        · obtain rfl : i = n := by omega
          exact b
      · rw [if_neg b]
        exact ⟨fun _ => b, fun h => absurd (by omega) h⟩
theorem ways_zero {k : Tk} (h : (waysE k).1 = 0) : (∀ i, i < k.t.rn → railE (k.R i) = 0) ∧ 1 ≤ k.t.gn ∧ ∀ i, i < k.t.gn → gateE (k.G i) = 0 := by
  obtain ⟨a1, a2⟩ := fstI_is (f := fun i => railE (k.R i)) k.t.rn
  obtain ⟨b1, b2⟩ := fstI_is (f := fun i => gateE (k.G i)) k.t.gn
  unfold waysE at h
  split at h
  · exact absurd h (by decide)
  · split at h
    · rename_i c; exact absurd h (a1 c)
    · rename_i c
      split at h
      · exact absurd h (by decide)
      · split at h
        · rename_i d; exact absurd h (b1 d)
        · rename_i g d; exact ⟨a2 c, by omega, b2 d⟩
theorem rgt_zero {k : Tk} (h : (rgtK k).1 = 0) : 60 ≤ k.t.rate ∧ (waysE k).1 = 0 ∧ ∀ j, j < barN k k.t.rn → ¬ behP k j := by
  unfold rgtK at h
  split at h
  · exact absurd h (by decide)
  · rename_i c1
    split at h
    · rename_i c; exact absurd h c
    · split at h
      · rename_i c; exact absurd h c
      · split at h
        · exact absurd h (by decide)
        · split at h
          · rename_i c; exact absurd h c
          · rename_i c5
            split at h
            · exact absurd h (by decide)
            · split at h
              · exact absurd h (by decide)
              · rename_i c7
                exact ⟨by omega, Decidable.not_not.1 c5, Decidable.not_not.1 c7⟩
theorem rail_steps {s : Ds} (h : railE s = 0) : stpN s.n s.x s.y := by
  unfold railE at h
  split at h
  · omega
  · split at h
    · split at h
      · assumption
      · omega
    · omega
theorem bJ_in (k : Tk) : ∀ {m j : Nat}, j < barN k m → (bJ k m j).1 < m ∧ (bJ k m j).2 + 1 < (k.R (bJ k m j).1).n
  | 0, j, h => absurd h (by unfold barN; omega)
  | m + 1, j, h => by
    have e : barN k (m + 1) = barN k m + ((k.R m).n - 1) := rfl
    rw [show bJ k (m + 1) j = if j < barN k m then bJ k m j else (m, j - barN k m) from rfl]
    by_cases a : j < barN k m
    · rw [if_pos a]
      have := bJ_in k a
      exact ⟨by omega, this.2⟩
    · rw [if_neg a]
      exact ⟨by show m < m + 1; omega, by show j - barN k m + 1 < (k.R m).n; omega⟩
theorem both_false {a b c d : Int} (h : ¬ (a = c ∧ b = d)) : (a == c && b == d) = false := by
  cases hz : (a == c && b == d)
  · rfl
  · rw [Bool.and_eq_true] at hz
    exact absurd ⟨beq_iff_eq.1 hz.1, beq_iff_eq.1 hz.2⟩ h
theorem bars_long {k : Tk} (h : ∀ i, i < k.t.rn → railE (k.R i) = 0) {j : Nat} (hj : j < barN k k.t.rn) : ((barG k j).ax == (barG k j).bx && (barG k j).ay == (barG k j).by') = false := by
  obtain ⟨a, b⟩ := bJ_in k hj
  have s := rail_steps (h _ a) _ b
  exact both_false (fun c => s ⟨c.1.symm, c.2.symm⟩)
theorem gates_long {g : Gt} (h : gateE g = 0) : (g.ax == g.bx && g.ay == g.by') = false := by
  unfold gateE at h
  split at h
  · split at h
    · omega
    · rename_i c; exact both_false c
  · omega
/-- what plane tells of how far behind a line a place is -/
def PlBey : Prop := ∀ (ax ay bx by' px py : Int) (w : World), Calls Tryd.prog 11 #[.agg #[.int .i64 ax, .int .i64 ay], .agg #[.int .i64 bx, .int .i64 by'], .agg #[.int .i64 px, .int .i64 py]] w fun e w' => e = .returned (.int .i64 (beyondN ⟨ax, ay⟩ ⟨bx, by'⟩ ⟨px, py⟩)) ∧ Below w.heap.size w w'
set_option maxRecDepth 100000 in
set_option maxHeartbeats 4000000 in
theorem kstarts_walk (C : TrackC) (A : TAw) (P : PlBey) (k : Tk) (B : Nat) (w : World) (hB : B ≤ w.heap.size) (hE : ErT w) (K : TkM B w k) :
    Calls Tryd.prog 4 #[trkV k.t] w fun e w' => e = .returned (.bool true) ∧ Below w.heap.size w w' := by
  have Q0 := Lib.hid (PK.new 34 K hB)
  have XF := Lib.hid (fun (W : World) (Q : PK w W B w.heap.size k) => kfew_any k B W Q.bz Q.t)
  have HC := Lib.hid C
  have HA := Lib.hid A
  have HP := Lib.hid P
  have HE := Lib.hid hE
  clear K hB C A P hE
  by_cases few : fewK k
  rotate_left
  · rw [decide_eq_false few] at XF
    clear few HC HA HP
    go_enter Tryd.func4, Tryd.ntmps4
    go_wp2_with fail
    refine calls_gen (S := fun W => PK w W B w.heap.size k) Q0.out (fun W1 hS => ?_)
    have Q1 := Lib.hid hS
    clear hS Q0
    refine (XF.out _ Q1.out).mono ?_
    rintro e w2 ⟨rfl, h⟩
    have Q2 := Lib.hid (Q1.out.step h)
    clear h Q1 XF
    go_wp2
    go_ret
    exact ⟨rfl, Q2.out.l⟩
  rw [decide_eq_true few] at XF
  have XP := Lib.hid (fun (W : World) (Q : PK w W B w.heap.size k) => HC.out.right k B W Q.bz few (HE.out.step Q.l) Q.t)
  have XR := Lib.hid (fun (W : World) (Q : PK w W B w.heap.size k) => HC.out.bars k B W Q.bz few Q.t)
  have BN := Lib.hid (show barN k k.t.rn ≤ 1980 by have := barN_le k (q := 99) (fun i hi => by have := few.2.2.2.2 i hi; omega) (m := k.t.rn) (Nat.le_refl _); have := few.2.2.1; omega)
  have FG := Lib.hid few.2.2.2.1
  clear few HC
  have RG := Lib.hid (fun (h : (rgtK k).1 = 0) => rgt_zero h)
  generalize (rgtK k).1 = x1 at *
  generalize (rgtK k).2 = x2 at *
  go_enter Tryd.func4, Tryd.ntmps4
  go_wp2_with fail
  refine calls_gen (S := fun W => PK w W B w.heap.size k) Q0.out (fun W1 hS => ?_)
  have Q1 := Lib.hid hS
  clear hS Q0
  refine (XF.out _ Q1.out).mono ?_
  rintro e w2 ⟨rfl, h⟩
  have Q2 := Lib.hid (Q1.out.step h)
  clear h Q1 XF
  have cs := tk_of Q2.out.c
  unfold TKc at cs
  obtain ⟨c00, c01, c02, c03, c04, c05, c06, c07, c08, c09, c10, c11, c12, c13, c14, c15⟩ := cs
  go_wp2_with fail
  refine (XP.out _ Q2.out).mono ?_
  rintro e w3 ⟨rfl, h⟩
  have Q3 := Lib.hid (Q2.out.step h)
  clear c00 c01 c02 c03 c04 c05 c06 c07 c08 c09 c10 c11 c12 c13 c14 c15
  clear h Q2 XP
  by_cases hz : x1 = 0
  rotate_left
  · have hb : (x1 == 0) = false := beq_false_of_ne hz
    clear RG XR BN HP
    go_wp2_with fail
    refine (HA.out _ (HE.out.step Q3.out.l)).mono ?_
    rintro e w9 ⟨rfl, h⟩
    have Q9 := Lib.hid (Q3.out.step h)
    clear h Q3
    go_wp2
    go_ret
    exact ⟨rfl, Q9.out.l⟩
  obtain ⟨rt, hw, hnb⟩ := RG.out hz
  obtain ⟨hr, hg1, hg⟩ := ways_zero hw
  subst hz
  have RT := Lib.hid rt
  have BL := Lib.hid (fun (j : Nat) (hj : j < barN k k.t.rn) => bars_long hr hj)
  have NB := Lib.hid hnb
  have GL := Lib.hid (fun (j : Nat) (hj : j < k.t.gn) => gates_long (hg j hj))
  have G1 := Lib.hid hg1
  clear RG rt hw hnb hr hg1 hg
  generalize barN k k.t.rn = N at *
  have cs := tk_of Q3.out.c
  unfold TKc at cs
  obtain ⟨c00, c01, c02, c03, c04, c05, c06, c07, c08, c09, c10, c11, c12, c13, c14, c15⟩ := cs
  go_wp2_with fail
  refine (XR.out _ Q3.out).mono ?_
  rintro e w4 ⟨ba, bc, rfl, hD, h⟩
  have Q4 := Lib.hid (Q3.out.step h)
  have D4 := Lib.hid hD
  clear c00 c01 c02 c03 c04 c05 c06 c07 c08 c09 c10 c11 c12 c13 c14 c15
  clear h Q3 XR hD
  have bn := BN.out
  clear BN
  go_wp2
  go_loopw [6] (fun i wr => ∃ j : Nat, j ≤ N ∧ i = .int .i64 j ∧ PK w wr B w.heap.size k ∧ Brs wr ba N bc (barG k)) (fun i _ => N - (intOf i).toNat)
  case atStart => exact ⟨0, by omega, rfl, Q4.out, D4.out⟩
  case round =>
    obtain ⟨j, hj, rfl, hQ, hD⟩ := hrel
    have Q7 := Lib.hid hQ
    have D7 := Lib.hid hD
    clear hQ hD Q4 D4
    have z0 : (0 : Int) ≤ (j : Int) := by omega
    by_cases hlj : j < N
    · obtain ⟨bb, bo, hba, hbb, hbc⟩ := D7.out.at' (by omega)
      obtain ⟨⟨e0, e1⟩, ⟨e2, e3⟩, -⟩ := hbc j hlj
      have c12 := Q7.out.c.c 12 _ rfl
      have c13 := Q7.out.c.c 13 _ rfl
      have z1 : (j : Int) < (N : Int) := by omega
      have cl := Q7.out.c.lt
      obtain ⟨bn, hbn⟩ : ∃ bn, behN k j = bn := ⟨_, rfl⟩
      have V := Lib.hid (fun (W : World) => HP.out (barG k j).ax (barG k j).ay (barG k j).bx (barG k j).by' k.t.sx k.t.sy W)
      have hbe : beyondN ⟨(barG k j).ax, (barG k j).ay⟩ ⟨(barG k j).bx, (barG k j).by'⟩ ⟨k.t.sx, k.t.sy⟩ = bn := hbn
      rw [hbe] at V
      have PB : ¬ (0 < bn ∧ bn < 17179869184) := by rw [← hbn]; exact NB.out j hlj
      have ev : ∀ w : World, (Op.equalIn 10000 24 (.agg #[.int .i64 (barG k j).ax, .int .i64 (barG k j).ay]) (.agg #[.int .i64 (barG k j).bx, .int .i64 (barG k j).by'])).run Tryd.prog w = .ok false w := fun w => by rw [eqV2, BL.out j hlj]
      clear hbe hbn hbc
      subst hba
      generalize (barG k j).ax = x0 at *
      generalize (barG k j).ay = v0 at *
      generalize (barG k j).bx = x1 at *
      generalize (barG k j).by' = v1 at *
      have EV := Lib.hid ev
      have T0 := Lib.hid (show BhS w.heap.size bb (bo + j * 5) k.t.sx k.t.sy x0 v0 x1 v1 _ from ⟨⟨c12, c13⟩, ⟨e0, e1⟩, e2, e3⟩)
      clear ev
      go_wp2_with fail
      refine wp_region_held_drew (S := BhS w.heap.size bb (bo + j * 5) k.t.sx k.t.sy x0 v0 x1 v1) (by kernel_rfl) T0.out (fun hHeld => ?_)
      have Q8 := Lib.hid (Q7.out.step (Below.refl _ _).drew)
      have D8 := Lib.hid (D7.out.step (Below.refl _ _).drew)
      have T1 := Lib.hid (BhS.keep (Below.refl _ _).drew ⟨cl, hbb⟩ T0.out)
      clear Q7 D7 c12 c13 e0 e1 e2 e3 T0
      unfold BhS at hHeld ⊢
      refine wpAnyH_takeD 0 28 (v := ?_) (by kernel_rfl) (by kernel_rfl) (by kernel_rfl) (by kernel_rfl) (by rfl) (fun _ _ _ h => h) ?_ hHeld ?_
      rotate_left 1
      (intro o ho W hSw; simp only [List.getElem?_toArray, List.getElem?_cons_succ, List.getElem?_cons_zero, Option.some.injEq] at ho; subst ho; (try dsimp only at hSw); go_simp; try with_reducible rfl)
      (try simp only [Act.put, List.setIfInBounds_toArray, List.set_cons_zero, List.set_cons_succ])
      refine wpAnyH_takeD 1 29 (v := ?_) (by kernel_rfl) (by kernel_rfl) (by kernel_rfl) (by kernel_rfl) (by rfl) (fun _ _ _ h => h) ?_ hHeld ?_
      rotate_left 1
      (intro o ho W hSw; simp only [List.getElem?_toArray, List.getElem?_cons_succ, List.getElem?_cons_zero, Option.some.injEq] at ho; subst ho; (try dsimp only at hSw); go_simp; try with_reducible rfl)
      (try simp only [Act.put, List.setIfInBounds_toArray, List.set_cons_zero, List.set_cons_succ])
      refine wpAnyH_takeD 2 30 (v := ?_) (by kernel_rfl) (by kernel_rfl) (by kernel_rfl) (by kernel_rfl) (by rfl) (fun _ _ _ h => h) ?_ hHeld ?_
      rotate_left 1
      (intro o ho W hSw; simp only [List.getElem?_toArray, List.getElem?_cons_succ, List.getElem?_cons_zero, Option.some.injEq] at ho; subst ho; (try dsimp only at hSw); go_simp; try with_reducible rfl)
      (try simp only [Act.put, List.setIfInBounds_toArray, List.set_cons_zero, List.set_cons_succ])
      refine wpAnyH_takeD 3 31 (v := ?_) (by kernel_rfl) (by kernel_rfl) (by kernel_rfl) (by kernel_rfl) (by rfl) (fun _ _ _ h => h) ?_ hHeld ?_
      rotate_left 1
      (intro o ho W hSw; simp only [List.getElem?_toArray, List.getElem?_cons_succ, List.getElem?_cons_zero, Option.some.injEq] at ho; subst ho; (try dsimp only at hSw); go_simp; try with_reducible rfl)
      (try simp only [Act.put, List.setIfInBounds_toArray, List.set_cons_zero, List.set_cons_succ])
      refine wpAnyH_takeD 4 32 (v := ?_) (by kernel_rfl) (by kernel_rfl) (by kernel_rfl) (by kernel_rfl) (by rfl) (fun _ _ _ h => h) ?_ hHeld ?_
      rotate_left 1
      (intro o ho W hSw; simp only [List.getElem?_toArray, List.getElem?_cons_succ, List.getElem?_cons_zero, Option.some.injEq] at ho; subst ho; (try dsimp only at hSw); go_simp; try with_reducible rfl)
      (try simp only [Act.put, List.setIfInBounds_toArray, List.set_cons_zero, List.set_cons_succ])
      refine wpAnyH_takeD 5 33 (v := ?_) (by kernel_rfl) (by kernel_rfl) (by kernel_rfl) (by kernel_rfl) (by rfl) (fun _ _ _ h => h) ?_ hHeld ?_
      rotate_left 1
      (intro o ho W hSw; simp only [List.getElem?_toArray, List.getElem?_cons_succ, List.getElem?_cons_zero, Option.some.injEq] at ho; subst ho; (try dsimp only at hSw); go_simp; try with_reducible rfl)
      (try simp only [Act.put, List.setIfInBounds_toArray, List.set_cons_zero, List.set_cons_succ])
      refine wpAnyH_takeD 6 34 (v := ?_) (by kernel_rfl) (by kernel_rfl) (by kernel_rfl) (by kernel_rfl) (by rfl) (fun _ _ _ h => h) ?_ hHeld ?_
      rotate_left 1
      (intro o ho W hSw; simp only [List.getElem?_toArray, List.getElem?_cons_succ, List.getElem?_cons_zero, Option.some.injEq] at ho; subst ho; (try dsimp only at hSw); go_simp; try with_reducible rfl)
      (try simp only [Act.put, List.setIfInBounds_toArray, List.set_cons_zero, List.set_cons_succ])
      refine wpAnyH_takeD 7 35 (v := ?_) (by kernel_rfl) (by kernel_rfl) (by kernel_rfl) (by kernel_rfl) (by rfl) (fun _ _ _ h => h) ?_ hHeld ?_
      rotate_left 1
      (intro o ho W hSw; simp only [List.getElem?_toArray, List.getElem?_cons_succ, List.getElem?_cons_zero, Option.some.injEq] at ho; subst ho; (try dsimp only at hSw); go_simp; try with_reducible rfl)
      (try simp only [Act.put, List.setIfInBounds_toArray, List.set_cons_zero, List.set_cons_succ])
      refine wpAnyH_takeD 8 36 (v := ?_) (by kernel_rfl) (by kernel_rfl) (by kernel_rfl) (by kernel_rfl) (by rfl) (fun _ _ _ h => h) ?_ hHeld ?_
      rotate_left 1
      (intro o ho W hSw; simp only [List.getElem?_toArray, List.getElem?_cons_succ, List.getElem?_cons_zero, Option.some.injEq] at ho; subst ho; (try dsimp only at hSw); go_simp; try with_reducible rfl)
      (try simp only [Act.put, List.setIfInBounds_toArray, List.set_cons_zero, List.set_cons_succ])
      refine wpAnyH_takeD 9 37 (v := ?_) (by kernel_rfl) (by kernel_rfl) (by kernel_rfl) (by kernel_rfl) (by rfl) (fun _ _ _ h => h) ?_ hHeld ?_
      rotate_left 1
      (intro o ho W hSw; simp only [List.getElem?_toArray, List.getElem?_cons_succ, List.getElem?_cons_zero, Option.some.injEq] at ho; subst ho; (try dsimp only at hSw); go_simp; try with_reducible rfl)
      (try simp only [Act.put, List.setIfInBounds_toArray, List.set_cons_zero, List.set_cons_succ])
      refine wpAnyH_takeD 10 38 (v := ?_) (by kernel_rfl) (by kernel_rfl) (by kernel_rfl) (by kernel_rfl) (by rfl) (fun _ _ _ h => h) ?_ hHeld ?_
      rotate_left 1
      (intro o ho W hSw; simp only [List.getElem?_toArray, List.getElem?_cons_succ, List.getElem?_cons_zero, Option.some.injEq] at ho; subst ho; (try dsimp only at hSw); go_simp; try with_reducible rfl)
      (try simp only [Act.put, List.setIfInBounds_toArray, List.set_cons_zero, List.set_cons_succ])
      refine wpAnyH_takeD 11 39 (v := ?_) (by kernel_rfl) (by kernel_rfl) (by kernel_rfl) (by kernel_rfl) (by rfl) (fun _ _ _ h => h) ?_ hHeld ?_
      rotate_left 1
      (intro o ho W hSw; simp only [List.getElem?_toArray, List.getElem?_cons_succ, List.getElem?_cons_zero, Option.some.injEq] at ho; subst ho; (try dsimp only at hSw); go_simp; try with_reducible rfl)
      (try simp only [Act.put, List.setIfInBounds_toArray, List.set_cons_zero, List.set_cons_succ])
      refine wpAnyH_onlyD 12 (by kernel_rfl) (fun o ho K hK => ?_) (by kernel_rfl)
      simp only [List.getElem?_toArray, List.getElem?_cons_succ, List.getElem?_cons_zero, Option.some.injEq] at ho
      subst ho
      go_simp
      refine (V.out _).mono ?_
      rintro e w8 ⟨rfl, h⟩
      have Q9 := Lib.hid (Q8.out.step h)
      have D9 := Lib.hid (D8.out.step h)
      have T2 := BhS.keep h ⟨cl, hbb⟩ T1.out
      go_wp2_with fail
      refine hK.out _ _ (BhS.keep h ⟨cl, hbb⟩ T1.out) ?_
      clear hK K hHeld
      intro hHeld
      have hb9 : bb < w8.heap.size := by have := h.size; have : bb < wr.heap.size := hbb; simp at *; omega
      clear V Q8 D8 T1 h
      refine wpAnyH_takeD 13 7 (v := ?_) (by kernel_rfl) (by kernel_rfl) (by kernel_rfl) (by kernel_rfl) (by rfl) (fun _ _ _ h => h) ?_ hHeld ?_
      rotate_left 1
      (intro o ho W hSw; simp only [List.getElem?_toArray, List.getElem?_cons_succ, List.getElem?_cons_zero, Option.some.injEq] at ho; subst ho; (try dsimp only at hSw); go_simp; try with_reducible rfl)
      (try simp only [Act.put, List.setIfInBounds_toArray, List.set_cons_zero, List.set_cons_succ])
      refine wpAnyH_done (by kernel_rfl) ?_ _
      clear hHeld
      unfold BhS at T2
      obtain ⟨-, ⟨e0, e1⟩, e2, e3⟩ := T2
      have ev := EV.out
      by_cases g0 : 0 < bn
      · have g1 : ¬ bn < 17179869184 := fun c => PB ⟨g0, c⟩
        clear PB
        go_wp2
        go_quiet (fail)
        clear ev e0 e1 e2 e3
        go_wp2
        go_roundw
        case rel => exact ⟨j + 1, by omega, by go_num, Q9.out.step (by repeat (first | exact Below.refl _ _ | assumption | refine Below.setCell ?_ (by first | omega | (simp; done) | (simp; omega)) _ | refine Below.alloc ?_ (by first | omega | (simp; done) | (simp; omega)) _ | refine below_drewN ?_ _ | refine Below.drew ?_ | refine Below.trans ?_ (Below.mono (by assumption) (by first | omega | (simp; done) | (simp; omega))))), D9.out.step (by repeat (first | exact Below.refl _ _ | assumption | refine Below.setCell ?_ (by first | omega | (simp; done) | (simp; omega)) _ | refine Below.alloc ?_ (by first | omega | (simp; done) | (simp; omega)) _ | refine below_drewN ?_ _ | refine Below.drew ?_ | refine Below.trans ?_ (Below.mono (by assumption) (by first | omega | (simp; done) | (simp; omega)))))⟩
        case measure => simp [intOf]; omega
      · have gb : decide (0 < bn) = false := decide_eq_false g0
        clear PB
        go_wp2
        go_quiet (fail)
        clear ev e0 e1 e2 e3
        go_wp2
        go_roundw
        case rel => exact ⟨j + 1, by omega, by go_num, Q9.out.step (by repeat (first | exact Below.refl _ _ | assumption | refine Below.setCell ?_ (by first | omega | (simp; done) | (simp; omega)) _ | refine Below.alloc ?_ (by first | omega | (simp; done) | (simp; omega)) _ | refine below_drewN ?_ _ | refine Below.drew ?_ | refine Below.trans ?_ (Below.mono (by assumption) (by first | omega | (simp; done) | (simp; omega))))), D9.out.step (by repeat (first | exact Below.refl _ _ | assumption | refine Below.setCell ?_ (by first | omega | (simp; done) | (simp; omega)) _ | refine Below.alloc ?_ (by first | omega | (simp; done) | (simp; omega)) _ | refine below_drewN ?_ _ | refine Below.drew ?_ | refine Below.trans ?_ (Below.mono (by assumption) (by first | omega | (simp; done) | (simp; omega)))))⟩
        case measure => simp [intOf]; omega
    · have e : j = N := by omega
      subst e
      clear D7 BL NB HP
      have hjb := FG.out
      go_wp2
      go_loopw [8] (fun i wq => ∃ q : Nat, q ≤ k.t.gn ∧ i = .int .i64 q ∧ PK w wq B w.heap.size k) (fun i _ => k.t.gn - (intOf i).toNat)
      case atStart => exact ⟨0, by omega, rfl, Q7.out⟩
      case round =>
        obtain ⟨q, hq, rfl, hQ⟩ := hrel
        have Q4 := Lib.hid hQ
        clear hQ Q7
        have c11 := Q4.out.c.c 11 _ rfl
        have cl4 := Q4.out.c.lt
        by_cases hlt : q < k.t.gn
        · obtain ⟨gb, go, hga, hgb, hgc⟩ := Q4.out.t.G (by omega)
          obtain ⟨⟨a0, a1⟩, ⟨a2, a3⟩, -⟩ := hgc q hlt
          have hgb' := Nat.lt_of_lt_of_le hgb Q4.out.bz
          rw [hga] at c11
          have y0 : (0 : Int) ≤ (q : Int) := by omega
          have y1 : (q : Int) < (k.t.gn : Int) := by omega
          have ev : ∀ w : World, (Op.equalIn 10000 24 (.agg #[.int .i64 (k.G q).ax, .int .i64 (k.G q).ay]) (.agg #[.int .i64 (k.G q).bx, .int .i64 (k.G q).by'])).run Tryd.prog w = .ok false w := fun w => by rw [eqV2, GL.out q hlt]
          clear hgc hga hgb
          generalize (k.G q).ax = x0 at *
          generalize (k.G q).ay = v0 at *
          generalize (k.G q).bx = x1 at *
          generalize (k.G q).by' = v1 at *
          go_wp2
          go_quiet (fail)
          clear ev a0 a1 a2 a3 c11
          go_wp2
          go_roundw
          case rel => exact ⟨q + 1, by omega, by go_num, Q4.out.step (by repeat (first | exact Below.refl _ _ | assumption | refine Below.setCell ?_ (by first | omega | (simp; done) | (simp; omega)) _ | refine Below.alloc ?_ (by first | omega | (simp; done) | (simp; omega)) _ | refine below_drewN ?_ _ | refine Below.drew ?_ | refine Below.trans ?_ (Below.mono (by assumption) (by first | omega | (simp; done) | (simp; omega)))))⟩
          case measure => simp [intOf]; omega
        · have e : q = k.t.gn := by omega
          subst e
          have g : (0 : Int) < (k.t.gn : Int) := by have := G1.out; omega
          have r : 60 ≤ k.t.rate := RT.out
          have c00 := Q4.out.c.c 0 _ rfl
          clear GL G1 RT
          go_wp2_with fail
          refine (HA.out _ (HE.out.step Q4.out.l)).mono ?_
          rintro e w9 ⟨rfl, h⟩
          have Q9 := Lib.hid (Q4.out.step h)
          clear h Q4
          go_wp2
          go_ret
          exact ⟨rfl, Q9.out.l⟩
end Go.Proofs.YtjbalpmcnihhpaaDoor
