/- The program's track: the first error; Right. -/
import Derived.Test.YtjbalpmcnihhpaaDoorB2
import Derived.Test.YtjbalpmcnihhpaaDoorB3
namespace Go.Proofs.YtjbalpmcnihhpaaDoor
open Go.RowKit
set_option linter.unusedVariables false
set_option linter.unusedSimpArgs false

theorem fstI_ne {f : Nat → Int} : ∀ {n : Nat}, fstI f n < n → f (fstI f n) ≠ 0
  | 0, h => absurd h (by omega)
  | n + 1, h => by
    rw [show fstI f (n + 1) = if fstI f n < n then fstI f n else if f n = 0 then n + 1 else n from rfl] at h ⊢
    by_cases a : fstI f n < n
    · rw [if_pos a]; exact fstI_ne a
    · rw [if_neg a] at h ⊢
      by_cases b : f n = 0
      · rw [if_pos b] at h; omega
      · rw [if_neg b]; exact b
/-- what is wrong with part j -/
noncomputable def prtE (k : Tk) (j : Nat) : Int × Int :=
  if j = 0 then rateE k else if j = 1 then (rightFd k.t, 0) else if j = 2 then (linE k, 0) else if j = 3 then rlsE k else if j = 4 then gtsE k else if j = 5 then staE k else lapE k
theorem rgt_parts (k : Tk) :
    rgtK k = if (rateE k).1 ≠ 0 then rateE k else if rightFd k.t ≠ 0 then (rightFd k.t, 0) else if linE k ≠ 0 then (linE k, 0) else if (rlsE k).1 ≠ 0 then rlsE k else if (gtsE k).1 ≠ 0 then gtsE k else if (staE k).1 ≠ 0 then staE k else if (lapE k).1 ≠ 0 then lapE k else (0, 0) := by
  have hw : waysE k = if (rlsE k).1 ≠ 0 then rlsE k else if (gtsE k).1 ≠ 0 then gtsE k else (0, 0) := by
    have r0 : fstI (fun i => railE (k.R i)) k.t.rn < k.t.rn → railE (k.R (fstI (fun i => railE (k.R i)) k.t.rn)) ≠ 0 := fun h => fstI_ne h
    have g0 : fstI (fun i => gateE (k.G i)) k.t.gn < k.t.gn → gateE (k.G (fstI (fun i => gateE (k.G i)) k.t.gn)) ≠ 0 := fun h => fstI_ne h
    unfold waysE rlsE gtsE
    by_cases h1 : 16 < k.t.rn
    · simp [h1]
    · by_cases h2 : fstI (fun i => railE (k.R i)) k.t.rn < k.t.rn
      · simp [h1, h2, r0 h2]
      · by_cases h3 : k.t.gn < 1 ∨ 16 < k.t.gn
        · simp only [if_neg h1, if_neg h2, if_pos h3]; simp
        · by_cases h4 : fstI (fun i => gateE (k.G i)) k.t.gn < k.t.gn
          · simp only [if_neg h1, if_neg h2, if_neg h3, if_pos h4]; simp [g0 h4]
          · simp only [if_neg h1, if_neg h2, if_neg h3, if_neg h4]; simp
  unfold rgtK
  rw [hw]
  unfold rateE linE staE lapE
  by_cases h1 : k.t.rate < 60 ∨ 1024 < k.t.rate
  · simp [h1]
  by_cases h2 : rightFd k.t = 0
  rotate_left
  · simp [h1, h2]
  by_cases h3 : lineR k.line.n k.line.x k.line.y = 0
  rotate_left
  · simp [h1, h2, h3]
  by_cases h4 : hlfN k.line.n k.line.x k.line.y
  rotate_left
  · simp [h1, h2, h3, h4]
  by_cases h5 : (rlsE k).1 = 0
  rotate_left
  · simp [h1, h2, h3, h4, h5]
  by_cases h6 : (gtsE k).1 = 0
  rotate_left
  · simp [h1, h2, h3, h4, h5, h6]
  by_cases h7 : rectP k.t
  rotate_left
  · simp [h1, h2, h3, h4, h5, h6, h7]
  by_cases h8 : ∀ j, j < barN k k.t.rn → ¬ behP k j
  rotate_left
  · simp only [if_pos h8]; simp [h1, h2, h3, h4, h5, h6, h7]
  by_cases h9 : k.t.laps < 1 ∨ 100 < k.t.laps
  · simp only [if_neg (not_not_intro h8)]; simp [h1, h2, h3, h4, h5, h6, h7, h9]
  · simp only [if_neg (not_not_intro h8)]; simp [h1, h2, h3, h4, h5, h6, h7, h9]
theorem rgt_none {k : Tk} (h : (rgtK k).1 = 0) : rgtK k = (0, 0) := by
  rw [rgt_parts] at h ⊢
  repeat' split at h
  all_goals (first | contradiction | simp_all)
theorem rgt_at {k : Tk} {j : Nat} (hj : j < 7) (h0 : ∀ i, i < j → (prtE k i).1 = 0) (hn : ¬ (prtE k j).1 = 0) : rgtK k = prtE k j := by
  rw [rgt_parts]
  have a0 := fun h => h0 0 h
  have a1 := fun h => h0 1 h
  have a2 := fun h => h0 2 h
  have a3 := fun h => h0 3 h
  have a4 := fun h => h0 4 h
  have a5 := fun h => h0 5 h
  clear h0
  rcases (show j = 0 ∨ j = 1 ∨ j = 2 ∨ j = 3 ∨ j = 4 ∨ j = 5 ∨ j = 6 by omega) with e | e | e | e | e | e | e <;> subst e <;> simp [prtE] at hn a0 a1 a2 a3 a4 a5 ⊢ <;> simp [*]
theorem rgt_zeros {k : Tk} (h0 : ∀ i, i < 7 → (prtE k i).1 = 0) : rgtK k = (0, 0) := by
  rw [rgt_parts]
  have a0 := h0 0 (by omega)
  have a1 := h0 1 (by omega)
  have a2 := h0 2 (by omega)
  have a3 := h0 3 (by omega)
  have a4 := h0 4 (by omega)
  have a5 := h0 5 (by omega)
  have a6 := h0 6 (by omega)
  clear h0
  simp [prtE] at a0 a1 a2 a3 a4 a5 a6 ⊢
  simp [*]
/-- a list of parts, each told by a function of its own -/
def prtF : List Value := [.func (.func 26) #[] #[], .func (.func 27) #[] #[], .func (.func 28) #[] #[], .func (.func 29) #[] #[], .func (.func 30) #[] #[], .func (.func 31) #[] #[], .func (.func 32) #[] #[]]
set_option maxRecDepth 100000 in
set_option maxHeartbeats 8000000 in
theorem tkFirst_any (k : Tk) (B : Nat) (w : World) (hB : B ≤ w.heap.size) (few : fewR k) (K : TkM B w k) :
    Calls Tryd.prog 14 #[trkV k.t] w fun e w' => e = .returned (erV (rgtK k)) ∧ Below w.heap.size w w' := by
  have Q0 := Lib.hid (PK.new 34 K hB)
  obtain ⟨q, hq⟩ : ∃ q, erV (rgtK k) = q := ⟨_, rfl⟩
  rw [hq]
  have WE := Lib.hid (fun (a : Int × Int) (h : rgtK k = a) => show erV a = q by rw [← hq, h])
  have FW := Lib.hid few
  clear hq K few
  go_enter Tryd.func14, Tryd.ntmps14
  go_wp2_with fail
  refine wp_gen (S := fun W => PK w W B w.heap.size k ∧ BW W (w.heap.size + 1) prtF) ⟨Q0.out.step ((Below.refl _ _).alloc (Nat.le_refl _) _), BW.new _ _ prtF _ (by simp)⟩ (fun W1 hS => ?_)
  have Q1 := Lib.hid hS.1
  have F1 := Lib.hid hS.2
  clear hS Q0
  go_loopw [8] (fun i wr => ∃ j : Nat, j ≤ 7 ∧ i = .int .i64 j ∧ Hid (∀ i, i < j → (prtE k i).1 = 0) ∧ PK w wr B w.heap.size k ∧ BW wr (w.heap.size + 1) prtF) (fun i _ => 7 - (intOf i).toNat)
  case atStart => exact ⟨0, by omega, rfl, Lib.hid (fun i h => absurd h (by omega)), Q1.out, F1.out⟩
  case round =>
    obtain ⟨j, hj, rfl, I, hQ, hF⟩ := hrel
    have Q2 := Lib.hid hQ
    have F2 := Lib.hid hF
    clear hQ hF Q1 F1
    by_cases hlt : j < 7
    · rcases (show j = 0 ∨ j = 1 ∨ j = 2 ∨ j = 3 ∨ j = 4 ∨ j = 5 ∨ j = 6 by omega) with e | e | e | e | e | e | e
      · subst e
        have cf := F2.out.c 0 _ rfl
        have cs := tk_of Q2.out.c
        unfold TKc at cs
        obtain ⟨c00, c01, c02, c03, c04, c05, c06, c07, c08, c09, c10, c11, c12, c13, c14, c15⟩ := cs
        have pv : prtE k 0 = rateE k := rfl
        (try rw [show ((0 : Nat) : Int) = 0 from rfl])
        go_wp2_with fail
        refine (tkRate_any k B _ Q2.out.bz Q2.out.t).mono ?_
        rintro e w3 ⟨rfl, h⟩
        have Q3 := Lib.hid (Q2.out.step h)
        have F3 := Lib.hid (F2.out.below h F2.out.lt)
        clear h Q2 F2 cf c00 c01 c02 c03 c04 c05 c06 c07 c08 c09 c10 c11 c12 c13 c14 c15
        by_cases hz : (rateE k).1 = 0
        · have I2 := Lib.hid (all_next' (P := fun i => (prtE k i).1 = 0) I.out (by rw [pv]; exact hz))
          rw [erV_no hz]
          clear hz pv I WE
          go_wp2
          go_roundw
          case rel => exact ⟨0 + 1, by omega, by go_num, I2, Q3.out, F3.out⟩
          case measure => simp [intOf]
        · have E := Lib.hid (WE.out _ ((rgt_at (by omega) I.out (by rw [pv]; exact hz)).trans pv))
          rw [erV_is hz] at E ⊢
          clear hz pv I WE
          go_wp2
          go_ret
          exact ⟨by rw [← E.out]; rfl, Q3.out.l⟩
      · subst e
        have cf := F2.out.c 1 _ rfl
        have cs := tk_of Q2.out.c
        unfold TKc at cs
        obtain ⟨c00, c01, c02, c03, c04, c05, c06, c07, c08, c09, c10, c11, c12, c13, c14, c15⟩ := cs
        have pv : prtE k 1 = (rightFd k.t, (0 : Int)) := rfl
        (try rw [show ((1 : Nat) : Int) = 1 from rfl])
        go_wp2_with fail
        refine (tkGround_any k B _ Q2.out.bz Q2.out.t).mono ?_
        rintro e w3 ⟨rfl, h⟩
        have Q3 := Lib.hid (Q2.out.step h)
        have F3 := Lib.hid (F2.out.below h F2.out.lt)
        clear h Q2 F2 cf c00 c01 c02 c03 c04 c05 c06 c07 c08 c09 c10 c11 c12 c13 c14 c15
        by_cases hz : ((rightFd k.t, (0 : Int))).1 = 0
        · have I2 := Lib.hid (all_next' (P := fun i => (prtE k i).1 = 0) I.out (by rw [pv]; exact hz))
          rw [erV_no hz]
          clear hz pv I WE
          go_wp2
          go_roundw
          case rel => exact ⟨1 + 1, by omega, by go_num, I2, Q3.out, F3.out⟩
          case measure => simp [intOf]
        · have E := Lib.hid (WE.out _ ((rgt_at (by omega) I.out (by rw [pv]; exact hz)).trans pv))
          rw [erV_is hz] at E ⊢
          clear hz pv I WE
          go_wp2
          go_ret
          exact ⟨by rw [← E.out]; rfl, Q3.out.l⟩
      · subst e
        have cf := F2.out.c 2 _ rfl
        have cs := tk_of Q2.out.c
        unfold TKc at cs
        obtain ⟨c00, c01, c02, c03, c04, c05, c06, c07, c08, c09, c10, c11, c12, c13, c14, c15⟩ := cs
        have pv : prtE k 2 = (linE k, (0 : Int)) := rfl
        (try rw [show ((2 : Nat) : Int) = 2 from rfl])
        go_wp2_with fail
        refine (tkLine_any k B _ Q2.out.bz FW.out Q2.out.t).mono ?_
        rintro e w3 ⟨rfl, h⟩
        have Q3 := Lib.hid (Q2.out.step h)
        have F3 := Lib.hid (F2.out.below h F2.out.lt)
        clear h Q2 F2 cf c00 c01 c02 c03 c04 c05 c06 c07 c08 c09 c10 c11 c12 c13 c14 c15
        by_cases hz : ((linE k, (0 : Int))).1 = 0
        · have I2 := Lib.hid (all_next' (P := fun i => (prtE k i).1 = 0) I.out (by rw [pv]; exact hz))
          rw [erV_no hz]
          clear hz pv I WE
          go_wp2
          go_roundw
          case rel => exact ⟨2 + 1, by omega, by go_num, I2, Q3.out, F3.out⟩
          case measure => simp [intOf]
        · have E := Lib.hid (WE.out _ ((rgt_at (by omega) I.out (by rw [pv]; exact hz)).trans pv))
          rw [erV_is hz] at E ⊢
          clear hz pv I WE
          go_wp2
          go_ret
          exact ⟨by rw [← E.out]; rfl, Q3.out.l⟩
      · subst e
        have cf := F2.out.c 3 _ rfl
        have cs := tk_of Q2.out.c
        unfold TKc at cs
        obtain ⟨c00, c01, c02, c03, c04, c05, c06, c07, c08, c09, c10, c11, c12, c13, c14, c15⟩ := cs
        have pv : prtE k 3 = rlsE k := rfl
        (try rw [show ((3 : Nat) : Int) = 3 from rfl])
        go_wp2_with fail
        refine (tkRails_any k B _ Q2.out.bz FW.out Q2.out.t).mono ?_
        rintro e w3 ⟨rfl, h⟩
        have Q3 := Lib.hid (Q2.out.step h)
        have F3 := Lib.hid (F2.out.below h F2.out.lt)
        clear h Q2 F2 cf c00 c01 c02 c03 c04 c05 c06 c07 c08 c09 c10 c11 c12 c13 c14 c15
        by_cases hz : (rlsE k).1 = 0
        · have I2 := Lib.hid (all_next' (P := fun i => (prtE k i).1 = 0) I.out (by rw [pv]; exact hz))
          rw [erV_no hz]
          clear hz pv I WE
          go_wp2
          go_roundw
          case rel => exact ⟨3 + 1, by omega, by go_num, I2, Q3.out, F3.out⟩
          case measure => simp [intOf]
        · have E := Lib.hid (WE.out _ ((rgt_at (by omega) I.out (by rw [pv]; exact hz)).trans pv))
          rw [erV_is hz] at E ⊢
          clear hz pv I WE
          go_wp2
          go_ret
          exact ⟨by rw [← E.out]; rfl, Q3.out.l⟩
      · subst e
        have cf := F2.out.c 4 _ rfl
        have cs := tk_of Q2.out.c
        unfold TKc at cs
        obtain ⟨c00, c01, c02, c03, c04, c05, c06, c07, c08, c09, c10, c11, c12, c13, c14, c15⟩ := cs
        have pv : prtE k 4 = gtsE k := rfl
        (try rw [show ((4 : Nat) : Int) = 4 from rfl])
        go_wp2_with fail
        refine (tkGates_any k B _ Q2.out.bz FW.out Q2.out.t).mono ?_
        rintro e w3 ⟨rfl, h⟩
        have Q3 := Lib.hid (Q2.out.step h)
        have F3 := Lib.hid (F2.out.below h F2.out.lt)
        clear h Q2 F2 cf c00 c01 c02 c03 c04 c05 c06 c07 c08 c09 c10 c11 c12 c13 c14 c15
        by_cases hz : (gtsE k).1 = 0
        · have I2 := Lib.hid (all_next' (P := fun i => (prtE k i).1 = 0) I.out (by rw [pv]; exact hz))
          rw [erV_no hz]
          clear hz pv I WE
          go_wp2
          go_roundw
          case rel => exact ⟨4 + 1, by omega, by go_num, I2, Q3.out, F3.out⟩
          case measure => simp [intOf]
        · have E := Lib.hid (WE.out _ ((rgt_at (by omega) I.out (by rw [pv]; exact hz)).trans pv))
          rw [erV_is hz] at E ⊢
          clear hz pv I WE
          go_wp2
          go_ret
          exact ⟨by rw [← E.out]; rfl, Q3.out.l⟩
      · subst e
        have cf := F2.out.c 5 _ rfl
        have cs := tk_of Q2.out.c
        unfold TKc at cs
        obtain ⟨c00, c01, c02, c03, c04, c05, c06, c07, c08, c09, c10, c11, c12, c13, c14, c15⟩ := cs
        have pv : prtE k 5 = staE k := rfl
        (try rw [show ((5 : Nat) : Int) = 5 from rfl])
        go_wp2_with fail
        refine (tkStart_any k B _ Q2.out.bz FW.out (I.out 1 (by omega)) Q2.out.t).mono ?_
        rintro e w3 ⟨rfl, h⟩
        have Q3 := Lib.hid (Q2.out.step h)
        have F3 := Lib.hid (F2.out.below h F2.out.lt)
        clear h Q2 F2 cf c00 c01 c02 c03 c04 c05 c06 c07 c08 c09 c10 c11 c12 c13 c14 c15
        by_cases hz : (staE k).1 = 0
        · have I2 := Lib.hid (all_next' (P := fun i => (prtE k i).1 = 0) I.out (by rw [pv]; exact hz))
          rw [erV_no hz]
          clear hz pv I WE
          go_wp2
          go_roundw
          case rel => exact ⟨5 + 1, by omega, by go_num, I2, Q3.out, F3.out⟩
          case measure => simp [intOf]
        · have E := Lib.hid (WE.out _ ((rgt_at (by omega) I.out (by rw [pv]; exact hz)).trans pv))
          rw [erV_is hz] at E ⊢
          clear hz pv I WE
          go_wp2
          go_ret
          exact ⟨by rw [← E.out]; rfl, Q3.out.l⟩
      · subst e
        have cf := F2.out.c 6 _ rfl
        have cs := tk_of Q2.out.c
        unfold TKc at cs
        obtain ⟨c00, c01, c02, c03, c04, c05, c06, c07, c08, c09, c10, c11, c12, c13, c14, c15⟩ := cs
        have pv : prtE k 6 = lapE k := rfl
        (try rw [show ((6 : Nat) : Int) = 6 from rfl])
        go_wp2_with fail
        refine (tkLaps_any k B _ Q2.out.bz Q2.out.t).mono ?_
        rintro e w3 ⟨rfl, h⟩
        have Q3 := Lib.hid (Q2.out.step h)
        have F3 := Lib.hid (F2.out.below h F2.out.lt)
        clear h Q2 F2 cf c00 c01 c02 c03 c04 c05 c06 c07 c08 c09 c10 c11 c12 c13 c14 c15
        by_cases hz : (lapE k).1 = 0
        · have I2 := Lib.hid (all_next' (P := fun i => (prtE k i).1 = 0) I.out (by rw [pv]; exact hz))
          rw [erV_no hz]
          clear hz pv I WE
          go_wp2
          go_roundw
          case rel => exact ⟨6 + 1, by omega, by go_num, I2, Q3.out, F3.out⟩
          case measure => simp [intOf]
        · have E := Lib.hid (WE.out _ ((rgt_at (by omega) I.out (by rw [pv]; exact hz)).trans pv))
          rw [erV_is hz] at E ⊢
          clear hz pv I WE
          go_wp2
          go_ret
          exact ⟨by rw [← E.out]; rfl, Q3.out.l⟩
    · have e : j = 7 := by omega
      subst e
      have E := Lib.hid (WE.out _ (rgt_zeros I.out))
      clear I WE
      go_wp2
      go_ret
      exact ⟨by rw [← E.out]; rfl, Q2.out.l⟩
/-- a track's copy, a number, a fault -/
def RtS (w W : World) (B : Nat) (k : Tk) (a b c : Int) : Prop := PK w W B w.heap.size k ∧ BW W (w.heap.size + 1) [.int .i64 a] ∧ BW W (w.heap.size + 1 + 1) [.int .i64 b, .int .i64 c]
theorem RtS.step {w W W' : World} {B : Nat} {k : Tk} {a b c : Int} (S : RtS w W B k a b c) (h : Below W.heap.size W W') : RtS w W' B k a b c :=
  ⟨S.1.step h, S.2.1.below h S.2.1.lt, S.2.2.below h S.2.2.lt⟩
theorem RtS.num {w W : World} {B : Nat} {k : Tk} {a b c : Int} (S : RtS w W B k a b c) (x : Int) : RtS w (W.setCell ⟨w.heap.size + 1, 0, none⟩ (.int .i64 x)) B k x b c :=
  ⟨S.1.stepB (C := w.heap.size + 1) (by repeat (first | exact Below.refl _ _ | assumption | refine Below.setCell ?_ (by first | omega | (simp; done) | (simp; omega)) _ | refine Below.alloc ?_ (by first | omega | (simp; done) | (simp; omega)) _ | refine below_drewN ?_ _ | refine Below.drew ?_ | refine Below.trans ?_ (Below.mono (by assumption) (by first | omega | (simp; done) | (simp; omega))))) (by omega) (by omega), ⟨fun i v e => by
    match i, e with
    | 0, e => cases e; exact World.cell?_setCell_same _ _ _ (S.2.1.c 0 _ rfl)
    | i + 1, e => exact absurd e (by simp), fun j => by rw [World.frozen?_setCell]; exact S.2.1.f j, by have := S.2.1.lt; simpa using this⟩,
    ⟨fun i v e => (World.cell?_setCell_other _ _ _ _ (by simp)).trans (S.2.2.c i v e), fun j => by rw [World.frozen?_setCell]; exact S.2.2.f j, by have := S.2.2.lt; simpa using this⟩⟩
theorem RtS.flt {w W : World} {B : Nat} {k : Tk} {a b c : Int} (S : RtS w W B k a b c) (x y : Int) : RtS w ((W.setCell ⟨w.heap.size + 1 + 1, 0, none⟩ (.int .i64 x)).setCell ⟨w.heap.size + 1 + 1, 1, none⟩ (.int .i64 y)) B k a x y :=
  ⟨S.1.stepB (C := w.heap.size + 1) (by repeat (first | exact Below.refl _ _ | assumption | refine Below.setCell ?_ (by first | omega | (simp; done) | (simp; omega)) _ | refine Below.alloc ?_ (by first | omega | (simp; done) | (simp; omega)) _ | refine below_drewN ?_ _ | refine Below.drew ?_ | refine Below.trans ?_ (Below.mono (by assumption) (by first | omega | (simp; done) | (simp; omega))))) (by omega) (by omega),
    ⟨fun i v e => (World.cell?_setCell_other _ _ _ _ (by simp)).trans ((World.cell?_setCell_other _ _ _ _ (by simp)).trans (S.2.1.c i v e)), fun j => by rw [World.frozen?_setCell, World.frozen?_setCell]; exact S.2.1.f j, by have := S.2.1.lt; simpa using this⟩,
    ⟨fun i v e => by
      match i, e with
      | 0, e => cases e; exact (World.cell?_setCell_other _ _ _ _ (by simp)).trans (World.cell?_setCell_same _ _ _ (S.2.2.c 0 _ rfl))
      | 1, e => cases e; exact World.cell?_setCell_same _ _ _ ((World.cell?_setCell_other _ _ _ _ (by simp)).trans (S.2.2.c 1 _ rfl))
      | i + 2, e => exact absurd e (by simp), fun j => by rw [World.frozen?_setCell, World.frozen?_setCell]; exact S.2.2.f j, by have := S.2.2.lt; simpa using this⟩⟩
set_option maxRecDepth 100000 in
set_option maxHeartbeats 8000000 in
theorem tkRight_any (k : Tk) (B : Nat) (w : World) (hB : B ≤ w.heap.size) (hE : ErT w) (few : fewR k) (K : TkM B w k) :
    Calls Tryd.prog 10 #[trkV k.t] w fun e w' => e = .returned (.tuple #[.int .i64 (rgtK k).1, .int .i64 (rgtK k).2]) ∧ Below w.heap.size w w' := by
  have Q0 := Lib.hid (PK.new 34 K hB)
  have HE := Lib.hid hE
  have FW := Lib.hid few
  obtain ⟨x1, hx1⟩ : ∃ x, (rgtK k).1 = x := ⟨_, rfl⟩
  obtain ⟨x2, hx2⟩ : ∃ x, (rgtK k).2 = x := ⟨_, rfl⟩
  rw [hx1, hx2]
  have HX := Lib.hid (And.intro hx1 hx2)
  clear hE few K hB hx1 hx2
  go_enter Tryd.func10, Tryd.ntmps10
  go_wp2_with fail
  refine calls_gen (S := fun W => RtS w W B k 0 0 0) ⟨Q0.out.stepB (C := w.heap.size + 1) (by repeat (first | exact Below.refl _ _ | assumption | refine Below.setCell ?_ (by first | omega | (simp; done) | (simp; omega)) _ | refine Below.alloc ?_ (by first | omega | (simp; done) | (simp; omega)) _ | refine below_drewN ?_ _ | refine Below.drew ?_ | refine Below.trans ?_ (Below.mono (by assumption) (by first | omega | (simp; done) | (simp; omega))))) (by omega) (by omega), (BW.new _ _ [_] _ (by simp)).alloc _, BW.new _ _ [_, _] _ (by simp)⟩ (fun W1 hS => ?_)
  have S1 := Lib.hid hS
  clear hS Q0
  refine (tkFirst_any k B _ S1.out.1.bz FW.out S1.out.1.t).mono ?_
  rintro e w2 ⟨rfl, h⟩
  have S2 := Lib.hid (S1.out.step h)
  clear h S1 FW
  by_cases hz : (rgtK k).1 = 0
  · have E := Lib.hid (rgt_none hz)
    rw [erV_no hz]
    clear hz
    go_wp2_with fail
    refine (erAs_nil _ _).mono ?_
    rintro e w3 ⟨rfl, rfl⟩
    go_wp2
    go_ret2
    exact ⟨by rw [← HX.out.1, ← HX.out.2, E.out]; rfl, S2.out.1.l⟩
  · rw [erV_is hz, HX.out.1, HX.out.2]
    clear hz
    go_wp2_with fail
    refine (erAs_num x1 x2 (w.heap.size + 1) _ _ (HE.out.step S2.out.1.l) (S2.out.2.1.c 0 _ rfl) S2.out.2.1.f).mono ?_
    rintro e w3 ⟨rfl, w3', h, rfl⟩
    have S3 := Lib.hid ((S2.out.step h).num x1)
    clear h S2
    go_wp2_with fail
    refine (erAs_fault x1 x2 (w.heap.size + 1 + 1) _ _ _ (HE.out.step S3.out.1.l) (S3.out.2.2.c 0 _ rfl) (S3.out.2.2.c 1 _ rfl) S3.out.2.2.f).mono ?_
    rintro e w4 ⟨rfl, w4', h, rfl⟩
    have S4 := Lib.hid ((S3.out.step h).flt x1 x2)
    clear h S3
    generalize (w4'.setCell ⟨w.heap.size + 1 + 1, 0, none⟩ (.int .i64 x1)).setCell ⟨w.heap.size + 1 + 1, 1, none⟩ (.int .i64 x2) = w5 at *
    have c0 := S4.out.2.1.c 0 _ rfl
    have c1 := S4.out.2.2.c 1 _ rfl
    go_wp2
    go_quiet (fail)
    go_wp2
    go_ret2
    exact ⟨rfl, below_drewN S4.out.1.l _⟩
/-- what the program's track tells -/
theorem trackC : TrackC :=
  ⟨fun k B w hB few hE K => tkRight_any k B w hB hE few.2 K, fun k B w hB few K => tkBars_any k B w hB few.2 K⟩
end Go.Proofs.YtjbalpmcnihhpaaDoor
