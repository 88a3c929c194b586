/- The program's track: what is wrong with each part. -/
import Derived.Test.YtjbalpmcnihhpaaGreatDoorB1
import Derived.Test.YtjbalpmcnihhpaaGreatDoorEt
import Derived.Test.YtjbalpmcnihhpaaGreatDoorBl
import Derived.Test.YtjbalpmcnihhpaaGreatDoorS1
namespace Go.Proofs.YtjbalpmcnihhpaaGreatDoor
open Go.RowKit
set_option linter.unusedVariables false
set_option linter.unusedSimpArgs false

/-- an error's value: its number and its position; none -/
def erV (p : Int × Int) : Value := if p.1 = 0 then .nilIface else .iface 41 (.agg #[.int .i64 p.1, .int .i64 p.2])
theorem erV_no {p : Int × Int} (h : p.1 = 0) : erV p = .nilIface := if_pos h
theorem erV_is {p : Int × Int} (h : ¬ p.1 = 0) : erV p = .iface 41 (.agg #[.int .i64 p.1, .int .i64 p.2]) := if_neg h
theorem tkAt_any (p n : Int) (w : World) :
    Calls Tryz.prog 48 #[.int .i64 p, .int .i64 n] w fun e w' => e = .returned (erV (n, p)) ∧ w' = w := by
  by_cases hz : n = 0
  · rw [erV_no (p := (n, p)) hz]
    subst hz
    go_enter Tryz.func48, Tryz.ntmps48
    go_wp2
    go_ret
    exact ⟨rfl, rfl⟩
  · rw [erV_is (p := (n, p)) hz]
    have hb : (n == 0) = false := beq_false_of_ne hz
    go_enter Tryz.func48, Tryz.ntmps48
    go_wp2
    go_ret
    exact ⟨rfl, rfl⟩
/-- what is wrong with the parts -/
def rateE (k : Tk) : Int × Int := if k.t.rate < 60 ∨ 1024 < k.t.rate then (40, 0) else (0, 0)
def linE (k : Tk) : Int := if lineR k.line.n k.line.x k.line.y ≠ 0 then lineR k.line.n k.line.x k.line.y else if hlfN k.line.n k.line.x k.line.y then 0 else 40
def rlsE (k : Tk) : Int × Int := if 16 < k.t.rn then (42, 0) else if fstI (fun i => railE (k.R i)) k.t.rn < k.t.rn then (railE (k.R (fstI (fun i => railE (k.R i)) k.t.rn)), (fstI (fun i => railE (k.R i)) k.t.rn : Int)) else (0, 0)
def gtsE (k : Tk) : Int × Int := if k.t.gn < 1 ∨ 16 < k.t.gn then (42, 0) else if fstI (fun i => gateE (k.G i)) k.t.gn < k.t.gn then (gateE (k.G (fstI (fun i => gateE (k.G i)) k.t.gn)), (fstI (fun i => gateE (k.G i)) k.t.gn : Int)) else (0, 0)
noncomputable def staE (k : Tk) : Int × Int := if ¬ rectP k.t then (40, 0) else if ¬ (∀ j, j < barN k k.t.rn → ¬ behP k j) then (43, 0) else (0, 0)
def lapE (k : Tk) : Int × Int := if k.t.laps < 1 ∨ 100 < k.t.laps then (40, 0) else (0, 0)
set_option maxRecDepth 100000 in
set_option maxHeartbeats 4000000 in
theorem tkRate_any (k : Tk) (B : Nat) (w : World) (hB : B ≤ w.heap.size) (K : TkM B w k) :
    Calls Tryz.prog 19 #[trkV k.t] w fun e w' => e = .returned (erV (rateE k)) ∧ Below w.heap.size w w' := by
  have Q0 := Lib.hid (PK.new 34 K hB)
  obtain ⟨q, hq⟩ : ∃ q, erV (rateE k) = q := ⟨_, rfl⟩
  rw [hq]
  have HQ := Lib.hid hq
  clear K hB hq
  go_enter Tryz.func19, Tryz.ntmps19
  go_wp2_with fail
  refine calls_gen (S := fun W => PK w W B w.heap.size k) Q0.out (fun W1 hS => ?_)
  have Q1 := Lib.hid hS
  clear hS Q0
  refine (tkWithinI_any 60 1024 k.t.rate _).mono ?_
  rintro e w1 ⟨rfl, rfl⟩
  by_cases h : 60 ≤ k.t.rate ∧ k.t.rate ≤ 1024
  · have E := Lib.hid (show .nilIface = q by rw [← HQ.out]; unfold rateE; rw [if_neg (by omega)]; rfl)
    rw [decide_eq_true h]
    clear h HQ
    go_wp2
    go_ret
    exact ⟨by rw [← E.out]; rfl, Q1.out.l⟩
  · have E := Lib.hid (show erV (40, 0) = q by rw [← HQ.out]; unfold rateE; rw [if_pos (by omega)])
    rw [decide_eq_false h]
    clear h HQ
    go_wp2_with fail
    refine (tkAt_any 0 40 _).mono ?_
    rintro e w2 ⟨rfl, rfl⟩
    go_wp2
    go_ret
    exact ⟨by rw [← E.out]; rfl, Q1.out.l⟩
set_option maxRecDepth 100000 in
set_option maxHeartbeats 4000000 in
theorem tkLaps_any (k : Tk) (B : Nat) (w : World) (hB : B ≤ w.heap.size) (K : TkM B w k) :
    Calls Tryz.prog 25 #[trkV k.t] w fun e w' => e = .returned (erV (lapE k)) ∧ Below w.heap.size w w' := by
  have Q0 := Lib.hid (PK.new 34 K hB)
  obtain ⟨q, hq⟩ : ∃ q, erV (lapE k) = q := ⟨_, rfl⟩
  rw [hq]
  have HQ := Lib.hid hq
  clear K hB hq
  go_enter Tryz.func25, Tryz.ntmps25
  go_wp2_with fail
  refine calls_gen (S := fun W => PK w W B w.heap.size k) Q0.out (fun W1 hS => ?_)
  have Q1 := Lib.hid hS
  clear hS Q0
  refine (tkWithinI_any 1 100 k.t.laps _).mono ?_
  rintro e w1 ⟨rfl, rfl⟩
  by_cases h : 1 ≤ k.t.laps ∧ k.t.laps ≤ 100
  · have E := Lib.hid (show .nilIface = q by rw [← HQ.out]; unfold lapE; rw [if_neg (by omega)]; rfl)
    rw [decide_eq_true h]
    clear h HQ
    go_wp2
    go_ret
    exact ⟨by rw [← E.out]; rfl, Q1.out.l⟩
  · have E := Lib.hid (show erV (40, 0) = q by rw [← HQ.out]; unfold lapE; rw [if_pos (by omega)])
    rw [decide_eq_false h]
    clear h HQ
    go_wp2_with fail
    refine (tkAt_any 0 40 _).mono ?_
    rintro e w2 ⟨rfl, rfl⟩
    go_wp2
    go_ret
    exact ⟨by rw [← E.out]; rfl, Q1.out.l⟩
set_option maxRecDepth 100000 in
set_option maxHeartbeats 4000000 in
theorem tkGround_any (k : Tk) (B : Nat) (w : World) (hB : B ≤ w.heap.size) (K : TkM B w k) :
    Calls Tryz.prog 20 #[trkV k.t] w fun e w' => e = .returned (erV (rightFd k.t, 0)) ∧ Below w.heap.size w w' := by
  have Q0 := Lib.hid (PK.new 34 K hB)
  obtain ⟨q, hq⟩ : ∃ q, erV (rightFd k.t, 0) = q := ⟨_, rfl⟩
  rw [hq]
  have E := Lib.hid hq
  clear K hB hq
  by_cases s : rightFd k.t = 0
  · have XR := Lib.hid (fun (W : World) (Q : PK w W B w.heap.size k) => fNew_yes k.t 0 B W Q.bz Q.t.T (Nat.zero_le _) s)
    rw [s] at E
    clear s
    go_enter Tryz.func20, Tryz.ntmps20
    go_wp2_with fail
    refine calls_gen (S := fun W => PK w W B w.heap.size k) Q0.out (fun W1 hS => ?_)
    have Q1 := Lib.hid hS
    clear hS Q0
    refine (XR.out _ Q1.out).mono ?_
    rintro e w1 ⟨⟨f, rfl, -⟩, h⟩
    have Q2 := Lib.hid (Q1.out.step h)
    clear h Q1 XR
    go_wp2_with fail
    refine (tkAt_any 0 0 _).mono ?_
    rintro e w2 ⟨rfl, rfl⟩
    rw [E.out]
    go_wp2
    go_ret
    exact ⟨rfl, Q2.out.l⟩
  · have XR := Lib.hid (fun (W : World) (Q : PK w W B w.heap.size k) => fNew_no k.t B W Q.bz Q.t.T s)
    clear s
    generalize rightFd k.t = er at *
    go_enter Tryz.func20, Tryz.ntmps20
    go_wp2_with fail
    refine calls_gen (S := fun W => PK w W B w.heap.size k) Q0.out (fun W1 hS => ?_)
    have Q1 := Lib.hid hS
    clear hS Q0
    refine (XR.out _ Q1.out).mono ?_
    rintro e w1 ⟨rfl, h⟩
    have Q2 := Lib.hid (Q1.out.step h)
    clear h Q1 XR
    go_wp2_with fail
    refine (tkAt_any 0 er _).mono ?_
    rintro e w2 ⟨rfl, rfl⟩
    rw [E.out]
    go_wp2
    go_ret
    exact ⟨rfl, Q2.out.l⟩
set_option maxRecDepth 100000 in
set_option maxHeartbeats 4000000 in
theorem tkLine_any (k : Tk) (B : Nat) (w : World) (hB : B ≤ w.heap.size) (few : fewR k) (K : TkM B w k) :
    Calls Tryz.prog 21 #[trkV k.t] w fun e w' => e = .returned (erV (linE k, 0)) ∧ Below w.heap.size w w' := by
  have Q0 := Lib.hid (PK.new 34 K hB)
  obtain ⟨q, hq⟩ : ∃ q, erV (linE k, 0) = q := ⟨_, rfl⟩
  rw [hq]
  have HQ := Lib.hid hq
  have hln : k.line.n ≤ 1000 := by have := few.1; show k.t.ln ≤ 1000; omega
  have XL := Lib.hid (fun (W : World) (Q : PK w W B w.heap.size k) => spRight_any k.line.a k.line.n k.line.c k.line.x k.line.y W hln (Q.t.L.dots Q.bz))
  have XO := Lib.hid (fun (W : World) (Q : PK w W B w.heap.size k) => tkNear_any k.line.a k.line.n k.line.c k.line.x k.line.y W hln (Q.t.L.dots Q.bz).at')
  have hsl : (.slice k.line.a k.line.n k.line.c : Value) = .slice k.t.la k.t.ln k.t.lc := rfl
  rw [hsl] at XL XO
  clear K hB hq few hln hsl
  by_cases s4 : lineR k.line.n k.line.x k.line.y = 0
  rotate_left
  · have E := Lib.hid (show erV (lineR k.line.n k.line.x k.line.y, 0) = q by rw [← HQ.out]; unfold linE; rw [if_pos s4])
    have b3 : (lineR k.line.n k.line.x k.line.y == 0) = false := beq_false_of_ne s4
    clear s4 XO HQ
    generalize lineR k.line.n k.line.x k.line.y = er at *
    go_enter Tryz.func21, Tryz.ntmps21
    go_wp2_with fail
    refine calls_gen (S := fun W => PK w W B w.heap.size k) Q0.out (fun W1 hS => ?_)
    have Q1 := Lib.hid hS
    clear hS Q0
    refine (XL.out _ Q1.out).mono ?_
    rintro e w1 ⟨rfl, h⟩
    have Q2 := Lib.hid (Q1.out.step h)
    clear h Q1 XL
    go_wp2_with fail
    refine (tkAt_any 0 er _).mono ?_
    rintro e w2 ⟨rfl, rfl⟩
    rw [E.out]
    go_wp2
    go_ret
    exact ⟨rfl, Q2.out.l⟩
  have HR := Lib.hid (show erV (if hlfN k.line.n k.line.x k.line.y then 0 else 40, 0) = q by rw [← HQ.out]; unfold linE; rw [if_neg (show ¬ (lineR k.line.n k.line.x k.line.y ≠ 0) from fun c => c s4)])
  rw [s4] at XL
  clear HQ s4
  go_enter Tryz.func21, Tryz.ntmps21
  go_wp2_with fail
  refine calls_gen (S := fun W => PK w W B w.heap.size k) Q0.out (fun W1 hS => ?_)
  have Q1 := Lib.hid hS
  clear hS Q0
  refine (XL.out _ Q1.out).mono ?_
  rintro e w1 ⟨rfl, h⟩
  have Q2 := Lib.hid (Q1.out.step h)
  clear h Q1 XL
  have c09 := Q2.out.c.c 9 _ rfl
  go_wp2_with fail
  refine (XO.out _ Q2.out).mono ?_
  rintro e w2 ⟨rfl, h⟩
  have Q3 := Lib.hid (Q2.out.step h)
  clear h Q2 XO c09
  by_cases s5 : hlfN k.line.n k.line.x k.line.y
  · have E := Lib.hid (show erV (0, 0) = q by rw [← HR.out, if_pos s5])
    rw [decide_eq_true s5]
    clear HR s5
    go_wp2_with fail
    refine (tkAt_any 0 0 _).mono ?_
    rintro e w3 ⟨rfl, rfl⟩
    rw [E.out]
    go_wp2
    go_ret
    exact ⟨rfl, Q3.out.l⟩
  · have E := Lib.hid (show erV (40, 0) = q by rw [← HR.out, if_neg s5])
    rw [decide_eq_false s5]
    clear HR s5
    go_wp2_with fail
    refine (tkAt_any 0 40 _).mono ?_
    rintro e w3 ⟨rfl, rfl⟩
    rw [E.out]
    go_wp2
    go_ret
    exact ⟨rfl, Q3.out.l⟩
theorem rls_at {k : Tk} (h : ¬ 16 < k.t.rn) {j : Nat} (hj : j < k.t.rn) (h0 : ∀ i, i < j → railE (k.R i) = 0) (hn : railE (k.R j) ≠ 0) : rlsE k = (railE (k.R j), (j : Int)) := by
  have e := fstI_at (f := fun i => railE (k.R i)) h0 hn hj
  unfold rlsE
  rw [if_neg h, e, if_pos hj]
theorem rls_no {k : Tk} (h : ¬ 16 < k.t.rn) (h0 : ∀ i, i < k.t.rn → railE (k.R i) = 0) : rlsE k = (0, 0) := by
  have e := fstI_all (f := fun i => railE (k.R i)) h0
  unfold rlsE
  rw [if_neg h, e, if_neg (by omega)]
theorem gts_at {k : Tk} (h : ¬ (k.t.gn < 1 ∨ 16 < k.t.gn)) {j : Nat} (hj : j < k.t.gn) (h0 : ∀ i, i < j → gateE (k.G i) = 0) (hn : gateE (k.G j) ≠ 0) : gtsE k = (gateE (k.G j), (j : Int)) := by
  have e := fstI_at (f := fun i => gateE (k.G i)) h0 hn hj
  unfold gtsE
  rw [if_neg h, e, if_pos hj]
theorem gts_no {k : Tk} (h : ¬ (k.t.gn < 1 ∨ 16 < k.t.gn)) (h0 : ∀ i, i < k.t.gn → gateE (k.G i) = 0) : gtsE k = (0, 0) := by
  have e := fstI_all (f := fun i => gateE (k.G i)) h0
  unfold gtsE
  rw [if_neg h, e, if_neg (by omega)]
set_option maxRecDepth 100000 in
set_option maxHeartbeats 4000000 in
theorem tkRails_any (k : Tk) (B : Nat) (w : World) (hB : B ≤ w.heap.size) (few : fewR k) (K : TkM B w k) :
    Calls Tryz.prog 22 #[trkV k.t] w fun e w' => e = .returned (erV (rlsE k)) ∧ Below w.heap.size w w' := by
  have Q0 := Lib.hid (PK.new 34 K hB)
  obtain ⟨q, hq⟩ : ∃ q, erV (rlsE k) = q := ⟨_, rfl⟩
  rw [hq]
  have WE := Lib.hid (fun (a : Int × Int) (h : rlsE k = a) => show erV a = q by rw [← hq, h])
  have fr := few.2.1
  have FR := Lib.hid few.2.2.2
  obtain ⟨ra, hra0⟩ : ∃ ra, k.t.ra = ra := ⟨_, rfl⟩
  have HRA := Lib.hid hra0
  clear K hq few hra0
  by_cases s1 : 16 < k.t.rn
  · have g1 : (16 : Int) < (k.t.rn : Int) := by omega
    have E := Lib.hid (WE.out (42, 0) (by unfold rlsE; rw [if_pos s1]))
    clear WE HRA
    go_enter Tryz.func22, Tryz.ntmps22
    go_wp2_with fail
    refine calls_gen (S := fun W => PK w W B w.heap.size k) Q0.out (fun W1 hS => ?_)
    have Q1 := Lib.hid hS
    clear hS Q0
    refine (tkAt_any 0 42 _).mono ?_
    rintro e w2 ⟨rfl, rfl⟩
    rw [E.out]
    go_wp2
    go_ret
    exact ⟨rfl, Q1.out.l⟩
  have g1 : ¬ (16 : Int) < (k.t.rn : Int) := by omega
  go_enter Tryz.func22, Tryz.ntmps22
  go_wp2_with fail
  refine wp_gen (S := fun W => PK w W B w.heap.size k) Q0.out (fun W1 hS => ?_)
  have Q1 := Lib.hid hS
  rw [HRA.out]
  clear hS Q0
  go_loopw [14] (fun i wr => ∃ j : Nat, j ≤ k.t.rn ∧ i = .int .i64 j ∧ Hid (∀ i, i < j → railE (k.R i) = 0) ∧ PK w wr B w.heap.size k) (fun i _ => k.t.rn - (intOf i).toNat)
  case atStart => exact ⟨0, by omega, rfl, Lib.hid (fun i h => absurd h (by omega)), Q1.out⟩
  case round =>
    obtain ⟨j, hj, rfl, I, hQ⟩ := hrel
    have Q2 := Lib.hid hQ
    clear hQ Q1
    by_cases hlt : j < k.t.rn
    · obtain ⟨rb, ro, hra, hrb, hrc⟩ := Q2.out.t.R (by omega)
      have d0 := hrc j hlt
      have RS := Q2.out.t.Rs j hlt
      have hrb' : rb < wr.heap.size := by have := Q2.out.bz; omega
      obtain rfl := HRA.out.symm.trans hra
      have z0 : (0 : Int) ≤ (j : Int) := by omega
      have z1 : (j : Int) < (k.t.rn : Int) := by omega
      have V := Lib.hid (fun (W : World) (D : Dots W (k.R j).a (k.R j).n (k.R j).c (k.R j).x (k.R j).y) => tkRail_any (k.R j) W (by have := FR.out j hlt; omega) D)
      have DD := Lib.hid (RS.dots Q2.out.bz)
      clear hrc RS hra hrb
      go_wp2_with fail
      refine (V.out _ DD.out).mono ?_
      rintro e w3 ⟨rfl, h⟩
      have Q3 := Lib.hid (Q2.out.step h)
      clear h V DD Q2 d0
      go_wp2_with fail
      refine (tkAt_any j (railE (k.R j)) _).mono ?_
      rintro e w4 ⟨rfl, rfl⟩
      by_cases hz : railE (k.R j) = 0
      · have I2 := Lib.hid (all_next' (P := fun i => railE (k.R i) = 0) I.out hz)
        rw [erV_no (p := (railE (k.R j), (j : Int))) hz]
        clear I hz
        go_wp2
        go_roundw
        case rel => exact ⟨j + 1, by omega, by go_num, I2, Q3.out⟩
        case measure => simp [intOf]; omega
      · have E := Lib.hid (WE.out _ (rls_at s1 hlt I.out hz))
        rw [erV_is (p := (railE (k.R j), (j : Int))) hz] at E ⊢
        clear I WE hz
        go_wp2
        go_ret
        exact ⟨by rw [← E.out]; rfl, Q3.out.l⟩
    · have e : j = k.t.rn := by omega
      subst e
      have E := Lib.hid (WE.out (0, 0) (rls_no s1 I.out))
      clear I WE
      go_wp2
      go_ret
      exact ⟨by rw [← E.out]; rfl, Q2.out.l⟩
set_option maxRecDepth 100000 in
set_option maxHeartbeats 4000000 in
theorem tkGates_any (k : Tk) (B : Nat) (w : World) (hB : B ≤ w.heap.size) (few : fewR k) (K : TkM B w k) :
    Calls Tryz.prog 23 #[trkV k.t] w fun e w' => e = .returned (erV (gtsE k)) ∧ Below w.heap.size w w' := by
  have Q0 := Lib.hid (PK.new 34 K hB)
  obtain ⟨q, hq⟩ : ∃ q, erV (gtsE k) = q := ⟨_, rfl⟩
  rw [hq]
  have WE := Lib.hid (fun (a : Int × Int) (h : gtsE k = a) => show erV a = q by rw [← hq, h])
  have fg := few.2.2.1
  obtain ⟨ga, hga0⟩ : ∃ ga, k.t.ga = ga := ⟨_, rfl⟩
  have HGA := Lib.hid hga0
  clear K hq few hga0
  go_enter Tryz.func23, Tryz.ntmps23
  go_wp2_with fail
  refine calls_gen (S := fun W => PK w W B w.heap.size k) Q0.out (fun W1 hS => ?_)
  have Q1 := Lib.hid hS
  clear hS Q0
  refine (tkWithinI_any 1 16 k.t.gn _).mono ?_
  rintro e w1 ⟨rfl, rfl⟩
  by_cases s1 : k.t.gn < 1 ∨ 16 < k.t.gn
  · have g1 : ¬ (1 ≤ (k.t.gn : Int) ∧ (k.t.gn : Int) ≤ 16) := by omega
    have E := Lib.hid (WE.out (42, 0) (by unfold gtsE; rw [if_pos s1]))
    rw [decide_eq_false g1]
    clear WE HGA g1 s1
    go_wp2_with fail
    refine (tkAt_any 0 42 _).mono ?_
    rintro e w2 ⟨rfl, rfl⟩
    rw [E.out]
    go_wp2
    go_ret
    exact ⟨rfl, Q1.out.l⟩
  have g1 : 1 ≤ (k.t.gn : Int) ∧ (k.t.gn : Int) ≤ 16 := by omega
  rw [decide_eq_true g1]
  clear g1
  have c11 := Q1.out.c.c 11 _ rfl
  rw [HGA.out] at c11
  go_wp2
  clear c11
  go_loopw [15] (fun i wq => ∃ j : Nat, j ≤ k.t.gn ∧ i = .int .i64 j ∧ Hid (∀ i, i < j → gateE (k.G i) = 0) ∧ PK w wq B w.heap.size k) (fun i _ => k.t.gn - (intOf i).toNat)
  case atStart => exact ⟨0, by omega, rfl, Lib.hid (fun i h => absurd h (by omega)), Q1.out⟩
  case round =>
    obtain ⟨j, hj, rfl, I, hQ⟩ := hrel
    have Q4 := Lib.hid hQ
    clear hQ Q1
    have cl4 := Q4.out.c.lt
    by_cases hlt : j < k.t.gn
    · obtain ⟨gb, go, hga, hgb, hgc⟩ := Q4.out.t.G (by omega)
      obtain ⟨⟨a0, a1⟩, ⟨a2, a3⟩, a4⟩ := hgc j hlt
      have hgb' := Nat.lt_of_lt_of_le hgb Q4.out.bz
      obtain rfl := HGA.out.symm.trans hga
      have z0 : (0 : Int) ≤ (j : Int) := by omega
      have z1 : (j : Int) < (k.t.gn : Int) := by omega
      clear hgc hga hgb
      go_wp2_with fail
      refine calls_gen (S := fun W => PK w W B w.heap.size k) (Q4.out.step ((Below.refl _ _).alloc (Nat.le_refl _) _)) (fun W5 hS => ?_)
      have Q5 := Lib.hid hS
      clear hS
      refine (tkGate_any (k.G j) _).mono ?_
      rintro e w5 ⟨rfl, h⟩
      have Q6 := Lib.hid (Q5.out.step h)
      clear h Q4 Q5 a0 a1 a2 a3 a4
      go_wp2_with fail
      refine (tkAt_any j (gateE (k.G j)) _).mono ?_
      rintro e w6 ⟨rfl, rfl⟩
      by_cases hz : gateE (k.G j) = 0
      · have I2 := Lib.hid (all_next' (P := fun i => gateE (k.G i) = 0) I.out hz)
        rw [erV_no (p := (gateE (k.G j), (j : Int))) hz]
        clear I hz
        go_wp2
        go_roundw
        case rel => exact ⟨j + 1, by omega, by go_num, I2, Q6.out⟩
        case measure => simp [intOf]; omega
      · have E := Lib.hid (WE.out _ (gts_at s1 hlt I.out hz))
        rw [erV_is (p := (gateE (k.G j), (j : Int))) hz] at E ⊢
        clear I WE hz
        go_wp2
        go_ret
        exact ⟨by rw [← E.out]; rfl, Q6.out.l⟩
    · have e : j = k.t.gn := by omega
      subst e
      have E := Lib.hid (WE.out (0, 0) (gts_no s1 I.out))
      clear I WE
      go_wp2
      go_ret
      exact ⟨by rw [← E.out]; rfl, Q4.out.l⟩
end Go.Proofs.YtjbalpmcnihhpaaGreatDoor
namespace Go.Proofs.YtjbalpmcnihhpaaGreatDoor
open Go.RowKit
set_option linter.unusedVariables false
set_option linter.unusedSimpArgs false

/-- a track's copy and a place's -/
def PKp (w W : World) (B : Nat) (k : Tk) : Prop := PK w W B w.heap.size k ∧ BW W (w.heap.size + 1) [.int .i64 k.t.sx, .int .i64 k.t.sy]
theorem PKp.step {w W W' : World} {B : Nat} {k : Tk} (Q : PKp w W B k) (h : Below W.heap.size W W') : PKp w W' B k := ⟨Q.1.step h, Q.2.below h Q.2.lt⟩
set_option maxRecDepth 100000 in
set_option maxHeartbeats 4000000 in
theorem tkInside_any (k : Tk) (B : Nat) (w : World) (hB : B ≤ w.heap.size) (rt : rightFd k.t = 0) (K : TkM B w k) :
    Calls Tryz.prog 54 #[trkV k.t, .agg #[.int .i64 k.t.sx, .int .i64 k.t.sy]] w fun e w' => e = .returned (.bool (decide (rectP k.t))) ∧ Below w.heap.size w w' := by
  have Q0 := Lib.hid (PK.new 34 K hB)
  obtain ⟨q, hq⟩ : ∃ q, decide (rectP k.t) = q := ⟨_, rfl⟩
  rw [hq]
  have RE := Lib.hid (show decide ((k.t.cx ≤ k.t.sx ∧ k.t.sx ≤ k.t.cx + k.t.cols * k.t.cell) ∧ k.t.cy ≤ k.t.sy ∧ k.t.sy ≤ k.t.cy + k.t.rows * k.t.cell) = q from hq)
  obtain ⟨⟨r1, r2⟩, ⟨r3, r4⟩, r5, r6⟩ := rect_fit rt
  have y2 := Lib.hid (show IntKind.i64.wrap (k.t.cols * k.t.cell) = k.t.cols * k.t.cell from (wrap_in' (by unfold In64; omega)).1)
  have y3 := Lib.hid (show IntKind.i64.wrap (k.t.rows * k.t.cell) = k.t.rows * k.t.cell from (wrap_in' (by unfold In64; omega)).1)
  have y4 := Lib.hid (show IntKind.i64.wrap (k.t.cx + k.t.cols * k.t.cell) = k.t.cx + k.t.cols * k.t.cell from (wrap_in' (by unfold In64; omega)).1)
  have y5 := Lib.hid (show IntKind.i64.wrap (k.t.cy + k.t.rows * k.t.cell) = k.t.cy + k.t.rows * k.t.cell from (wrap_in' (by unfold In64; omega)).1)
  clear K hB hq rt r1 r2 r3 r4 r5 r6
  go_enter Tryz.func54, Tryz.ntmps54
  go_wp2_with fail
  refine wp_gen (S := fun W => PKp w W B k) ⟨Q0.out.step ((Below.refl _ _).alloc (Nat.le_refl _) _), BW.new _ _ [_, _] _ (by simp)⟩ (fun W1 hS => ?_)
  have Q1 := Lib.hid hS
  clear hS Q0
  have c1 := Q1.out.1.c.c 1 _ rfl
  have c2 := Q1.out.1.c.c 2 _ rfl
  have c3 := Q1.out.1.c.c 3 _ rfl
  have c4 := Q1.out.1.c.c 4 _ rfl
  have c5 := Q1.out.1.c.c 5 _ rfl
  have u2 := y2.out
  have u3 := y3.out
  have u4 := y4.out
  have u5 := y5.out
  go_quiet (fail)
  clear u2 u3 u4 u5 y2 y3 y4 y5
  generalize k.t.cx + k.t.cols * k.t.cell = mx at *
  generalize k.t.cy + k.t.rows * k.t.cell = my at *
  have s0 := Q1.out.2.c 0 _ rfl
  have s1 := Q1.out.2.c 1 _ rfl
  go_wp2_with fail
  refine (tkWithinF_any k.t.cx mx k.t.sx _).mono ?_
  rintro e w2 ⟨rfl, rfl⟩
  by_cases h1 : k.t.cx ≤ k.t.sx ∧ k.t.sx ≤ mx
  · rw [decide_eq_true h1]
    go_wp2_with fail
    refine (tkWithinF_any k.t.cy my k.t.sy _).mono ?_
    rintro e w3 ⟨rfl, rfl⟩
    have E := Lib.hid (show decide (k.t.cy ≤ k.t.sy ∧ k.t.sy ≤ my) = q by rw [← RE.out, decide_eq_decide]; exact ⟨fun h => ⟨h1, h⟩, fun h => h.2⟩)
    rw [E.out]
    clear RE h1 E
    go_wp2
    go_ret
    exact ⟨rfl, below_drewN Q1.out.1.l _⟩
  · rw [decide_eq_false h1]
    have E := Lib.hid (show false = q by rw [← RE.out]; symm; rw [decide_eq_false_iff_not]; exact fun h => h1 h.1)
    clear RE h1
    go_wp2
    go_ret
    exact ⟨by rw [← E.out]; rfl, below_drewN Q1.out.1.l _⟩
set_option maxRecDepth 100000 in
set_option maxHeartbeats 4000000 in
theorem tkBehind_any (k : Tk) (B : Nat) (w : World) (hB : B ≤ w.heap.size) (few : fewR k) (K : TkM B w k) :
    Calls Tryz.prog 55 #[trkV k.t, .agg #[.int .i64 k.t.sx, .int .i64 k.t.sy]] w fun e w' => (∃ z : Bool, e = .returned (.bool z) ∧ Hid (z = false ↔ ∀ j, j < barN k k.t.rn → ¬ behP k j)) ∧ Below w.heap.size w w' := by
  have Q0 := Lib.hid (PK.new 34 K hB)
  have XB := Lib.hid (fun (W : World) (Q : PKp w W B k) => tkBars_any k B W Q.1.bz few Q.1.t)
  have BN := Lib.hid (show barN k k.t.rn ≤ 1980 by have := barN_le k (q := 99) (fun i hi => by have := few.2.2.2 i hi; omega) (m := k.t.rn) (Nat.le_refl _); have := few.2.1; omega)
  clear K hB few
  go_enter Tryz.func55, Tryz.ntmps55
  go_wp2_with fail
  refine calls_gen (S := fun W => PKp w W B k) ⟨Q0.out.step ((Below.refl _ _).alloc (Nat.le_refl _) _), BW.new _ _ [_, _] _ (by simp)⟩ (fun W1 hS => ?_)
  have Q1 := Lib.hid hS
  clear hS Q0
  refine (XB.out _ Q1.out).mono ?_
  rintro e w6 ⟨ba, bc, rfl, hD, h⟩
  have Q6 := Lib.hid (Q1.out.step h)
  have D6 := Lib.hid hD
  clear h Q1 XB hD
  obtain ⟨N, hN⟩ : ∃ N, barN k k.t.rn = N := ⟨_, rfl⟩
  have HN := Lib.hid hN
  rw [hN] at BN D6 ⊢
  have bn := BN.out
  clear BN hN
  go_wp2
  go_loopw [11] (fun i wr => ∃ j : Nat, j ≤ N ∧ i = .int .i64 j ∧ Hid (∀ i, i < j → ¬ behP k i) ∧ PKp w wr B k ∧ Brs wr ba N bc (barG k)) (fun i _ => N - (intOf i).toNat)
  case atStart => exact ⟨0, by omega, rfl, Lib.hid (fun i h => absurd h (by omega)), Q6.out, D6.out⟩
  case round =>
    obtain ⟨j, hj, rfl, I, hQ, hD⟩ := hrel
    have Q7 := Lib.hid hQ
    have D7 := Lib.hid hD
    clear hQ hD Q6 D6
    have z0 : (0 : Int) ≤ (j : Int) := by omega
    by_cases hlj : j < N
    · obtain ⟨bb, bo, hba, hbb, hbc⟩ := D7.out.at' (by omega)
      obtain ⟨⟨e0, e1⟩, ⟨e2, e3⟩, e4⟩ := hbc j hlj
      have z1 : (j : Int) < (N : Int) := by omega
      obtain ⟨bn, hbn⟩ : ∃ bn, behN k j = bn := ⟨_, rfl⟩
      have V := Lib.hid (fun (W : World) => plBeyond_any (barG k j).ax (barG k j).ay (barG k j).bx (barG k j).by' k.t.sx k.t.sy W)
      have hbe : beyondN ⟨(barG k j).ax, (barG k j).ay⟩ ⟨(barG k j).bx, (barG k j).by'⟩ ⟨k.t.sx, k.t.sy⟩ = bn := hbn
      rw [hbe] at V
      have PB := Lib.hid (show behP k j ↔ 0 < bn ∧ bn < 17179869184 by rw [← hbn]; exact Iff.rfl)
      clear hbe hbn hbc
      have s0 := Q7.out.2.c 0 _ rfl
      have s1 := Q7.out.2.c 1 _ rfl
      have sl := Q7.out.2.lt
      subst hba
      go_wp2_with fail
      refine calls_gen (S := fun W => PKp w W B k ∧ Brs W (some ⟨bb, bo, none⟩) N bc (barG k)) ⟨Q7.out.step ((Below.refl _ _).alloc (Nat.le_refl _) _), D7.out.step ((Below.refl _ _).alloc (Nat.le_refl _) _)⟩ (fun W1 hS => ?_)
      have Q8 := Lib.hid hS.1
      have D8 := Lib.hid hS.2
      clear hS Q7 D7
      refine (V.out _).mono ?_
      rintro e w8 ⟨rfl, h⟩
      have Q9 := Lib.hid (Q8.out.step h)
      have D9 := Lib.hid (D8.out.step h)
      clear h Q8 D8 V e0 e1 e2 e3 e4 s0 s1 sl
      by_cases g0 : 0 < bn
      · by_cases g1 : bn < 17179869184
        · have E := Lib.hid (PB.out.2 ⟨g0, g1⟩)
          have HJ := Lib.hid hlj
          clear PB I
          go_wp2
          go_ret
          exact ⟨⟨true, rfl, Lib.hid ⟨fun h => (by cases h), fun h => absurd E.out (h j (by rw [HN.out]; exact HJ.out))⟩⟩, Q9.out.1.l⟩
        have I2 := Lib.hid (all_next' (P := fun i => ¬ behP k i) I.out (fun c => g1 (PB.out.1 c).2))
        clear I PB
        go_wp2
        go_roundw
        case rel => exact ⟨j + 1, by omega, by go_num, I2, Q9.out, D9.out⟩
        case measure => simp [intOf]; omega
      · have I2 := Lib.hid (all_next' (P := fun i => ¬ behP k i) I.out (fun c => g0 (PB.out.1 c).1))
        clear I PB
        go_wp2
        go_roundw
        case rel => exact ⟨j + 1, by omega, by go_num, I2, Q9.out, D9.out⟩
        case measure => simp [intOf]; omega
    · have e : j = N := by omega
      subst e
      have HI := Lib.hid I.out
      clear I
      go_wp2
      go_ret
      exact ⟨⟨false, rfl, Lib.hid ⟨fun _ => by rw [HN.out]; exact HI.out, fun _ => rfl⟩⟩, Q7.out.1.l⟩
set_option maxRecDepth 100000 in
set_option maxHeartbeats 4000000 in
theorem tkStart_any (k : Tk) (B : Nat) (w : World) (hB : B ≤ w.heap.size) (few : fewR k) (rt : rightFd k.t = 0) (K : TkM B w k) :
    Calls Tryz.prog 24 #[trkV k.t] w fun e w' => e = .returned (erV (staE k)) ∧ Below w.heap.size w w' := by
  have Q0 := Lib.hid (PK.new 34 K hB)
  obtain ⟨q, hq⟩ : ∃ q, erV (staE k) = q := ⟨_, rfl⟩
  rw [hq]
  have HQ := Lib.hid hq
  have XI := Lib.hid (fun (W : World) (Q : PK w W B w.heap.size k) => tkInside_any k B W Q.bz rt Q.t)
  have XH := Lib.hid (fun (W : World) (Q : PK w W B w.heap.size k) => tkBehind_any k B W Q.bz few Q.t)
  clear K hB hq few rt
  go_enter Tryz.func24, Tryz.ntmps24
  go_wp2_with fail
  refine calls_gen (S := fun W => PK w W B w.heap.size k) Q0.out (fun W1 hS => ?_)
  have Q1 := Lib.hid hS
  clear hS Q0
  refine (XI.out _ Q1.out).mono ?_
  rintro e w2 ⟨rfl, h⟩
  have Q2 := Lib.hid (Q1.out.step h)
  clear h Q1 XI
  by_cases h1 : rectP k.t
  rotate_left
  · have E := Lib.hid (show erV (40, 0) = q by rw [← HQ.out]; unfold staE; rw [if_pos h1])
    rw [decide_eq_false h1]
    clear h1 HQ XH
    go_wp2_with fail
    refine (tkAt_any 0 40 _).mono ?_
    rintro e w3 ⟨rfl, rfl⟩
    rw [E.out]
    go_wp2
    go_ret
    exact ⟨rfl, Q2.out.l⟩
  have EQ := Lib.hid (show erV (if ¬ (∀ j, j < barN k k.t.rn → ¬ behP k j) then (43, 0) else (0, 0)) = q by rw [← HQ.out]; unfold staE; rw [if_neg (show ¬ ¬ rectP k.t from fun c => c h1)])
  rw [decide_eq_true h1]
  clear h1 HQ
  have cs := tk_of Q2.out.c
  unfold TKc at cs
  obtain ⟨c00, c01, c02, c03, c04, c05, c06, c07, c08, c09, c10, c11, c12, c13, c14, c15⟩ := cs
  go_wp2_with fail
  refine (XH.out _ Q2.out).mono ?_
  rintro e w3 ⟨⟨z, rfl, hz⟩, h⟩
  have Q3 := Lib.hid (Q2.out.step h)
  clear h Q2 XH c00 c01 c02 c03 c04 c05 c06 c07 c08 c09 c10 c11 c12 c13 c14 c15
  cases z
  · have E := Lib.hid (show erV (0, 0) = q by rw [← EQ.out, if_neg (fun c => c (hz.out.1 rfl))])
    clear hz EQ
    go_wp2
    go_ret
    exact ⟨by rw [← E.out]; rfl, Q3.out.l⟩
  · have E := Lib.hid (show erV (43, 0) = q by rw [← EQ.out, if_pos (fun c => by cases hz.out.2 c)])
    clear hz EQ
    go_wp2_with fail
    refine (tkAt_any 0 43 _).mono ?_
    rintro e w4 ⟨rfl, rfl⟩
    rw [E.out]
    go_wp2
    go_ret
    exact ⟨rfl, Q3.out.l⟩
end Go.Proofs.YtjbalpmcnihhpaaGreatDoor
