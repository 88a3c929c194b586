/- What package track is to tell; few of the tracks' laws. -/
import Derived.Test.YtllkhgcokbpggaaCg
import Derived.Test.YtllkhgcokbpggaaBe
namespace Go.Proofs.Ytllkhgcokbpggaa
open Go.RowKit
set_option linter.unusedVariables false
set_option linter.unusedSimpArgs false

set_option maxRecDepth 100000 in
set_option maxHeartbeats 4000000 in
theorem kfew_any (k : Tk) (B : Nat) (w : World) (hB : B ≤ w.heap.size) (K : TkM B w k) :
    Calls Try.prog 7 #[trkV k.t] w fun e w' => e = .returned (.bool (decide (fewK k))) ∧ Below w.heap.size w w' := by
  have Q0 := Lib.hid (PK.new 34 K hB)
  have XF := Lib.hid (fun (W : World) (Q : PK w W B w.heap.size k) => gfew_any k.t B W Q.bz Q.t.T)
  obtain ⟨q, hq⟩ : ∃ q, decide (fewK k) = q := ⟨_, rfl⟩
  rw [hq]
  have EY := Lib.hid (fun (h : fewK k) => show true = q by rw [← hq]; exact (decide_eq_true h).symm)
  have EN := Lib.hid (fun (h : ¬ fewK k) => show false = q by rw [← hq]; exact (decide_eq_false h).symm)
  clear K hB hq
  go_enter Try.func7, Try.ntmps7
  go_wp2_with fail
  refine calls_gen (S := fun W => PK w W B w.heap.size k) Q0.out (fun W1 hS => ?_)
  have Q1 := Lib.hid hS
  clear hS Q0
  refine (XF.out _ Q1.out).mono ?_
  rintro e w2 ⟨rfl, h⟩
  have Q2 := Lib.hid (Q1.out.step h)
  clear h Q1 XF
  by_cases h1 : fewT k.t
  rotate_left
  · have E := Lib.hid (EN.out (fun c => h1 c.1))
    rw [decide_eq_false h1]
    clear EY EN h1
    go_wp2
    go_ret
    exact ⟨by rw [← E.out]; rfl, Q2.out.l⟩
  rw [decide_eq_true h1]
  have c9 := Q2.out.c.c 9 _ rfl
  have c10 := Q2.out.c.c 10 _ rfl
  have c11 := Q2.out.c.c 11 _ rfl
  by_cases h2 : k.t.ln ≤ 100
  rotate_left
  · have E := Lib.hid (EN.out (fun c => h2 c.2.1))
    have g2 : (100 : Int) < (k.t.ln : Int) := by omega
    clear EY EN h1
    go_wp2
    go_ret
    exact ⟨by rw [← E.out]; rfl, Q2.out.l⟩
  have g2 : ¬ (100 : Int) < (k.t.ln : Int) := by omega
  by_cases h3 : k.t.rn ≤ 20
  rotate_left
  · have E := Lib.hid (EN.out (fun c => h3 c.2.2.1))
    have g3 : (20 : Int) < (k.t.rn : Int) := by omega
    clear EY EN h1
    go_wp2
    go_ret
    exact ⟨by rw [← E.out]; rfl, Q2.out.l⟩
  have g3 : ¬ (20 : Int) < (k.t.rn : Int) := by omega
  by_cases h4 : k.t.gn ≤ 20
  rotate_left
  · have E := Lib.hid (EN.out (fun c => h4 c.2.2.2.1))
    have g4 : (20 : Int) < (k.t.gn : Int) := by omega
    clear EY EN h1
    go_wp2
    go_ret
    exact ⟨by rw [← E.out]; rfl, Q2.out.l⟩
  have g4 : ¬ (20 : Int) < (k.t.gn : Int) := by omega
  have EY2 := Lib.hid (fun (h : ∀ i, i < k.t.rn → (k.R i).n ≤ 100) => EY.out ⟨h1, h2, h3, h4, h⟩)
  have EN2 := Lib.hid (fun (h : ¬ ∀ i, i < k.t.rn → (k.R i).n ≤ 100) => EN.out (fun c => h c.2.2.2.2))
  clear EY EN h1
  go_wp2
  clear c9 c10 c11
  go_loopw [3] (fun i wr => ∃ j : Nat, j ≤ k.t.rn ∧ i = .int .i64 j ∧ Hid (∀ i, i < j → (k.R i).n ≤ 100) ∧ PK w wr B w.heap.size k) (fun i _ => k.t.rn - (intOf i).toNat)
  case atStart => exact ⟨0, by omega, rfl, Lib.hid (fun i h => absurd h (by omega)), Q2.out⟩
  case round =>
    obtain ⟨j, hj, rfl, I, hQ⟩ := hrel
    have Q4 := Lib.hid hQ
    clear hQ Q2
    have c10 := Q4.out.c.c 10 _ rfl
    have cl := Q4.out.c.lt
    by_cases hlt : j < k.t.rn
    · obtain ⟨rb, ro, hra, hrb, hrc⟩ := Q4.out.t.R (by omega)
      have d0 := hrc j hlt
      have hrb' := Nat.lt_of_lt_of_le hrb Q4.out.bz
      rw [hra] at c10
      have z0 : (0 : Int) ≤ (j : Int) := by omega
      have z1 : (j : Int) < (k.t.rn : Int) := by omega
      clear hrc hra hrb
      by_cases h5 : (k.R j).n ≤ 100
      · have I2 := Lib.hid (all_next' (P := fun i => (k.R i).n ≤ 100) I.out h5)
        have g5 : ¬ (100 : Int) < ((k.R j).n : Int) := by omega
        clear I
        go_wp2
        go_roundw
        case rel => exact ⟨j + 1, by omega, by go_num, I2, Q4.out⟩
        case measure => simp [intOf]; omega
      · have E := Lib.hid (EN2.out (fun c => h5 (c j hlt)))
        have g5 : (100 : Int) < ((k.R j).n : Int) := by omega
        clear EY2 EN2 I
        go_wp2
        go_ret
        exact ⟨by rw [← E.out]; rfl, Q4.out.l⟩
    · have e : j = k.t.rn := by omega
      subst e
      have E := Lib.hid (EY2.out I.out)
      clear EY2 EN2 I
      go_wp2
      go_ret
      exact ⟨by rw [← E.out]; rfl, Q4.out.l⟩
end Go.Proofs.Ytllkhgcokbpggaa
