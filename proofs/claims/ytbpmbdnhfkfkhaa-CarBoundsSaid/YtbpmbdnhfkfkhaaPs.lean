/- Contracts of the program's pane: all of a list (by IndexFunc, ContainsFunc), counted, bounded, rising, shaped. -/
import Derived.Test.YtbpmbdnhfkfkhaaPh
import Derived.Test.YtbpmbdnhfkfkhaaBj
import Derived.Deep.QuietTactic
import Derived.BigQuiet
namespace Go.Proofs.Ytbpmbdnhfkfkhaa
open Go.RowKit
set_option linter.unusedVariables false
set_option linter.unusedSimpArgs false

/-- the first of numbers j .. j + k - 1 that P takes, or -1 -/
def idxF (P : Nat → Bool) : Nat → Nat → Int
  | 0, _ => -1
  | k + 1, j => if P j = true then (j : Int) else idxF P k (j + 1)
theorem idxF_ge (P : Nat → Bool) : ∀ k j, -1 ≤ idxF P k j
  | 0, _ => by show (-1 : Int) ≤ -1; omega
  | k + 1, j => by
    show -1 ≤ if P j = true then (j : Int) else idxF P k (j + 1)
    have := idxF_ge P k (j + 1)
    split <;> omega
theorem idxF_nn (P : Nat → Bool) : ∀ k j, 0 ≤ idxF P k j ↔ ∃ i, j ≤ i ∧ i < j + k ∧ P i = true
  | 0, j => ⟨fun h => absurd h (by show ¬ (0 : Int) ≤ -1; omega), fun ⟨i, a, b, _⟩ => absurd b (by omega)⟩
  | k + 1, j => by
    show 0 ≤ (if P j = true then (j : Int) else idxF P k (j + 1)) ↔ _
    by_cases h : P j = true
    · rw [if_pos h]
      exact ⟨fun _ => ⟨j, by omega, by omega, h⟩, fun _ => by omega⟩
    · rw [if_neg h, idxF_nn P k (j + 1)]
      constructor
      · rintro ⟨i, a, b, c⟩; exact ⟨i, by omega, by omega, c⟩
      · rintro ⟨i, a, b, c⟩
        have : i ≠ j := fun e => h (by rw [← e]; exact c)
        exact ⟨i, by omega, by omega, c⟩
theorem idxF_all (P : Nat → Bool) (n : Nat) : (!decide (0 ≤ idxF (fun i => !P i) n 0)) = decide (∀ i, i < n → P i = true) := by
  rw [← decide_not, decide_eq_decide, idxF_nn]
  constructor
  · intro h i hi
    apply Classical.byContradiction; intro c
    exact h ⟨i, by omega, by omega, by simpa using c⟩
  · rintro h ⟨i, _, hi, c⟩
    rw [h i (by omega)] at c
    cases c
set_option maxRecDepth 100000 in
set_option maxHeartbeats 2000000 in
theorem pIdxF_any (g : Nat) (cb : Array Value) (a : Option Addr) (n c : Nat) (v : Nat → Int) (P : Nat → Bool) (w : World) (hmax : n ≤ 100) (N : 0 < n → ∃ b off, a = some ⟨b, off, none⟩ ∧ b < w.heap.size ∧ ∀ i, i < n → w.cell? ⟨b, off + i, none⟩ = some (.int .i64 (v i)))
    (eg : ∀ args w, (callFunc g args).run Try.prog w = .ok (.enter g args) w)
    (hf : ∀ (i : Nat) (wr : World), i < n → Below w.heap.size w wr → Calls Try.prog g (#[.int .i64 (v i)] ++ cb) wr fun e w' => e = .returned (.bool (P i)) ∧ Below wr.heap.size wr w') :
    Calls Try.prog 93 #[.slice a n c, .func (.func g) #[] cb] w fun e w' => e = .returned (.int .i64 (idxF P n 0)) ∧ Below w.heap.size w w' := by
  have HF := Lib.hid hf
  have HN := Lib.hid N
  obtain ⟨R, hR⟩ : ∃ R, idxF P n 0 = R := ⟨_, rfl⟩
  rw [hR]
  have HR := Lib.hid hR
  clear hf hR N
  go_enter Try.func93, Try.ntmps93
  go_wp2
  go_loopw [8] (fun i wr => ∃ k j : Nat, k + j = n ∧ i = .int .i64 j ∧ idxF P k j = R ∧ Below w.heap.size w wr) (fun i _ => n - (intOf i).toNat)
  case atStart => exact ⟨n, 0, by omega, rfl, HR.out, Below.refl _ _⟩
  case round =>
    obtain ⟨k, j, hkj, rfl, hi, hb⟩ := hrel
    have I := Lib.hid hi
    have HB := Lib.hid hb
    clear hi hb HR
    by_cases hlt : j < n
    · obtain ⟨m, hm⟩ : ∃ m, k = m + 1 := ⟨k - 1, by omega⟩
      have hmj := Lib.hid (show m + (j + 1) = n by omega)
      obtain ⟨b, off, ha, hbl, hcell⟩ := HN.out (by omega)
      subst ha
      have c0 : wr.cell? ⟨b, off + j, none⟩ = some (.int .i64 (v j)) := (HB.out.cell (p := ⟨b, off + j, none⟩) hbl).trans (hcell j hlt)
      clear hcell hbl
      have hc := HF.out j wr hlt HB.out
      rcases hp : P j with _ | _
      · rw [hp] at hc
        have E := Lib.hid (show idxF P m (j + 1) = R by
          rw [← I.out, hm]; show _ = if P j = true then (j : Int) else idxF P m (j + 1)
          rw [hp]; rfl)
        clear hp I hm
        go_wp2_with (go_at_fn g; refine hc.mono ?_; rintro e w' ⟨rfl, hb⟩)
        go_roundw
        case rel => exact ⟨m, j + 1, hmj.out, by go_num, E.out, HB.out.trans (hb.mono HB.out.size)⟩
        case measure => simp [intOf]; omega
      · rw [hp] at hc
        have E := Lib.hid (show (j : Int) = R by
          rw [← I.out, hm]; show _ = if P j = true then (j : Int) else idxF P m (j + 1)
          rw [hp]; rfl)
        clear hp I hm
        go_wp2_with (go_at_fn g; refine hc.mono ?_; rintro e w' ⟨rfl, hb⟩)
        go_ret
        exact ⟨by rw [← E.out]; rfl, HB.out.trans (hb.mono HB.out.size)⟩
    · have E := Lib.hid (show (-1 : Int) = R by
        rw [← I.out, show k = 0 by omega]; rfl)
      clear I
      go_wp2
      go_ret
      exact ⟨by rw [← E.out]; rfl, HB.out⟩
theorem pConF_any (g : Nat) (cb : Array Value) (a : Option Addr) (n c : Nat) (v : Nat → Int) (P : Nat → Bool) (w : World) (hmax : n ≤ 100) (N : 0 < n → ∃ b off, a = some ⟨b, off, none⟩ ∧ b < w.heap.size ∧ ∀ i, i < n → w.cell? ⟨b, off + i, none⟩ = some (.int .i64 (v i)))
    (eg : ∀ args w, (callFunc g args).run Try.prog w = .ok (.enter g args) w)
    (hf : ∀ (i : Nat) (wr : World), i < n → Below w.heap.size w wr → Calls Try.prog g (#[.int .i64 (v i)] ++ cb) wr fun e w' => e = .returned (.bool (P i)) ∧ Below wr.heap.size wr w') :
    Calls Try.prog 87 #[.slice a n c, .func (.func g) #[] cb] w fun e w' => e = .returned (.bool (decide (0 ≤ idxF P n 0))) ∧ Below w.heap.size w w' := by
  have X := Lib.hid (pIdxF_any g cb a n c v P w hmax N eg hf)
  have G := idxF_ge P n 0
  clear hf N eg
  generalize idxF P n 0 = R at *
  go_enter Try.func87, Try.ntmps87
  go_wp2_with fail
  refine X.out.mono ?_
  rintro e w1 ⟨rfl, h⟩
  go_wp2
  go_ret
  exact ⟨rfl, h⟩
theorem pNotF_any (g : Nat) (cb : Array Value) (m : Nat) (x : Int) (q : Bool) (w : World) (hc : w.cell? ⟨m, 0, none⟩ = some (.func (.func g) #[] cb)) (hm : m < w.heap.size) (eg : ∀ args w, (callFunc g args).run Try.prog w = .ok (.enter g args) w)
    (hf : Calls Try.prog g (#[.int .i64 x] ++ cb) w fun e w' => e = .returned (.bool q) ∧ Below w.heap.size w w') :
    Calls Try.prog 88 #[.int .i64 x, .pointer (some ⟨m, 0, none⟩)] w fun e w' => e = .returned (.bool (!q)) ∧ Below w.heap.size w w' := by
  have X := Lib.hid hf
  clear hf
  go_enter Try.func88, Try.ntmps88
  go_wp2_with (go_at_fn g; refine X.out.mono ?_; rintro e w' ⟨rfl, hb⟩)
  go_ret
  exact ⟨rfl, hb⟩
set_option maxHeartbeats 1000000 in
theorem pAllF_any (g : Nat) (cb : Array Value) (a : Option Addr) (n c : Nat) (v : Nat → Int) (P : Nat → Bool) (w : World) (hmax : n ≤ 100) (N : 0 < n → ∃ b off, a = some ⟨b, off, none⟩ ∧ b < w.heap.size ∧ ∀ i, i < n → w.cell? ⟨b, off + i, none⟩ = some (.int .i64 (v i)))
    (eg : ∀ args w, (callFunc g args).run Try.prog w = .ok (.enter g args) w)
    (hf : ∀ (i : Nat) (wr : World), i < n → Below w.heap.size w wr → Calls Try.prog g (#[.int .i64 (v i)] ++ cb) wr fun e w' => e = .returned (.bool (P i)) ∧ Below wr.heap.size wr w') :
    Calls Try.prog 75 #[.slice a n c, .func (.func g) #[] cb] w fun e w' => e = .returned (.bool (decide (∀ i, i < n → P i = true))) ∧ Below w.heap.size w w' := by
  have HF := Lib.hid hf
  have HN := Lib.hid N
  have hmf : ∀ (fn : Fn) (first cap : Array Value) (w : World), (Instr.makeFunc fn first cap).run Try.prog w = .ok (.func fn first cap) w := fun _ _ _ _ => rfl
  have KA := Lib.hid (idxF_all P n)
  generalize decide (∀ i, i < n → P i = true) = q at *
  clear hf N
  go_enter Try.func75, Try.ntmps75
  go_wp2_with fail
  refine calls_gen (S := fun W => (W.cell? ⟨w.heap.size, 0, none⟩ = some (.func (.func g) #[] cb) ∧ w.heap.size < W.heap.size) ∧ Below w.heap.size w W) ⟨⟨by go_simp, by simp⟩, by repeat (first | exact Below.refl _ _ | assumption | refine Below.setCell ?_ (by first | omega | (simp; done) | (simp; omega)) _ | refine Below.alloc ?_ (by first | omega | (simp; done) | (simp; omega)) _ | refine below_drewN ?_ _ | refine Below.drew ?_ | refine Below.trans ?_ (Below.mono (by assumption) (by first | omega | (simp; done) | (simp; omega))))⟩ (fun W0 hS => ?_)
  have C0 := Lib.hid hS.1
  have B0 := Lib.hid hS.2
  clear hS
  refine (pConF_any 88 #[.pointer (some ⟨w.heap.size, 0, none⟩)] a n c v (fun i => !P i) W0 hmax (fun h0 => by
      obtain ⟨b, off, e, hb, hcell⟩ := HN.out h0
      exact ⟨b, off, e, by have := B0.out.size; omega, fun i hi => (B0.out.cell (p := ⟨b, off + i, none⟩) hb).trans (hcell i hi)⟩) (fun _ _ => rfl)
    (fun i wr hi hb => pNotF_any g cb w.heap.size _ (P i) wr ((hb.cell (p := ⟨w.heap.size, 0, none⟩) C0.out.2).trans C0.out.1) (by have := hb.size; have := C0.out.2; omega) eg (HF.out i wr hi (B0.out.trans (hb.mono B0.out.size))))).mono ?_
  rintro e w1 ⟨rfl, h⟩
  rw [show decide (0 ≤ idxF (fun i => !P i) n 0) = !q by rw [← KA.out]; simp]
  have B1 := Lib.hid (B0.out.trans (h.mono B0.out.size))
  clear h B0 C0
  go_wp2
  go_ret
  exact ⟨by simp, B1.out⟩
set_option maxRecDepth 100000 in
set_option maxHeartbeats 2000000 in
theorem pIdxS_any (g : Nat) (cb : Array Value) (a : Option Addr) (n c : Nat) (r : Nat → Sl) (P : Nat → Bool) (w : World) (hmax : n ≤ 100) (N : 0 < n → ∃ b off, a = some ⟨b, off, none⟩ ∧ b < w.heap.size ∧ ∀ i, i < n → w.cell? ⟨b, off + i, none⟩ = some (.slice (r i).a (r i).n (r i).c))
    (eg : ∀ args w, (callFunc g args).run Try.prog w = .ok (.enter g args) w)
    (hf : ∀ (i : Nat) (wr : World), i < n → Below w.heap.size w wr → Calls Try.prog g (#[.slice (r i).a (r i).n (r i).c] ++ cb) wr fun e w' => e = .returned (.bool (P i)) ∧ Below wr.heap.size wr w') :
    Calls Try.prog 89 #[.slice a n c, .func (.func g) #[] cb] w fun e w' => e = .returned (.int .i64 (idxF P n 0)) ∧ Below w.heap.size w w' := by
  have HF := Lib.hid hf
  have HN := Lib.hid N
  obtain ⟨R, hR⟩ : ∃ R, idxF P n 0 = R := ⟨_, rfl⟩
  rw [hR]
  have HR := Lib.hid hR
  clear hf hR N
  go_enter Try.func89, Try.ntmps89
  go_wp2
  go_loopw [8] (fun i wr => ∃ k j : Nat, k + j = n ∧ i = .int .i64 j ∧ idxF P k j = R ∧ Below w.heap.size w wr) (fun i _ => n - (intOf i).toNat)
  case atStart => exact ⟨n, 0, by omega, rfl, HR.out, Below.refl _ _⟩
  case round =>
    obtain ⟨k, j, hkj, rfl, hi, hb⟩ := hrel
    have I := Lib.hid hi
    have HB := Lib.hid hb
    clear hi hb HR
    by_cases hlt : j < n
    · obtain ⟨m, hm⟩ : ∃ m, k = m + 1 := ⟨k - 1, by omega⟩
      have hmj := Lib.hid (show m + (j + 1) = n by omega)
      obtain ⟨b, off, ha, hbl, hcell⟩ := HN.out (by omega)
      subst ha
      have c0 : wr.cell? ⟨b, off + j, none⟩ = some (.slice (r j).a (r j).n (r j).c) := (HB.out.cell (p := ⟨b, off + j, none⟩) hbl).trans (hcell j hlt)
      clear hcell hbl
      have hc := HF.out j wr hlt HB.out
      rcases hp : P j with _ | _
      · rw [hp] at hc
        have E := Lib.hid (show idxF P m (j + 1) = R by
          rw [← I.out, hm]; show _ = if P j = true then (j : Int) else idxF P m (j + 1)
          rw [hp]; rfl)
        clear hp I hm
        go_wp2_with (go_at_fn g; refine hc.mono ?_; rintro e w' ⟨rfl, hb⟩)
        go_roundw
        case rel => exact ⟨m, j + 1, hmj.out, by go_num, E.out, HB.out.trans (hb.mono HB.out.size)⟩
        case measure => simp [intOf]; omega
      · rw [hp] at hc
        have E := Lib.hid (show (j : Int) = R by
          rw [← I.out, hm]; show _ = if P j = true then (j : Int) else idxF P m (j + 1)
          rw [hp]; rfl)
        clear hp I hm
        go_wp2_with (go_at_fn g; refine hc.mono ?_; rintro e w' ⟨rfl, hb⟩)
        go_ret
        exact ⟨by rw [← E.out]; rfl, HB.out.trans (hb.mono HB.out.size)⟩
    · have E := Lib.hid (show (-1 : Int) = R by
        rw [← I.out, show k = 0 by omega]; rfl)
      clear I
      go_wp2
      go_ret
      exact ⟨by rw [← E.out]; rfl, HB.out⟩
theorem pConS_any (g : Nat) (cb : Array Value) (a : Option Addr) (n c : Nat) (r : Nat → Sl) (P : Nat → Bool) (w : World) (hmax : n ≤ 100) (N : 0 < n → ∃ b off, a = some ⟨b, off, none⟩ ∧ b < w.heap.size ∧ ∀ i, i < n → w.cell? ⟨b, off + i, none⟩ = some (.slice (r i).a (r i).n (r i).c))
    (eg : ∀ args w, (callFunc g args).run Try.prog w = .ok (.enter g args) w)
    (hf : ∀ (i : Nat) (wr : World), i < n → Below w.heap.size w wr → Calls Try.prog g (#[.slice (r i).a (r i).n (r i).c] ++ cb) wr fun e w' => e = .returned (.bool (P i)) ∧ Below wr.heap.size wr w') :
    Calls Try.prog 77 #[.slice a n c, .func (.func g) #[] cb] w fun e w' => e = .returned (.bool (decide (0 ≤ idxF P n 0))) ∧ Below w.heap.size w w' := by
  have X := Lib.hid (pIdxS_any g cb a n c r P w hmax N eg hf)
  have G := idxF_ge P n 0
  clear hf N eg
  generalize idxF P n 0 = R at *
  go_enter Try.func77, Try.ntmps77
  go_wp2_with fail
  refine X.out.mono ?_
  rintro e w1 ⟨rfl, h⟩
  go_wp2
  go_ret
  exact ⟨rfl, h⟩
theorem pNotS_any (g : Nat) (cb : Array Value) (m : Nat) (x : Sl) (q : Bool) (w : World) (hc : w.cell? ⟨m, 0, none⟩ = some (.func (.func g) #[] cb)) (hm : m < w.heap.size) (eg : ∀ args w, (callFunc g args).run Try.prog w = .ok (.enter g args) w)
    (hf : Calls Try.prog g (#[.slice x.a x.n x.c] ++ cb) w fun e w' => e = .returned (.bool q) ∧ Below w.heap.size w w') :
    Calls Try.prog 78 #[.slice x.a x.n x.c, .pointer (some ⟨m, 0, none⟩)] w fun e w' => e = .returned (.bool (!q)) ∧ Below w.heap.size w w' := by
  have X := Lib.hid hf
  clear hf
  go_enter Try.func78, Try.ntmps78
  go_wp2_with (go_at_fn g; refine X.out.mono ?_; rintro e w' ⟨rfl, hb⟩)
  go_ret
  exact ⟨rfl, hb⟩
set_option maxHeartbeats 1000000 in
theorem pAllS_any (g : Nat) (cb : Array Value) (a : Option Addr) (n c : Nat) (r : Nat → Sl) (P : Nat → Bool) (w : World) (hmax : n ≤ 100) (N : 0 < n → ∃ b off, a = some ⟨b, off, none⟩ ∧ b < w.heap.size ∧ ∀ i, i < n → w.cell? ⟨b, off + i, none⟩ = some (.slice (r i).a (r i).n (r i).c))
    (eg : ∀ args w, (callFunc g args).run Try.prog w = .ok (.enter g args) w)
    (hf : ∀ (i : Nat) (wr : World), i < n → Below w.heap.size w wr → Calls Try.prog g (#[.slice (r i).a (r i).n (r i).c] ++ cb) wr fun e w' => e = .returned (.bool (P i)) ∧ Below wr.heap.size wr w') :
    Calls Try.prog 57 #[.slice a n c, .func (.func g) #[] cb] w fun e w' => e = .returned (.bool (decide (∀ i, i < n → P i = true))) ∧ Below w.heap.size w w' := by
  have HF := Lib.hid hf
  have HN := Lib.hid N
  have hmf : ∀ (fn : Fn) (first cap : Array Value) (w : World), (Instr.makeFunc fn first cap).run Try.prog w = .ok (.func fn first cap) w := fun _ _ _ _ => rfl
  have KA := Lib.hid (idxF_all P n)
  generalize decide (∀ i, i < n → P i = true) = q at *
  clear hf N
  go_enter Try.func57, Try.ntmps57
  go_wp2_with fail
  refine calls_gen (S := fun W => (W.cell? ⟨w.heap.size, 0, none⟩ = some (.func (.func g) #[] cb) ∧ w.heap.size < W.heap.size) ∧ Below w.heap.size w W) ⟨⟨by go_simp, by simp⟩, by repeat (first | exact Below.refl _ _ | assumption | refine Below.setCell ?_ (by first | omega | (simp; done) | (simp; omega)) _ | refine Below.alloc ?_ (by first | omega | (simp; done) | (simp; omega)) _ | refine below_drewN ?_ _ | refine Below.drew ?_ | refine Below.trans ?_ (Below.mono (by assumption) (by first | omega | (simp; done) | (simp; omega))))⟩ (fun W0 hS => ?_)
  have C0 := Lib.hid hS.1
  have B0 := Lib.hid hS.2
  clear hS
  refine (pConS_any 78 #[.pointer (some ⟨w.heap.size, 0, none⟩)] a n c r (fun i => !P i) W0 hmax (fun h0 => by
      obtain ⟨b, off, e, hb, hcell⟩ := HN.out h0
      exact ⟨b, off, e, by have := B0.out.size; omega, fun i hi => (B0.out.cell (p := ⟨b, off + i, none⟩) hb).trans (hcell i hi)⟩) (fun _ _ => rfl)
    (fun i wr hi hb => pNotS_any g cb w.heap.size _ (P i) wr ((hb.cell (p := ⟨w.heap.size, 0, none⟩) C0.out.2).trans C0.out.1) (by have := hb.size; have := C0.out.2; omega) eg (HF.out i wr hi (B0.out.trans (hb.mono B0.out.size))))).mono ?_
  rintro e w1 ⟨rfl, h⟩
  rw [show decide (0 ≤ idxF (fun i => !P i) n 0) = !q by rw [← KA.out]; simp]
  have B1 := Lib.hid (B0.out.trans (h.mono B0.out.size))
  clear h B0 C0
  go_wp2
  go_ret
  exact ⟨by simp, B1.out⟩
end Go.Proofs.Ytbpmbdnhfkfkhaa
