/- The program's series: numbers alone. Contracts of sort.Search, of the program's series and Table. -/
import Derived.Test.YtldcmiomfahaoaaIc
import Derived.Test.YtldcmiomfahaoaaBv
import Derived.Test.YtldcmiomfahaoaaBw
import Derived.Test.YtldcmiomfahaoaaBx
import Derived.Deep.LoopGhost
namespace Go.Proofs.Ytldcmiomfahaoaa
open Go.RowKit
set_option linter.unusedVariables false
set_option linter.unusedSimpArgs false

/-- the terms of the sine's series, in parts of 2^-54; their sum -/
def pser (x q : Int) : Nat → Int
  | 0 => x
  | j + 1 => divI (-(pser x q j) * q) ((2 * j + 2) * (2 * j + 3) * 18014398509481984)
def pssum (T : Nat → Int) : Nat → Int
  | 0 => 0
  | j + 1 => pssum T j + T j
def parc (k : Int) : Int := k * 28296951008113761 / 64
def psq (x : Int) : Int := divI (x * x) 18014398509481984
theorem pser_bounds : ∀ k : Nat, k < 65 → ∀ j : Nat, j < 12 → (-4611686018427387904 ≤ pser (parc k) (psq (parc k)) j ∧ pser (parc k) (psq (parc k)) j ≤ 4611686018427387904) ∧ (-4611686018427387904 ≤ pssum (pser (parc k) (psq (parc k))) j ∧ pssum (pser (parc k) (psq (parc k))) j ≤ 4611686018427387904) := by decide +kernel
theorem pser_tab : ∀ k : Nat, k < 65 → divI (pssum (pser (parc k) (psq (parc k))) 11) 4194304 = tabS k ∧ 0 ≤ parc k ∧ parc k ≤ 36028797018963968 ∧ 0 ≤ psq (parc k) ∧ psq (parc k) ≤ 72057594037927936 := by decide +kernel
/-- the first so many terms, 0 behind -/
def pcell (T : Nat → Int) (k i : Nat) : Int := if i < k then T i else 0
theorem pcell_same (T : Nat → Int) (k : Nat) : pcell T (k + 1) k = T k := by unfold pcell; rw [if_pos (by omega)]
theorem pcell_other (T : Nat → Int) {k i : Nat} (h : k ≠ i) : pcell T (k + 1) i = pcell T k i := by
  unfold pcell
  by_cases c : i < k
  · rw [if_pos c, if_pos (by omega)]
  · rw [if_neg c, if_neg (by omega)]
theorem pcell_all (T : Nat → Int) {i : Nat} (h : i < 11) : pcell T 11 i = T i := by unfold pcell; rw [if_pos h]
/-- the array's block while it is filled -/
structure PArr (w : World) (n : Nat) (T : Nat → Int) (k : Nat) : Prop where
  c : ∀ i, i < 11 → w.cell? ⟨n, i, none⟩ = some (.int .i64 (pcell T k i))
  f : ∀ i, w.frozen? ⟨n, i, none⟩ = false
  lt : n < w.heap.size
theorem PArr.below {B : Nat} {w w' : World} {n : Nat} {T : Nat → Int} {k : Nat} (a : PArr w n T k) (hb : Below B w w') (hn : n < B) : PArr w' n T k :=
  ⟨fun i hi => (hb.cell (p := ⟨n, i, none⟩) hn).trans (a.c i hi), fun i => (hb.frozen (p := ⟨n, i, none⟩) hn).trans (a.f i), by have := hb.size; have := a.lt; omega⟩
theorem PArr.put {w : World} {n : Nat} {T : Nat → Int} {k : Nat} (a : PArr w n T k) (hk : k < 11) : PArr (w.setCell ⟨n, k, none⟩ (.int .i64 (T k))) n T (k + 1) := by
  refine ⟨fun i hi => ?_, fun i => (World.frozen?_setCell _ _ _ _).trans (a.f i), by simpa [World.setCell] using a.lt⟩
  by_cases e : k = i
  · subst e; rw [World.cell?_setCell_same _ _ _ (a.c k hk), pcell_same]
  · rw [World.cell?_setCell_other _ _ _ _ (by simp; try omega), a.c i hi, pcell_other T e]
theorem PArr.far {w : World} {n m : Nat} {T : Nat → Int} {k : Nat} (a : PArr w n T k) (h : m ≠ n) (i : Nat) (v : Value) : PArr (w.setCell ⟨m, i, none⟩ v) n T k :=
  ⟨fun i hi => (World.cell?_setCell_other _ _ _ _ (by simp; try omega)).trans (a.c i hi), fun i => (World.frozen?_setCell _ _ _ _).trans (a.f i), by simpa [World.setCell] using a.lt⟩
theorem PArr.new (w : World) (T : Nat → Int) (t : TypeId) : PArr (w.alloc (.cells #[.int .i64 0, .int .i64 0, .int .i64 0, .int .i64 0, .int .i64 0, .int .i64 0, .int .i64 0, .int .i64 0, .int .i64 0, .int .i64 0, .int .i64 0] t)) w.heap.size T 0 :=
  ⟨fun i hi => by
    rw [World.cell?_alloc_new w _ t i]
    match i, hi with
    | 0, _ => rfl
    | 1, _ => rfl
    | 2, _ => rfl
    | 3, _ => rfl
    | 4, _ => rfl
    | 5, _ => rfl
    | 6, _ => rfl
    | 7, _ => rfl
    | 8, _ => rfl
    | 9, _ => rfl
    | 10, _ => rfl, fun i => by go_simp, by simp⟩
theorem PArr.alloc {w : World} {n : Nat} {T : Nat → Int} {k : Nat} (a : PArr w n T k) (h : n < w.heap.size) (o : Obj) : PArr (w.alloc o) n T k := a.below ((Below.refl _ _).alloc (Nat.le_refl _) o) h

set_option maxRecDepth 100000 in
set_option maxHeartbeats 8000000 in
theorem series_any (x q : Int) (T : Nat → Int) (w : World) (hq : psq x = q) (hT : pser x q = T) (x0 : 0 ≤ x) (x1 : x ≤ 36028797018963968) (q0 : 0 ≤ q) (q1 : q ≤ 72057594037927936)
    (hB : ∀ j : Nat, j < 12 → -4611686018427387904 ≤ T j ∧ T j ≤ 4611686018427387904) :
    Calls Try.prog 108 #[.int .i64 x] w fun e w' => e = .returned (.agg #[.int .i64 (T 0), .int .i64 (T 1), .int .i64 (T 2), .int .i64 (T 3), .int .i64 (T 4), .int .i64 (T 5), .int .i64 (T 6), .int .i64 (T 7), .int .i64 (T 8), .int .i64 (T 9), .int .i64 (T 10)]) ∧ Below w.heap.size w w' := by
  have HQ := Lib.hid (show divI (x * x) 18014398509481984 = q from hq)
  have HB := Lib.hid hB
  have T0 := Lib.hid (show x = T 0 by rw [← hT]; rfl)
  have TS := Lib.hid (show ∀ j : Nat, divI (-(T j) * q) ((2 * j + 2) * (2 * j + 3) * 18014398509481984) = T (j + 1) from fun j => by rw [← hT]; rfl)
  have I := Lib.hid (mul_128 (a := x) (b := x) (by omega) (by omega) (by omega) (by omega))
  clear hq hT hB
  go_enter Try.func108, Try.ntmps108
  go_wp2_with fail
  refine (Mul_any x x _ (by omega) (by omega) (by omega) (by omega)).mono ?_
  rintro e w1 ⟨rfl, hb1⟩
  have z_w1 := hb1.size
  try simp at z_w1
  have z0_w1 : w.heap.size < w1.heap.size := by omega
  have y_w1 : w.heap.size ≤ w1.heap.size := by omega
  go_wp2_with fail
  refine (Div_any _ _ (x * x) 18014398509481984 _ (isW_of I.out) (by omega) (by omega)).mono ?_
  rw [HQ.out]
  rintro e w2 ⟨rfl, hb2⟩
  have z_w2 := hb2.size
  try simp at z_w2
  have z0_w2 : w.heap.size < w2.heap.size := by omega
  have y_w2 : w.heap.size ≤ w2.heap.size := by omega
  have B2 : Below w.heap.size w w2 := by repeat (first | exact Below.refl _ _ | assumption | refine Below.setCell ?_ (by first | omega | (simp; done) | (simp; omega)) _ | refine Below.alloc ?_ (by first | omega | (simp; done) | (simp; omega)) _ | refine below_drewN ?_ _ | refine Below.drew ?_ | refine Below.trans ?_ (Below.mono (by assumption) (by first | omega | (simp; done) | (simp; omega))))
  have HB2 := Lib.hid B2
  have R2 := Lib.hid ((PArr.new w T 136).below (B := w.heap.size + 1) ((hb1.mono (by simp)).trans (hb2.mono (by omega))) (by omega))
  clear hb1 hb2 B2
  go_wp2
  go_loopw [6, 18] (fun te i wr => ∃ (k : Nat), k ≤ 11 ∧ te = .int .i64 (T k) ∧ i = .int .i64 k ∧ PArr wr w2.heap.size T k ∧ PArr wr w.heap.size T 0 ∧ Below w.heap.size w wr) (fun _ i _ => 11 - (intOf i).toNat)
  case atStart =>
    refine ⟨0, by omega, by rw [← T0.out], rfl, PArr.new _ T _, R2.out.alloc (by omega) _, ?_⟩
    have := HB2.out
    repeat (first | with_reducible refine Below.setCell ?_ (by first | omega | (simp; done) | (simp; omega)) _ | with_reducible refine Below.alloc ?_ (by first | omega | (simp; done) | (simp; omega)) _ | with_reducible refine below_drewN ?_ _ | with_reducible refine Below.drew ?_ | with_reducible exact Below.refl _ _ | with_reducible assumption | with_reducible refine Below.trans ?_ (Below.mono (by assumption) (by first | omega | (simp; done) | (simp; omega))))
  case round =>
    obtain ⟨k, hk, rfl, rfl, AR, RR, B⟩ := hrel
    have e0 : w.heap.size < wr.heap.size := RR.lt
    have e1 : w2.heap.size < wr.heap.size := AR.lt
    by_cases c : k < 11
    · have b := HB.out k (by omega)
      have b0 := b.1
      have b1 := b.2
      have ES := Lib.hid (TS.out k)
      have I1 := Lib.hid (mul_128 (a := -T k) (b := q) (by omega) (by omega) (by omega) (by omega))
      obtain ⟨t, ht⟩ : ∃ t, T k = t := ⟨_, rfl⟩
      have HT := Lib.hid ht
      rw [ht] at ES I1 b0 b1 ⊢
      have oc := AR.c k c
      have of := AR.f k
      have AR2 := Lib.hid (AR.put c)
      have HRR := Lib.hid RR
      have HBB := Lib.hid B
      obtain ⟨D, hD⟩ : ∃ D, (2 * (k : Int) + 2) * (2 * (k : Int) + 3) = D := ⟨_, rfl⟩
      have D0 : 6 ≤ D := by rw [← hD]; have := Int.mul_le_mul (show 2 ≤ 2 * (k : Int) + 2 by omega) (show 3 ≤ 2 * (k : Int) + 3 by omega) (by omega) (by omega); omega
      have D1 : D ≤ 506 := by rw [← hD]; have := Int.mul_le_mul (show 2 * (k : Int) + 2 ≤ 22 by omega) (show 2 * (k : Int) + 3 ≤ 23 by omega) (by omega) (by omega); omega
      rw [hD] at ES
      clear b ht AR RR B
      go_wp2_with fail
      refine (Mul_any (-t) q _ (by omega) (by omega) (by omega) (by omega)).mono ?_
      rintro e w3 ⟨rfl, hb3⟩
      go_wp2_with fail
      refine (Div_any _ _ (-t * q) (D * 18014398509481984) _ (isW_of I1.out) (by omega) (by omega)).mono ?_
      rw [ES.out]
      rintro e w4 ⟨rfl, hb4⟩
      have B4 := Lib.hid ((show Below wr.heap.size (wr.setCell ⟨w2.heap.size, k, none⟩ (.int .i64 t)) w4 from (hb3.mono (by simp [World.setCell])).trans (hb4.mono (by have := hb3.size; simpa [World.setCell] using this))))
      go_wp2
      go_roundw
      case rel =>
        have P := AR2.out
        rw [HT.out] at P
        exact ⟨k + 1, by omega, rfl, by go_num, P.below B4.out e1, (HRR.out.far (by omega) _ _).below B4.out e0, ((HBB.out.setCell (by show w.heap.size ≤ w2.heap.size; omega) _).trans (B4.out.mono (by omega)))⟩
      case measure => simp [intOf]; omega
    · obtain rfl : k = 11 := by omega
      rw [show ((11 : Nat) : Int) = 11 from rfl]
      have a0 := AR.c 0 (by omega)
      have a1 := AR.c 1 (by omega)
      have a2 := AR.c 2 (by omega)
      have a3 := AR.c 3 (by omega)
      have a4 := AR.c 4 (by omega)
      have a5 := AR.c 5 (by omega)
      have a6 := AR.c 6 (by omega)
      have a7 := AR.c 7 (by omega)
      have a8 := AR.c 8 (by omega)
      have a9 := AR.c 9 (by omega)
      have a10 := AR.c 10 (by omega)
      have r0 := RR.c 0 (by omega)
      have r1 := RR.c 1 (by omega)
      have r2 := RR.c 2 (by omega)
      have r3 := RR.c 3 (by omega)
      have r4 := RR.c 4 (by omega)
      have r5 := RR.c 5 (by omega)
      have r6 := RR.c 6 (by omega)
      have r7 := RR.c 7 (by omega)
      have r8 := RR.c 8 (by omega)
      have r9 := RR.c 9 (by omega)
      have r10 := RR.c 10 (by omega)
      have rf := RR.f
      rw [pcell_all _ (by omega)] at a0 a1 a2 a3 a4 a5 a6 a7 a8 a9 a10
      have HBB := Lib.hid B
      clear AR RR B
      go_wp2
      exact bodyPost_ret (v := .agg #[.int .i64 (T 0), .int .i64 (T 1), .int .i64 (T 2), .int .i64 (T 3), .int .i64 (T 4), .int .i64 (T 5), .int .i64 (T 6), .int .i64 (T 7), .int .i64 (T 8), .int .i64 (T 9), .int .i64 (T 10)]) (by simp [results, Try.results108, go_sem, r0, r1, r2, r3, r4, r5, r6, r7, r8, r9, r10]) rfl ⟨rfl, by have := HBB.out; repeat (first | with_reducible refine Below.setCell ?_ (by first | omega | (simp; done) | (simp; omega)) _ | with_reducible refine Below.alloc ?_ (by first | omega | (simp; done) | (simp; omega)) _ | with_reducible refine below_drewN ?_ _ | with_reducible refine Below.drew ?_ | with_reducible exact Below.refl _ _ | with_reducible assumption | with_reducible refine Below.trans ?_ (Below.mono (by assumption) (by first | omega | (simp; done) | (simp; omega))))⟩
end Go.Proofs.Ytldcmiomfahaoaa
