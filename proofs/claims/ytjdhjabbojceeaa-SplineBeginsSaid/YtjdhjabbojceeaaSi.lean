/- What spline is to tell; the example. -/
import Derived.Test.YtjdhjabbojceeaaSg
import Derived.Test.YtjdhjabbojceeaaSe
import Derived.Test.YtjdhjabbojceeaaSf
namespace Go.Proofs.Ytjdhjabbojceeaa
open Go.RowKit
set_option linter.unusedVariables false
set_option linter.unusedSimpArgs false

/-- what package spline tells -/
structure SplineC : Prop where
  right : ∀ (a : Option Addr) (n c : Nat) (X Y : Nat → Int) (w : World) (hmax : n ≤ 100) (D : Dots w a n c X Y), Calls Try.prog 9 #[.slice a n c] w fun e w' => e = .returned (.int .i64 (lineR n X Y)) ∧ Below w.heap.size w w'
  at_ : ∀ (a : Option Addr) (n c : Nat) (X Y : Nat → Int) (i t : Int) (b k : Nat) (o : Bool) (w : World) (hmax : n ≤ 100) (hi : In64 i) (ht : In64 t) (D : Dots w a n c X Y) (m : MAt w b k o) (hne : 0 < n → ∀ p, a = some p → p.block ≠ b), Calls Try.prog 11 #[.pointer (some ⟨b, k, none⟩), .slice a n c, .int .i64 i, .int .i64 t] w fun e w' => e = .returned (.agg #[.int .i64 (placeX n X Y i t), .int .i64 (placeY n X Y i t)]) ∧ FxW w.heap.size w b k (o || placeO n X Y i t) w'
  samples : ∀ (a : Option Addr) (n c : Nat) (X Y : Nat → Int) (b k : Nat) (o : Bool) (w : World) (hmax : n ≤ 100) (D : Dots w a n c X Y) (m : MAt w b k o) (hne : 0 < n → ∀ p, a = some p → p.block ≠ b), Calls Try.prog 15 #[.pointer (some ⟨b, k, none⟩), .slice a n c] w fun e w' => ∃ a' c', e = .returned (.slice a' (sampN n X Y) c') ∧ Dots w' a' (sampN n X Y) c' (sampX n X) (sampX n Y) ∧ FxW w.heap.size w b k (o || sampO n X Y (sampN n X Y)) w' ∧ (∀ p, a' = some p → w.heap.size ≤ p.block)
  lengths : ∀ (a : Option Addr) (n c : Nat) (X Y : Nat → Int) (b k : Nat) (o : Bool) (w : World) (hmax : n ≤ 100) (D : Dots w a n c X Y) (m : MAt w b k o) (hne : 0 < n → ∀ p, a = some p → p.block ≠ b), Calls Try.prog 18 #[.pointer (some ⟨b, k, none⟩), .slice a n c] w fun e w' => ∃ a' c', e = .returned (.slice a' (n + 1) c') ∧ Nums w'.heap.size w' ⟨a', n + 1, c', lenS n X Y⟩ ∧ FxW w.heap.size w b k (o || lenSO n X Y n) w' ∧ (∀ p, a' = some p → w.heap.size ≤ p.block)
  nearest : ∀ (a : Option Addr) (n c : Nat) (X Y : Nat → Int) (px py : Int) (w : World) (hmax : n ≤ 100) (D : Dots w a n c X Y) (hx : In64 px) (hy : In64 py), Calls Try.prog 20 #[.slice a n c, .agg #[.int .i64 px, .int .i64 py]] w fun e w' => e = .returned (.int .i64 (nearestI n X Y px py)) ∧ Below w.heap.size w w'
theorem quad_dots {W : World} {n : Nat} (B : BW W n [.int .i64 0, .int .i64 0, .int .i64 34359738368, .int .i64 0, .int .i64 34359738368, .int .i64 34359738368, .int .i64 0, .int .i64 34359738368]) : Dots W (some ⟨n, 0, none⟩) 4 4 sqX sqY :=
  ⟨by unfold maxLen; omega, by omega, fun i hi => by
    match i, hi with
    | 0, _ => exact ⟨by decide, by decide⟩
    | 1, _ => exact ⟨by decide, by decide⟩
    | 2, _ => exact ⟨by decide, by decide⟩
    | 3, _ => exact ⟨by decide, by decide⟩
    | i + 4, hi => exact absurd hi (by omega), fun _ => ⟨n, 0, rfl, B.lt, fun i hi => by
    match i, hi with
    | 0, _ => exact ⟨B.c 0 _ rfl, B.c 1 _ rfl⟩
    | 1, _ => exact ⟨B.c 2 _ rfl, B.c 3 _ rfl⟩
    | 2, _ => exact ⟨B.c 4 _ rfl, B.c 5 _ rfl⟩
    | 3, _ => exact ⟨B.c 6 _ rfl, B.c 7 _ rfl⟩
    | i + 4, hi => exact absurd hi (by omega)⟩⟩
theorem ssample_any (w : World) :
    Calls Try.prog 29 #[] w fun e w' => e = .returned (.slice (some ⟨w.heap.size, 0, none⟩) 4 4) ∧ BW w' w.heap.size [.int .i64 0, .int .i64 0, .int .i64 34359738368, .int .i64 0, .int .i64 34359738368, .int .i64 34359738368, .int .i64 0, .int .i64 34359738368] ∧ Below w.heap.size w w' := by
  go_enter Try.func29, Try.ntmps29
  go_wp2
  go_ret
  exact ⟨rfl, BW.new _ _ [_, _, _, _, _, _, _, _] _ rfl, by repeat (first | exact Below.refl _ _ | assumption | refine Below.setCell ?_ (by first | omega | (simp; done) | (simp; omega)) _ | refine Below.alloc ?_ (by first | omega | (simp; done) | (simp; omega)) _ | refine below_drewN ?_ _ | refine Below.drew ?_ | refine Below.trans ?_ (Below.mono (by assumption) (by first | omega | (simp; done) | (simp; omega))))⟩
theorem q_at : placeX 4 sqX sqY 5 0 = 34359738368 ∧ placeY 4 sqX sqY 5 0 = 0 ∧ (false || placeO 4 sqX sqY 5 0) = false ∧ sampN 4 sqX sqY = 32 := by decide +kernel
/-- what the example holds while it is looked at -/
structure QW (w W : World) (b : Nat) (a : Option Addr) (c : Nat) (la : Option Addr) (d : Nat) : Prop where
  m : MAt W b 0 false
  s : Dots W a 32 c (sampX 4 sqX) (sampX 4 sqY)
  n : Nums W.heap.size W ⟨la, 33, d, lenS 32 (sampX 4 sqX) (sampX 4 sqY)⟩
  l : Below w.heap.size w W
  e : w.heap.size ≤ b
  sa : ∀ p, a = some p → p.block ≠ b
  na : ∀ p, la = some p → p.block ≠ b
theorem nums_up {B B' : Nat} {w : World} {s : Sl} (k : Nums B w s) (h : B ≤ B') : Nums B' w s :=
  ⟨k.hm, k.hl, k.wf, fun h0 => by
    obtain ⟨b, off, e, hb, hc⟩ := k.at' h0
    exact ⟨b, off, e, by omega, hc⟩⟩
theorem QW.step {w W W' : World} {b : Nat} {a : Option Addr} {c : Nat} {l : Option Addr} {d : Nat} (Q : QW w W b a c l d) (h : Below W.heap.size W W') : QW w W' b a c l d :=
  ⟨Q.m.below h Q.m.lt, Q.s.below h (Nat.le_refl _), nums_up (Q.n.keep h (Nat.le_refl _)) h.size, Q.l.trans (h.mono Q.l.size), Q.e, Q.sa, Q.na⟩
theorem QW.fx {w W W' : World} {b : Nat} {a : Option Addr} {c : Nat} {l : Option Addr} {d : Nat} (Q : QW w W b a c l d) (h : FxW W.heap.size W b 0 false W') : QW w W' b a c l d :=
  ⟨h.at Q.m Q.m.lt, Q.s.fx h (fun _ => Q.sa), nums_up (Q.n.fxo h (Nat.le_refl _) (fun _ => Q.na)) h.size, Q.l.trans (h.below Q.l.size Q.e), Q.e, Q.sa, Q.na⟩
set_option maxHeartbeats 4000000 in
theorem splineAwake_any (C : SplineC) (w : World) :
    Calls Try.prog 13 #[] w fun e w' => e = .returned (.bool true) ∧ Below w.heap.size w w' := by
  have X1 := Lib.hid (fun (a : Option Addr) (c : Nat) (W : World) (D : Dots W a 4 c sqX sqY) (m : MAt W w.heap.size 0 false) (h : ∀ p, a = some p → p.block ≠ w.heap.size) => by
    have := C.samples a 4 c sqX sqY w.heap.size 0 false W (by omega) D m (fun _ => h)
    rw [q_at.2.2.2, q_ev.2.1] at this
    exact this)
  have X2 := Lib.hid (fun (a : Option Addr) (c : Nat) (W : World) (D : Dots W a 32 c (sampX 4 sqX) (sampX 4 sqY)) (m : MAt W w.heap.size 0 false) (h : ∀ p, a = some p → p.block ≠ w.heap.size) => by
    have := C.lengths a 32 c _ _ w.heap.size 0 false W (by omega) D m (fun _ => h)
    rw [(q_len 32 (by omega)).2.1] at this
    exact this)
  have X3 := Lib.hid (fun (a : Option Addr) (c : Nat) (W : World) (D : Dots W a 4 c sqX sqY) (m : MAt W w.heap.size 0 false) (h : ∀ p, a = some p → p.block ≠ w.heap.size) => by
    have := C.at_ a 4 c sqX sqY 5 0 w.heap.size 0 false W (by omega) ⟨by omega, by omega⟩ ⟨by omega, by omega⟩ D m (fun _ => h)
    rw [q_at.1, q_at.2.1, q_at.2.2.1] at this
    exact this)
  have X4 := Lib.hid (fun (a : Option Addr) (c : Nat) (W : World) (D : Dots W a 32 c (sampX 4 sqX) (sampX 4 sqY)) => by
    have := C.nearest a 32 c _ _ 38654705664 (-4294967296) W (by omega) D ⟨by omega, by omega⟩ ⟨by omega, by omega⟩
    rw [q_nearest] at this
    exact this)
  clear C
  have LT := Lib.hid (show (137438953472 : Int) < lenS 32 (sampX 4 sqX) (sampX 4 sqY) 32 by rw [(q_len 32 (by omega)).1]; exact q_ev.2.2.2.2)
  go_enter Try.func13, Try.ntmps13
  go_wp2_with fail
  refine calls_gen (S := fun W => MAt W w.heap.size 0 false ∧ Below w.heap.size w W) ⟨MAt.new w _ _, by repeat (first | exact Below.refl _ _ | assumption | refine Below.setCell ?_ (by first | omega | (simp; done) | (simp; omega)) _ | refine Below.alloc ?_ (by first | omega | (simp; done) | (simp; omega)) _ | refine below_drewN ?_ _ | refine Below.drew ?_ | refine Below.trans ?_ (Below.mono (by assumption) (by first | omega | (simp; done) | (simp; omega))))⟩ (fun W0 hS => ?_)
  have M0 := Lib.hid hS.1
  have L0 := Lib.hid hS.2
  clear hS
  refine (ssample_any _).mono ?_
  rintro e w1 ⟨rfl, hB, h⟩
  have M1 := Lib.hid (M0.out.below h M0.out.lt)
  have L1 := Lib.hid (L0.out.trans (h.mono L0.out.size))
  have D1 := Lib.hid (quad_dots hB)
  have hz : w.heap.size < W0.heap.size := M0.out.lt
  clear h hB M0 L0
  go_wp2_with fail
  refine (X1.out _ _ _ D1.out M1.out (fun p e => by cases e; show W0.heap.size ≠ w.heap.size; omega)).mono ?_
  rintro e w2 ⟨a2, c2, rfl, hD, h, hb⟩
  have M2 := Lib.hid (h.at M1.out M1.out.lt)
  have L2 := Lib.hid (L1.out.trans (h.below L1.out.size (Nat.le_refl _)))
  have D2 := Lib.hid hD
  have hl1 := M1.out.lt
  have B2 := Lib.hid (show ∀ p, a2 = some p → p.block ≠ w.heap.size from fun p e => by have := hb p e; omega)
  clear h hD hb M1 L1 D1 hl1
  go_wp2_with fail
  refine (X2.out _ _ _ D2.out M2.out B2.out).mono ?_
  rintro e w3 ⟨a3, c3, rfl, hN, h, hb⟩
  have hl2 := M2.out.lt
  have Q3 := Lib.hid (show QW w w3 w.heap.size a2 c2 a3 c3 from ⟨h.at M2.out M2.out.lt, D2.out.fx h (fun _ => B2.out), hN, L2.out.trans (h.below L2.out.size (Nat.le_refl _)), Nat.le_refl _, B2.out, fun p e => by have := hb p e; omega⟩)
  clear h hN hb M2 L2 D2 B2 hl2
  go_wp2_with fail
  refine (ssample_any _).mono ?_
  rintro e w4 ⟨rfl, hB, h⟩
  have Q4 := Lib.hid (Q3.out.step h)
  have D4 := Lib.hid (quad_dots hB)
  have hz3 : w.heap.size < w3.heap.size := Q3.out.m.lt
  clear h hB Q3
  go_wp2_with fail
  refine (X3.out _ _ _ D4.out Q4.out.m (fun p e => by cases e; show w3.heap.size ≠ w.heap.size; omega)).mono ?_
  rintro e w5 ⟨rfl, h⟩
  have Q5 := Lib.hid (Q4.out.fx h)
  clear h Q4 D4
  go_wp2_with fail
  refine (ssample_any _).mono ?_
  rintro e w6 ⟨rfl, hB, h⟩
  have Q6 := Lib.hid (Q5.out.step h)
  have b2 := hB.c 2 _ rfl
  have b3 := hB.c 3 _ rfl
  clear h hB Q5
  go_wp2_with fail
  refine (X4.out _ _ _ Q6.out.s).mono ?_
  rintro e w7 ⟨rfl, h⟩
  have Q7 := Lib.hid (Q6.out.step h)
  clear h Q6 b2 b3
  obtain ⟨bl, ol, hl, -, hc⟩ := Q7.out.n.at' (by show 0 < 33; omega)
  dsimp only at hl hc
  have cl := hc 32 (by omega)
  have mc := Q7.out.m.c
  have L7 := Lib.hid Q7.out.l
  subst hl
  clear hc Q7
  generalize lenS 32 (sampX 4 sqX) (sampX 4 sqY) 32 = v at *
  have lt := LT.out
  go_wp2
  go_ret
  exact ⟨rfl, L7.out⟩
end Go.Proofs.Ytjdhjabbojceeaa
