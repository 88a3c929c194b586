/- -/
import Derived.Test.YtmdjnamkbekjkaaGreatDoorBj
import Derived.Test.YtmdjnamkbekjkaaGreatDoorBx
import Derived.Test.YtmdjnamkbekjkaaGreatDoorBr
import Derived.Test.YtmdjnamkbekjkaaGreatDoorBk
import Derived.Test.YtmdjnamkbekjkaaGreatDoorBs
namespace Go.Proofs.YtmdjnamkbekjkaaGreatDoor
open Go.RowKit
set_option linter.unusedVariables false
set_option linter.unusedSimpArgs false
structure PB (W : World) (n b k : Nat) : Prop where
 c : W.cell? ⟨n, 0, none⟩ = some (.pointer (some ⟨b, k, none⟩))
 lt : n < W.heap.size
 ne : b ≠ n
theorem PB.new (w : World) (b k : Nat) (t : TypeId) (h : b < w.heap.size) : PB (w.alloc (.cells #[.pointer (some ⟨b, k, none⟩)] t)) w.heap.size b k :=
 ⟨World.cell?_alloc_new w _ t 0, by simp, by omega⟩
theorem PB.below {B : Nat} {w w' : World} {n b k : Nat} (p : PB w n b k) (h : Below B w w') (hn : n < B) : PB w' n b k :=
 ⟨(h.cell (p := ⟨n, 0, none⟩) hn).trans p.c, by have := h.size; have := p.lt; omega, p.ne⟩
theorem PB.alloc {w : World} {n b k : Nat} (p : PB w n b k) (o : Obj) : PB (w.alloc o) n b k := p.below ((Below.refl w.heap.size w).alloc (Nat.le_refl _) o) p.lt
theorem PB.fx {W W' : World} {n b k j : Nat} {q : Bool} (p : PB W n b k) (h : FxW W.heap.size W b j q W') : PB W' n b k :=
 ⟨(h.cell p.lt p.ne).trans p.c, by have := h.size; have := p.lt; omega, p.ne⟩
theorem PB.held {W : World} {n b k : Nat} (p : PB W n b k) : W.cell? ⟨n, 0, none⟩ = some (.pointer (some ⟨b, k, none⟩)) := p.c
structure IB (W : World) (n : Nat) (x : Int) : Prop where
 c : W.cell? ⟨n, 0, none⟩ = some (.int .i64 x)
 lt : n < W.heap.size
theorem IB.new (w : World) (n : Nat) (x : Int) (t : TypeId) (e : n = w.heap.size) : IB (w.alloc (.cells #[.int .i64 x] t)) n x := by
 subst e; exact ⟨World.cell?_alloc_new w _ t 0, by simp⟩
theorem IB.below {B : Nat} {w w' : World} {n : Nat} {x : Int} (p : IB w n x) (h : Below B w w') (hn : n < B) : IB w' n x :=
 ⟨(h.cell (p := ⟨n, 0, none⟩) hn).trans p.c, by have := h.size; have := p.lt; omega⟩
theorem IB.alloc {w : World} {n : Nat} {x : Int} (p : IB w n x) (o : Obj) : IB (w.alloc o) n x := p.below ((Below.refl w.heap.size w).alloc (Nat.le_refl _) o) p.lt
theorem IB.fx {W W' : World} {n b j : Nat} {x : Int} {q : Bool} (p : IB W n x) (h : FxW W.heap.size W b j q W') (e : b ≠ n) : IB W' n x :=
 ⟨(h.cell p.lt e).trans p.c, by have := h.size; have := p.lt; omega⟩
theorem spInside_any (c : Int) (w : World) :
  Calls Tryz.prog 163 #[.int .i64 c] w fun e w' => e = .returned (.bool (decide (Rg c))) ∧ w' = w := by
 obtain ⟨r, hr⟩ : ∃ r, decide (Rg c) = r := ⟨_, rfl⟩
 rw [hr]
 have R := Lib.hid hr
 clear hr
 go_enter Tryz.func163, Tryz.ntmps163
 by_cases h : -281474976710656 ≤ c
 ·have E := Lib.hid (show decide (c ≤ 281474976710656) = r by rw [← R.out, decide_eq_decide]; unfold Rg; omega)
  clear R
  go_wp2
  go_ret
  exact ⟨by rw [← E.out]; rfl, rfl⟩
 ·have E := Lib.hid (show false = r by rw [← R.out]; symm; rw [decide_eq_false_iff_not]; unfold Rg; omega)
  clear R
  go_wp2
  go_ret
  exact ⟨by rw [← E.out]; rfl, rfl⟩
set_option maxHeartbeats 4000000 in
theorem spWithin_any (a : Option Addr) (n c : Nat) (X Y : Nat → Int) (w : World) (hmax : n ≤ 1000) (D : Dots w a n c X Y) :
  Calls Tryz.prog 154 #[.slice a n c] w fun e w' => e = .returned (.bool (decide (nearN n X Y))) ∧ Below w.heap.size w w' := by
 have HD := Lib.hid D
 obtain ⟨N, hN⟩ : ∃ N, decide (nearN n X Y) = N := ⟨_, rfl⟩
 rw [hN]
 have HN := Lib.hid hN
 clear D hN
 go_enter Tryz.func154, Tryz.ntmps154
 go_wp2
 go_loopw [7] (fun i wr => ∃ j : Nat, j ≤ n ∧ i = .int .i64 j ∧ Hid (∀ k, k < j → Rg (X k) ∧ Rg (Y k)) ∧ Dots wr a n c X Y ∧ Below w.heap.size w wr) (fun i _ => n - (intOf i).toNat)
 case atStart => exact ⟨0, by omega, rfl, Lib.hid (fun k h => absurd h (by omega)), HD.out, Below.refl _ _⟩
 case round =>
  obtain ⟨j, hj, rfl, I, hD, hB⟩ := hrel
  have D1 := Lib.hid hD
  have B1 := Lib.hid hB
  clear hD hB HD
  by_cases hlt : j < n
  ·obtain ⟨b, off, ha, hb, hcell⟩ := D1.out.at' (by omega)
   subst ha
   obtain ⟨c0, c1⟩ := hcell j hlt
   have z0 : (0 : Int) ≤ (j : Int) := by omega
   have z1 : (j : Int) < (n : Int) := by omega
   have I2 := Lib.hid (fun (q : Rg (X j) ∧ Rg (Y j)) => all_next' (P := fun k => Rg (X k) ∧ Rg (Y k)) I.out q)
   have I3 := Lib.hid (fun (q : ¬ (Rg (X j) ∧ Rg (Y j))) => show false = N by rw [← HN.out]; symm; rw [decide_eq_false_iff_not]; exact fun k => q (k j hlt))
   clear hcell I
   go_wp2_with fail
   refine calls_gen (S := fun W => BW W wr.heap.size [.int .i64 (X j), .int .i64 (Y j)] ∧ Dots W (some ⟨b, off, none⟩) n c X Y ∧ Below w.heap.size w W) ⟨BW.new wr _ [_, _] _ rfl, D1.out.below ((Below.refl _ _).alloc (Nat.le_refl _) _) (Nat.le_refl _), B1.out.alloc B1.out.size _⟩ (fun W0 hS => ?_)
   have a1 : W0.cell? ⟨wr.heap.size, 1, none⟩ = some (.int .i64 (Y j)) := hS.1.c 1 _ rfl
   have D2 := Lib.hid hS.2.1
   have B2 := Lib.hid hS.2.2
   clear hS D1 B1 c0 c1
   generalize wr.heap.size = n1 at *
   refine (spInside_any (X j) _).mono ?_
   rintro e w1 ⟨rfl, rfl⟩
   by_cases hx : Rg (X j)
   ·rw [decide_eq_true hx]
    go_wp2_with fail
    refine (spInside_any (Y j) _).mono ?_
    rintro e w2 ⟨rfl, rfl⟩
    by_cases hy : Rg (Y j)
    ·rw [decide_eq_true hy]
     have E2 := Lib.hid (I2.out ⟨hx, hy⟩)
     clear hx hy I2 I3
     go_wp2
     go_roundw
     case rel => exact ⟨j + 1, by omega, by go_num, E2, D2.out, B2.out⟩
     case measure => simp [intOf]; omega
    ·rw [decide_eq_false hy]
     have E2 := Lib.hid (I3.out (fun h => hy h.2))
     clear hx hy I2 I3
     go_wp2
     go_ret
     exact ⟨by rw [← E2.out]; rfl, B2.out⟩
   ·rw [decide_eq_false hx]
    have E2 := Lib.hid (I3.out (fun h => hx h.1))
    clear hx I2 I3
    go_wp2
    go_ret
    exact ⟨by rw [← E2.out]; rfl, B2.out⟩
  ·have E := Lib.hid (show true = N by rw [← HN.out]; symm; rw [decide_eq_true_iff]; intro k hk; exact I.out k (by omega))
   clear I
   go_wp2
   go_ret
   exact ⟨by rw [← E.out]; rfl, B1.out⟩
theorem spRight_any (a : Option Addr) (n c : Nat) (X Y : Nat → Int) (w : World) (hmax : n ≤ 1000) (D : Dots w a n c X Y) :
  Calls Tryz.prog 132 #[.slice a n c] w fun e w' => e = .returned (.int .i64 (lineR n X Y)) ∧ Below w.heap.size w w' := by
 have V := Lib.hid (spWithin_any a n c X Y w hmax D)
 obtain ⟨q, hq⟩ : ∃ q, lineR n X Y = q := ⟨_, rfl⟩
 rw [hq]
 have HQ := Lib.hid hq
 clear D hq
 by_cases s1 : n < 3
 ·have g1 : (n : Int) < 3 := by omega
  have E := Lib.hid (show 42 = q by rw [← HQ.out]; unfold lineR; rw [if_pos (Or.inl s1)])
  clear V
  go_enter Tryz.func132, Tryz.ntmps132
  go_wp2
  go_ret
  exact ⟨retI E.out, Below.refl _ _⟩
 have g1 : ¬ (n : Int) < 3 := by omega
 by_cases s2 : 64 < n
 ·have g2 : (64 : Int) < n := by omega
  have E := Lib.hid (show 42 = q by rw [← HQ.out]; unfold lineR; rw [if_pos (Or.inr s2)])
  clear V
  go_enter Tryz.func132, Tryz.ntmps132
  go_wp2
  go_ret
  exact ⟨retI E.out, Below.refl _ _⟩
 have g2 : ¬ (64 : Int) < n := by omega
 by_cases hn : nearN n X Y
 ·rw [decide_eq_true hn] at V
  have E := Lib.hid (show 0 = q by rw [← HQ.out]; unfold lineR; rw [if_neg (by omega), if_pos hn])
  go_enter Tryz.func132, Tryz.ntmps132
  go_wp2_with fail
  refine (V.out).mono ?_
  rintro e w1 ⟨rfl, h⟩
  have HB := Lib.hid h
  clear h
  go_wp2
  go_ret
  exact ⟨retI E.out, HB.out⟩
 ·rw [decide_eq_false hn] at V
  have E := Lib.hid (show 40 = q by rw [← HQ.out]; unfold lineR; rw [if_neg (by omega), if_neg hn])
  go_enter Tryz.func132, Tryz.ntmps132
  go_wp2_with fail
  refine (V.out).mono ?_
  rintro e w1 ⟨rfl, h⟩
  have HB := Lib.hid h
  clear h
  go_wp2
  go_ret
  exact ⟨retI E.out, HB.out⟩
end Go.Proofs.YtmdjnamkbekjkaaGreatDoor
