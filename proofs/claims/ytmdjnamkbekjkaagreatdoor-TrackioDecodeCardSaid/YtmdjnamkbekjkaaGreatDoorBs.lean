/- -/
import Derived.Test.YtmdjnamkbekjkaaGreatDoorBm
import Derived.Test.YtmdjnamkbekjkaaGreatDoorBi
import Derived.Test.YtmdjnamkbekjkaaGreatDoorBp
import Derived.Test.YtmdjnamkbekjkaaGreatDoorBy
import Derived.Test.YtmdjnamkbekjkaaGreatDoorBk
namespace Go.Proofs.YtmdjnamkbekjkaaGreatDoor
open Go.RowKit
set_option linter.unusedVariables false
set_option linter.unusedSimpArgs false
theorem all_next' {P : Nat → Prop} {j : Nat} (h : ∀ k, k < j → P k) (p : P j) : ∀ k, k < j + 1 → P k := fun k hk => by
 rcases Nat.lt_or_ge k j with l | l
 ·exact h k l
 ·have e : k = j := by omega
  subst e; exact p
set_option maxHeartbeats 4000000 in
theorem rNearL_any (a : Option Addr) (n c : Nat) (X Y : Nat → Int) (w : World) (hmax : n ≤ 1000) (D : Dots w a n c X Y) :
  Calls Tryz.prog 105 #[.slice a n c] w fun e w' => e = .returned (.bool (decide (nearN n X Y))) ∧ w' = w := by
 have HD := Lib.hid D
 obtain ⟨N, hN⟩ : ∃ N, decide (nearN n X Y) = N := ⟨_, rfl⟩
 rw [hN]
 have HN := Lib.hid hN
 clear D hN
 go_enter Tryz.func105, Tryz.ntmps105
 go_wp2
 go_loopw [3] (fun i wr => ∃ j : Nat, j ≤ n ∧ i = .int .i64 j ∧ Hid (∀ k, k < j → Rg (X k) ∧ Rg (Y k)) ∧ wr = w) (fun i _ => n - (intOf i).toNat)
 case atStart => exact ⟨0, by omega, rfl, Lib.hid (fun k h => absurd h (by omega)), rfl⟩
 case round =>
  obtain ⟨j, hj, rfl, I, rfl⟩ := hrel
  by_cases hlt : j < n
  ·obtain ⟨b, off, ha, hb, hcell⟩ := HD.out.at' (by omega)
   subst ha
   obtain ⟨c0, c1⟩ := hcell j hlt
   have z0 : (0 : Int) ≤ (j : Int) := by omega
   have z1 : (j : Int) < (n : Int) := by omega
   clear hcell hb
   by_cases q1 : 281474976710656 < X j
   ·skip
    have E := Lib.hid (show false = N by rw [← HN.out]; symm; rw [decide_eq_false_iff_not]; intro k; have := k j hlt; unfold Rg at this; omega)
    clear I
    go_wp2
    go_ret
    exact ⟨by rw [← E.out]; rfl, rfl⟩
   ·by_cases q2 : X j < -281474976710656
    ·skip
     have E := Lib.hid (show false = N by rw [← HN.out]; symm; rw [decide_eq_false_iff_not]; intro k; have := k j hlt; unfold Rg at this; omega)
     clear I
     go_wp2
     go_ret
     exact ⟨by rw [← E.out]; rfl, rfl⟩
    ·by_cases q3 : 281474976710656 < Y j
     ·skip
      have E := Lib.hid (show false = N by rw [← HN.out]; symm; rw [decide_eq_false_iff_not]; intro k; have := k j hlt; unfold Rg at this; omega)
      clear I
      go_wp2
      go_ret
      exact ⟨by rw [← E.out]; rfl, rfl⟩
     ·by_cases q4 : Y j < -281474976710656
      ·skip
       have E := Lib.hid (show false = N by rw [← HN.out]; symm; rw [decide_eq_false_iff_not]; intro k; have := k j hlt; unfold Rg at this; omega)
       clear I
       go_wp2
       go_ret
       exact ⟨by rw [← E.out]; rfl, rfl⟩
      ·have I2 := Lib.hid (all_next' (P := fun k => Rg (X k) ∧ Rg (Y k)) I.out (by unfold Rg; omega))
       clear I
       go_wp2
       go_roundw
       case rel => exact ⟨j + 1, by omega, by go_num, I2, trivial⟩
       case measure => simp [intOf]; omega
  ·have E := Lib.hid (show true = N by rw [← HN.out]; symm; rw [decide_eq_true_iff]; intro k hk; exact I.out k (by omega))
   clear I
   go_wp2
   go_ret
   exact ⟨by rw [← E.out]; rfl, rfl⟩
theorem rSRight_any (a : Option Addr) (n c : Nat) (X Y : Nat → Int) (w : World) (hmax : n ≤ 1000) (D : Dots w a n c X Y) :
  Calls Tryz.prog 57 #[.slice a n c] w fun e w' => e = .returned (.int .i64 (lineR n X Y)) ∧ w' = w := by
 have V := Lib.hid (rNearL_any a n c X Y w hmax D)
 obtain ⟨q, hq⟩ : ∃ q, lineR n X Y = q := ⟨_, rfl⟩
 rw [hq]
 have HQ := Lib.hid hq
 clear D hq
 by_cases s1 : n < 3
 ·have g1 : (n : Int) < 3 := by omega
  have E := Lib.hid (show 42 = q by rw [← HQ.out]; unfold lineR; rw [if_pos (Or.inl s1)])
  clear V
  go_enter Tryz.func57, Tryz.ntmps57
  go_wp2
  go_ret
  exact ⟨retI E.out, rfl⟩
 have g1 : ¬ (n : Int) < 3 := by omega
 by_cases s2 : 64 < n
 ·have g2 : (64 : Int) < n := by omega
  have E := Lib.hid (show 42 = q by rw [← HQ.out]; unfold lineR; rw [if_pos (Or.inr s2)])
  clear V
  go_enter Tryz.func57, Tryz.ntmps57
  go_wp2
  go_ret
  exact ⟨retI E.out, rfl⟩
 have g2 : ¬ (64 : Int) < n := by omega
 by_cases hn : nearN n X Y
 ·rw [decide_eq_true hn] at V
  have E := Lib.hid (show 0 = q by rw [← HQ.out]; unfold lineR; rw [if_neg (by omega), if_pos hn])
  go_enter Tryz.func57, Tryz.ntmps57
  go_wp2_with fail
  refine (V.out).mono ?_
  rintro e w1 ⟨rfl, rfl⟩
  go_wp2
  go_ret
  exact ⟨retI E.out, rfl⟩
 ·rw [decide_eq_false hn] at V
  have E := Lib.hid (show 40 = q by rw [← HQ.out]; unfold lineR; rw [if_neg (by omega), if_neg hn])
  go_enter Tryz.func57, Tryz.ntmps57
  go_wp2_with fail
  refine (V.out).mono ?_
  rintro e w1 ⟨rfl, rfl⟩
  go_wp2
  go_ret
  exact ⟨retI E.out, rfl⟩
structure StF (w W : World) (b k : Nat) (o : Bool) (L : List (Nat × List Value)) : Prop where
 c : ∀ n l, (n, l) ∈ L → BW W n l
 f : Flag w W b k o
 e : ∀ n l, (n, l) ∈ L → b ≠ n
theorem StF.more {w W W' : World} {b k : Nat} {o : Bool} {L : List (Nat × List Value)} (Q : StF w W b k o L) (h : Below W.heap.size W W') : StF w W' b k o L :=
 ⟨fun n l e => (Q.c n l e).below h (Q.c n l e).lt, Q.f.more h, Q.e⟩
theorem StF.fx {w W W' : World} {b k : Nat} {o q : Bool} {L : List (Nat × List Value)} (Q : StF w W b k o L) (h : FxW W.heap.size W b k q W') : StF w W' b k q L :=
 ⟨fun n l e => (Q.c n l e).fx h (Q.e n l e), Q.f.fx h, Q.e⟩
theorem StF.alloc {w W : World} {b k : Nat} {o : Bool} {L : List (Nat × List Value)} (Q : StF w W b k o L) (ob : Obj) : StF w (W.alloc ob) b k o L := Q.more ((Below.refl _ _).alloc (Nat.le_refl _) ob)
theorem StF.nil {w W : World} {b k : Nat} {o : Bool} (f : Flag w W b k o) : StF w W b k o [] := ⟨fun n l e => by simp at e, f, fun n l e => by simp at e⟩
structure SmW (w W : World) (b k : Nat) (o : Bool) (a : Option Addr) (n c : Nat) (X Y : Nat → Int) : Prop where
 d : Dots W a n c X Y
 f : Flag w W b k o
 e : 0 < n → ∀ p, a = some p → p.block ≠ b ∧ p.block < w.heap.size
theorem SmW.fx {w W W' : World} {b k : Nat} {o q : Bool} {a : Option Addr} {n c : Nat} {X Y : Nat → Int} (Q : SmW w W b k o a n c X Y) (h : FxW W.heap.size W b k q W') : SmW w W' b k q a n c X Y :=
 ⟨Q.d.fx h (fun h0 p e => (Q.e h0 p e).1), Q.f.fx h, Q.e⟩
theorem SmW.below {w W W' : World} {C b k : Nat} {o : Bool} {a : Option Addr} {n c : Nat} {X Y : Nat → Int} (Q : SmW w W b k o a n c X Y) (h : Below C W W') (hC : w.heap.size ≤ C) : SmW w W' b k o a n c X Y :=
 ⟨⟨Q.d.hm, Q.d.hl, Q.d.wf, fun h0 => by
  obtain ⟨m, off, e, hm, hc⟩ := Q.d.at' h0
  have hb := (Q.e h0 _ e).2
  have hb' : m < w.heap.size := hb
  exact ⟨m, off, e, by have := h.size; omega, fun i hi => ⟨(h.cell (p := ⟨m, _, none⟩) (by show m < C; omega)).trans (hc i hi).1, (h.cell (p := ⟨m, _, none⟩) (by show m < C; omega)).trans (hc i hi).2⟩⟩⟩,
  ⟨Q.f.m.below h (by have := Q.f.lt; omega), Q.f.f.then h hC, Q.f.lt⟩, Q.e⟩
theorem SmW.more {w W W' : World} {b k : Nat} {o : Bool} {a : Option Addr} {n c : Nat} {X Y : Nat → Int} (Q : SmW w W b k o a n c X Y) (h : Below W.heap.size W W') : SmW w W' b k o a n c X Y := Q.below h Q.f.f.size
end Go.Proofs.YtmdjnamkbekjkaaGreatDoor
