/- -/
import Derived.Test.YtmdjnamkbekjkaaGreatDoorCg
import Derived.Test.YtmdjnamkbekjkaaGreatDoorEt
import Derived.Test.YtmdjnamkbekjkaaGreatDoorBl
import Derived.Test.YtmdjnamkbekjkaaGreatDoorB5
namespace Go.Proofs.YtmdjnamkbekjkaaGreatDoor
open Go.RowKit
set_option linter.unusedVariables false
set_option linter.unusedSimpArgs false
theorem tkWithinI_any (l u n : Int) (w : World) :
  Calls Tryz.prog 129 #[.int .i64 l, .int .i64 u, .int .i64 n] w fun e w' => e = .returned (.bool (decide (l ≤ n ∧ n ≤ u))) ∧ w' = w := by
 obtain ⟨r, hr⟩ : ∃ r, decide (l ≤ n ∧ n ≤ u) = r := ⟨_, rfl⟩
 rw [hr]
 have R := Lib.hid hr
 clear hr
 go_enter Tryz.func129, Tryz.ntmps129
 by_cases h1 : l ≤ n
 ·have E := Lib.hid (show decide (n ≤ u) = r by rw [← R.out, decide_eq_decide]; omega)
  clear R
  go_wp2
  go_ret
  exact ⟨by rw [← E.out]; rfl, rfl⟩
 ·have E := Lib.hid (show false = r by rw [← R.out]; symm; rw [decide_eq_false_iff_not]; omega)
  clear R
  go_wp2
  go_ret
  exact ⟨by rw [← E.out]; rfl, rfl⟩
theorem tkWithinF_any (l u n : Int) (w : World) :
  Calls Tryz.prog 155 #[.int .i64 l, .int .i64 u, .int .i64 n] w fun e w' => e = .returned (.bool (decide (l ≤ n ∧ n ≤ u))) ∧ w' = w := by
 obtain ⟨r, hr⟩ : ∃ r, decide (l ≤ n ∧ n ≤ u) = r := ⟨_, rfl⟩
 rw [hr]
 have R := Lib.hid hr
 clear hr
 go_enter Tryz.func155, Tryz.ntmps155
 by_cases h1 : l ≤ n
 ·have E := Lib.hid (show decide (n ≤ u) = r by rw [← R.out, decide_eq_decide]; omega)
  clear R
  go_wp2
  go_ret
  exact ⟨by rw [← E.out]; rfl, rfl⟩
 ·have E := Lib.hid (show false = r by rw [← R.out]; symm; rw [decide_eq_false_iff_not]; omega)
  clear R
  go_wp2
  go_ret
  exact ⟨by rw [← E.out]; rfl, rfl⟩
def Pts (w : World) (a : Option Addr) (n : Nat) (X Y : Nat → Int) : Prop := 0 < n → ∃ b off, a = some ⟨b, off, none⟩ ∧ b < w.heap.size ∧ ∀ i, i < n → w.cell? ⟨b, off + i * 2, none⟩ = some (.int .i64 (X i)) ∧ w.cell? ⟨b, off + i * 2 + 1, none⟩ = some (.int .i64 (Y i))
theorem Pts.step {w w' : World} {a : Option Addr} {n : Nat} {X Y : Nat → Int} (k : Pts w a n X Y) (h : Below w.heap.size w w') : Pts w' a n X Y := fun hn => by
 obtain ⟨b, off, ha, hb, hc⟩ := k hn
 exact ⟨b, off, ha, Nat.lt_of_lt_of_le hb h.size, fun i hi => ⟨(h.cell (p := ⟨b, _, none⟩) hb).trans (hc i hi).1, (h.cell (p := ⟨b, _, none⟩) hb).trans (hc i hi).2⟩⟩
def two (x y : Int) (i : Nat) : Int := if i = 0 then x else y
theorem Pts.two {w : World} {b : Nat} {ax ay bx by' : Int} (k : BW w b [.int .i64 ax, .int .i64 ay, .int .i64 bx, .int .i64 by']) : Pts w (some ⟨b, 0, none⟩) 2 (two ax bx) (two ay by') :=
 fun _ => ⟨b, 0, rfl, k.lt, fun i hi => by
  rcases (show i = 0 ∨ i = 1 by omega) with e | e
  ·subst e; exact ⟨k.c 0 _ rfl, k.c 1 _ rfl⟩
  ·subst e; exact ⟨k.c 2 _ rfl, k.c 3 _ rfl⟩⟩
theorem hlf_two (ax ay bx by' : Int) : decide (hlfN 2 (two ax bx) (two ay by')) = decide (hlfP ax ay ∧ hlfP bx by') := by
 rw [decide_eq_decide]
 refine ⟨fun k => ⟨k 0 (by omega), k 1 (by omega)⟩, fun k i hi => ?_⟩
 rcases (show i = 0 ∨ i = 1 by omega) with e | e
 ·subst e; exact k.1
 ·subst e; exact k.2
theorem stp_two (ax ay bx by' : Int) : decide (stpN 2 (two ax bx) (two ay by')) = decide (¬ (ax = bx ∧ ay = by')) := by
 rw [decide_eq_decide]
 refine ⟨fun k h => k 0 (by omega) ⟨h.1.symm, h.2.symm⟩, fun k i hi h => ?_⟩
 obtain rfl : i = 0 := by omega
 exact k ⟨h.1.symm, h.2.symm⟩
set_option maxRecDepth 100000 in
set_option maxHeartbeats 4000000 in
theorem tkNear_any (a : Option Addr) (n c : Nat) (X Y : Nat → Int) (w : World) (hmax : n ≤ 1000) (D : Pts w a n X Y) :
  Calls Tryz.prog 133 #[.slice a n c] w fun e w' => e = .returned (.bool (decide (hlfN n X Y))) ∧ Below w.heap.size w w' := by
 have HD := Lib.hid D
 obtain ⟨N, hN⟩ : ∃ N, decide (hlfN n X Y) = N := ⟨_, rfl⟩
 rw [hN]
 have HN := Lib.hid hN
 clear D hN
 go_enter Tryz.func133, Tryz.ntmps133
 go_wp2
 go_loopw [7] (fun i wr => ∃ j : Nat, j ≤ n ∧ i = .int .i64 j ∧ Hid (∀ k, k < j → hlfP (X k) (Y k)) ∧ Hid (Pts wr a n X Y) ∧ Below w.heap.size w wr) (fun i _ => n - (intOf i).toNat)
 case atStart => exact ⟨0, by omega, rfl, Lib.hid (fun k h => absurd h (by omega)), HD, Below.refl _ _⟩
 case round =>
  obtain ⟨j, hj, rfl, I, D1, hB⟩ := hrel
  have B1 := Lib.hid hB
  clear hB HD
  by_cases hlt : j < n
  ·obtain ⟨b, off, ha, hb, hcell⟩ := D1.out (by omega)
   subst ha
   obtain ⟨c0, c1⟩ := hcell j hlt
   have z0 : (0 : Int) ≤ (j : Int) := by omega
   have z1 : (j : Int) < (n : Int) := by omega
   have I2 := Lib.hid (fun (q : hlfP (X j) (Y j)) => all_next' (P := fun k => hlfP (X k) (Y k)) I.out q)
   have I3 := Lib.hid (fun (q : ¬ hlfP (X j) (Y j)) => show false = N by rw [← HN.out]; symm; rw [decide_eq_false_iff_not]; exact fun k => q (k j hlt))
   clear hcell I
   go_wp2_with fail
   refine calls_gen (S := fun W => BW W wr.heap.size [.int .i64 (X j), .int .i64 (Y j)] ∧ Hid (Pts W (some ⟨b, off, none⟩) n X Y) ∧ Below w.heap.size w W) ⟨BW.new wr _ [_, _] _ rfl, Lib.hid (D1.out.step ((Below.refl _ _).alloc (Nat.le_refl _) _)), B1.out.alloc B1.out.size _⟩ (fun W0 hS => ?_)
   have a1 : W0.cell? ⟨wr.heap.size, 1, none⟩ = some (.int .i64 (Y j)) := hS.1.c 1 _ rfl
   have D2 := hS.2.1
   have B2 := Lib.hid hS.2.2
   clear hS D1 B1 c0 c1
   generalize wr.heap.size = n1 at *
   refine (tkWithinF_any (-140737488355328) 140737488355328 (X j) _).mono ?_
   rintro e w1 ⟨rfl, rfl⟩
   by_cases hx : -140737488355328 ≤ X j ∧ X j ≤ 140737488355328
   ·rw [decide_eq_true hx]
    go_wp2_with fail
    refine (tkWithinF_any (-140737488355328) 140737488355328 (Y j) _).mono ?_
    rintro e w2 ⟨rfl, rfl⟩
    by_cases hy : -140737488355328 ≤ Y j ∧ Y j ≤ 140737488355328
    ·rw [decide_eq_true hy]
     have E2 := Lib.hid (I2.out ⟨hx, hy⟩)
     clear hx hy I2 I3
     go_wp2
     go_roundw
     case rel => exact ⟨j + 1, by omega, by go_num, E2, D2, B2.out⟩
     case measure => simp [intOf]; omega
    ·rw [decide_eq_false hy]
     have E2 := Lib.hid (I3.out (fun h => hy h.2))
     clear hx hy I2 I3
     go_wp2
     go_ret
     exact ⟨by rw [← E2.out]; rfl, B2.out⟩
   ·rw [decide_eq_false hx]
    have E2 := Lib.hid (I3.out (fun h => hx h.1))
    clear hx I2 I3
    go_wp2
    go_ret
    exact ⟨by rw [← E2.out]; rfl, B2.out⟩
  ·have E := Lib.hid (show true = N by rw [← HN.out]; symm; rw [decide_eq_true_iff]; intro k hk; exact I.out k (by omega))
   clear I
   go_wp2
   go_ret
   exact ⟨by rw [← E.out]; rfl, B1.out⟩
set_option maxRecDepth 100000 in
set_option maxHeartbeats 4000000 in
theorem tkRepeats_any (a : Option Addr) (n c : Nat) (X Y : Nat → Int) (w : World) (hmax : n ≤ 1000) (D : Pts w a n X Y) :
  Calls Tryz.prog 156 #[.slice a n c] w fun e w' => e = .returned (.bool (!decide (stpN n X Y))) ∧ Below w.heap.size w w' := by
 have HD := Lib.hid D
 obtain ⟨N, hN⟩ : ∃ N, (!decide (stpN n X Y)) = N := ⟨_, rfl⟩
 rw [hN]
 have HN := Lib.hid hN
 clear D hN
 go_enter Tryz.func156, Tryz.ntmps156
 go_wp2
 go_loopw [3] (fun i wr => ∃ j : Nat, 1 ≤ j ∧ (j ≤ n ∨ j = 1) ∧ i = .int .i64 j ∧ Hid (∀ k, k + 1 < j → ¬ (X (k + 1) = X k ∧ Y (k + 1) = Y k)) ∧ Hid (Pts wr a n X Y) ∧ Below w.heap.size w wr) (fun i _ => n - (intOf i).toNat)
 case atStart => exact ⟨1, by omega, Or.inr rfl, rfl, Lib.hid (fun k h => absurd h (by omega)), HD, Below.refl _ _⟩
 case round =>
  obtain ⟨j, hj1, hj, rfl, I, D2, hB⟩ := hrel
  have B2 := Lib.hid hB
  clear hB HD
  by_cases hlt : j < n
  ·obtain ⟨b, off, ha, hb, hcell⟩ := D2.out (by omega)
   subst ha
   obtain ⟨p, hp⟩ : ∃ p, p + 1 = j := ⟨j - 1, by omega⟩
   obtain ⟨c0, c1⟩ := hcell j hlt
   obtain ⟨d0, d1⟩ := hcell p (by omega)
   have z0 : (0 : Int) ≤ (j : Int) := by omega
   have z1 : (j : Int) < (n : Int) := by omega
   have y0 : (0 : Int) ≤ (p : Int) := by omega
   have y1 : (p : Int) < (n : Int) := by omega
   have WP := Lib.hid (show IntKind.i64.wrap ((j : Int) - 1) = (p : Int) by rw [show (j : Int) - 1 = (p : Int) by omega]; exact (wrap_in' (by unfold In64; omega)).1)
   have IN := Lib.hid (fun (h : ¬ (X j = X p ∧ Y j = Y p)) (k : Nat) (hk : k + 1 < j + 1) => show ¬ (X (k + 1) = X k ∧ Y (k + 1) = Y k) by
    rcases Nat.lt_or_ge (k + 1) j with l | l
    ·exact I.out k l
    ·have : k = p := by omega
     subst this; rw [hp]; exact h)
   have NO := Lib.hid (fun (h : X j = X p ∧ Y j = Y p) => show true = N by rw [← HN.out]; symm; rw [Bool.not_eq_true', decide_eq_false_iff_not]; intro k; exact k p (by omega) (by rw [hp]; exact h))
   have HJ := Lib.hid (And.intro hp hj)
   clear hcell hp I hj
   go_wp2
   have u1 := WP.out
   have ev := fun a b c d w => eqV2 a b c d w
   go_quiet (fail)
   clear u1 ev c0 c1 d0 d1
   obtain ⟨z, hz⟩ : ∃ z, (X p == X j && Y p == Y j) = z := ⟨_, rfl⟩
   rw [hz]
   cases z
   ·have E := Lib.hid (IN.out (fun k => by rw [beq_iff_eq.mpr k.1.symm, beq_iff_eq.mpr k.2.symm] at hz; cases hz))
    clear NO IN hz
    go_wp2
    go_roundw
    case rel => exact ⟨j + 1, by omega, Or.inl (by omega), by go_num, E, Lib.hid (D2.out.step (by repeat (first | exact Below.refl _ _ | assumption | refine Below.setCell ?_ (by first | omega | (simp; done) | (simp; omega)) _ | refine Below.alloc ?_ (by first | omega | (simp; done) | (simp; omega)) _ | refine below_drewN ?_ _ | refine Below.drew ?_ | refine Below.trans ?_ (Below.mono (by assumption) (by first | omega | (simp; done) | (simp; omega)))))), by have := B2.out; repeat (first | exact Below.refl _ _ | assumption | refine Below.setCell ?_ (by first | omega | (simp; done) | (simp; omega)) _ | refine Below.alloc ?_ (by first | omega | (simp; done) | (simp; omega)) _ | refine below_drewN ?_ _ | refine Below.drew ?_ | refine Below.trans ?_ (Below.mono (by assumption) (by first | omega | (simp; done) | (simp; omega))))⟩
    case measure => simp [intOf]; omega
   ·have E := Lib.hid (NO.out (by rw [Bool.and_eq_true] at hz; exact ⟨(beq_iff_eq.mp hz.1).symm, (beq_iff_eq.mp hz.2).symm⟩))
    clear NO IN hz
    go_wp2
    go_ret
    exact ⟨by rw [← E.out]; rfl, by have := B2.out; repeat (first | exact Below.refl _ _ | assumption | refine Below.setCell ?_ (by first | omega | (simp; done) | (simp; omega)) _ | refine Below.alloc ?_ (by first | omega | (simp; done) | (simp; omega)) _ | refine below_drewN ?_ _ | refine Below.drew ?_ | refine Below.trans ?_ (Below.mono (by assumption) (by first | omega | (simp; done) | (simp; omega))))⟩
  ·have E := Lib.hid (show false = N by rw [← HN.out]; symm; rw [Bool.not_eq_false', decide_eq_true_iff]; intro k hk; exact I.out k (by omega))
   clear I hj
   go_wp2
   go_ret
   exact ⟨by rw [← E.out]; rfl, B2.out⟩
set_option maxRecDepth 100000 in
set_option maxHeartbeats 4000000 in
theorem tkRail_any (s : Ds) (w : World) (hmax : s.n ≤ 1000) (D : Dots w s.a s.n s.c s.x s.y) :
  Calls Tryz.prog 134 #[.slice s.a s.n s.c] w fun e w' => e = .returned (.int .i64 (railE s)) ∧ Below w.heap.size w w' := by
 obtain ⟨q, hq⟩ : ∃ q, railE s = q := ⟨_, rfl⟩
 rw [hq]
 have HQ := Lib.hid hq
 obtain ⟨a, n, c, X, Y⟩ := s
 dsimp only at hmax D HQ ⊢
 have V := Lib.hid (tkNear_any a n c X Y w hmax D.at')
 have V2 := Lib.hid (fun (W : World) (h : Below w.heap.size w W) => tkRepeats_any a n c X Y W hmax (Pts.step D.at' h))
 clear D hq
 by_cases s1 : n < 2 ∨ 64 < n
 ·have g1 : ¬ (2 ≤ (n : Int) ∧ (n : Int) ≤ 64) := by omega
  have E := Lib.hid (show 42 = q by rw [← HQ.out]; unfold railE; rw [if_pos s1])
  clear V V2
  go_enter Tryz.func134, Tryz.ntmps134
  go_wp2_with fail
  refine (tkWithinI_any 2 64 n _).mono ?_
  rintro e w1 ⟨rfl, rfl⟩
  rw [decide_eq_false g1]
  clear g1 s1
  go_wp2
  go_ret
  exact ⟨retI E.out, Below.refl _ _⟩
 have g1 : 2 ≤ (n : Int) ∧ (n : Int) ≤ 64 := by omega
 by_cases s3 : hlfN n X Y
 rotate_left
 ·rw [decide_eq_false s3] at V
  have E := Lib.hid (show 40 = q by rw [← HQ.out]; unfold railE; dsimp only; rw [if_neg s1, if_neg s3])
  go_enter Tryz.func134, Tryz.ntmps134
  go_wp2_with fail
  refine (tkWithinI_any 2 64 n _).mono ?_
  rintro e w1 ⟨rfl, rfl⟩
  rw [decide_eq_true g1]
  clear g1 s1 s3
  go_wp2_with fail
  refine (V.out).mono ?_
  rintro e w1 ⟨rfl, h⟩
  have HB := Lib.hid h
  clear h V
  go_wp2
  go_ret
  exact ⟨retI E.out, HB.out⟩
 rw [decide_eq_true s3] at V
 have EQ := Lib.hid (show (if stpN n X Y then (0 : Int) else 43) = q by rw [← HQ.out]; unfold railE; dsimp only; rw [if_neg s1, if_pos s3])
 clear HQ s3
 go_enter Tryz.func134, Tryz.ntmps134
 go_wp2_with fail
 refine (tkWithinI_any 2 64 n _).mono ?_
 rintro e w1 ⟨rfl, rfl⟩
 rw [decide_eq_true g1]
 clear g1 s1
 go_wp2_with fail
 refine (V.out).mono ?_
 rintro e w1 ⟨rfl, h⟩
 have HB := Lib.hid h
 have V3 := Lib.hid (V2.out _ h)
 clear h V V2
 go_wp2_with fail
 refine (V3.out).mono ?_
 rintro e w2 ⟨rfl, h⟩
 have HC := Lib.hid (HB.out.trans (h.mono HB.out.size))
 clear h V3 HB
 by_cases s4 : stpN n X Y
 ·have E := Lib.hid (show 0 = q by rw [← EQ.out, if_pos s4])
  rw [decide_eq_true s4]
  clear s4 EQ
  go_wp2
  go_ret
  exact ⟨retI E.out, HC.out⟩
 ·have E := Lib.hid (show 43 = q by rw [← EQ.out, if_neg s4])
  rw [decide_eq_false s4]
  clear s4 EQ
  go_wp2
  go_ret
  exact ⟨retI E.out, HC.out⟩
def GW (w W : World) (m : Nat) (g : Gt) : Prop := BW W m [.int .i64 g.ax, .int .i64 g.ay, .int .i64 g.bx, .int .i64 g.by', .bool g.s] ∧ Below w.heap.size w W ∧ w.heap.size ≤ m
theorem GW.step {w W W' : World} {m : Nat} {g : Gt} (G : GW w W m g) (h : Below W.heap.size W W') : GW w W' m g := ⟨G.1.below h G.1.lt, G.2.1.trans (h.mono G.2.1.size), G.2.2⟩
set_option maxRecDepth 100000 in
set_option maxHeartbeats 4000000 in
theorem tkGate_any (g : Gt) (w : World) :
  Calls Tryz.prog 135 #[.agg #[.int .i64 g.ax, .int .i64 g.ay, .int .i64 g.bx, .int .i64 g.by', .bool g.s]] w fun e w' => e = .returned (.int .i64 (gateE g)) ∧ Below w.heap.size w w' := by
 obtain ⟨ax, ay, bx, by', s⟩ := g
 dsimp only
 obtain ⟨q, hq⟩ : ∃ q, gateE ⟨ax, ay, bx, by', s⟩ = q := ⟨_, rfl⟩
 rw [hq]
 have HQ := Lib.hid hq
 clear hq
 go_enter Tryz.func135, Tryz.ntmps135
 go_wp2_with fail
 refine calls_gen (S := fun W => GW w W w.heap.size ⟨ax, ay, bx, by', s⟩ ∧ BW W (w.heap.size + 1) [.int .i64 ax, .int .i64 ay, .int .i64 bx, .int .i64 by']) ⟨⟨(BW.new w w.heap.size [_, _, _, _, _] _ rfl).alloc _, by repeat (first | exact Below.refl _ _ | assumption | refine Below.setCell ?_ (by first | omega | (simp; done) | (simp; omega)) _ | refine Below.alloc ?_ (by first | omega | (simp; done) | (simp; omega)) _ | refine below_drewN ?_ _ | refine Below.drew ?_ | refine Below.trans ?_ (Below.mono (by assumption) (by first | omega | (simp; done) | (simp; omega)))), Nat.le_refl _⟩, BW.new _ _ [_, _, _, _] _ (by simp)⟩ (fun W0 hS => ?_)
 have G0 := Lib.hid hS.1
 refine (tkNear_any _ 2 2 _ _ _ (by omega) (Pts.two hS.2)).mono ?_
 clear hS
 rw [hlf_two]
 rintro e w1 ⟨rfl, h⟩
 have G1 := Lib.hid (G0.out.step h)
 clear h G0
 by_cases h1 : hlfP ax ay ∧ hlfP bx by'
 rotate_left
 ·have E := Lib.hid (show 40 = q by rw [← HQ.out]; unfold gateE; rw [if_neg h1])
  rw [decide_eq_false h1]
  clear h1 HQ
  go_wp2
  go_ret
  exact ⟨retI E.out, G1.out.2.1⟩
 have EQ := Lib.hid (show (if ax = bx ∧ ay = by' then (43 : Int) else 0) = q by rw [← HQ.out]; unfold gateE; dsimp only; rw [if_pos h1])
 rw [decide_eq_true h1]
 clear h1 HQ
 have c0 := G1.out.1.c 0 _ rfl
 have c1 := G1.out.1.c 1 _ rfl
 have c2 := G1.out.1.c 2 _ rfl
 have c3 := G1.out.1.c 3 _ rfl
 go_wp2_with fail
 refine calls_gen (S := fun W => GW w W w.heap.size ⟨ax, ay, bx, by', s⟩ ∧ BW W w1.heap.size [.int .i64 ax, .int .i64 ay, .int .i64 bx, .int .i64 by']) ⟨G1.out.step ((Below.refl _ _).alloc (Nat.le_refl _) _), BW.new _ _ [_, _, _, _] _ rfl⟩ (fun W0 hS => ?_)
 have G2 := Lib.hid hS.1
 refine (tkRepeats_any _ 2 2 _ _ _ (by omega) (Pts.two hS.2)).mono ?_
 clear hS c0 c1 c2 c3 G1
 rw [stp_two]
 rintro e w3 ⟨rfl, h⟩
 have G3 := Lib.hid (G2.out.step h)
 clear h G2
 by_cases h2 : ax = bx ∧ ay = by'
 ·have E := Lib.hid (show 43 = q by rw [← EQ.out, if_pos h2])
  rw [decide_eq_false (not_not_intro h2)]
  clear h2 EQ
  go_wp2
  go_ret
  exact ⟨retI E.out, G3.out.2.1⟩
 ·have E := Lib.hid (show 0 = q by rw [← EQ.out, if_neg h2])
  rw [decide_eq_true h2]
  clear h2 EQ
  go_wp2
  go_ret
  exact ⟨retI E.out, G3.out.2.1⟩
def BrT (pb o2 o3 : Nat) (x0 y0 x1 y1 : Int) (W : World) : Prop :=
 (W.cell? ⟨pb, o2, none⟩ = some (.int .i64 x0) ∧ W.cell? ⟨pb, o2 + 1, none⟩ = some (.int .i64 y0)) ∧ W.cell? ⟨pb, o3, none⟩ = some (.int .i64 x1) ∧ W.cell? ⟨pb, o3 + 1, none⟩ = some (.int .i64 y1)
theorem BrT.keep {pb o2 o3 C : Nat} {x0 y0 x1 y1 : Int} {W W' : World} (h : Below C W W') (e : pb < C) (S : BrT pb o2 o3 x0 y0 x1 y1 W) : BrT pb o2 o3 x0 y0 x1 y1 W' :=
 ⟨⟨(h.cell (p := ⟨pb, _, none⟩) e).trans S.1.1, (h.cell (p := ⟨pb, _, none⟩) e).trans S.1.2⟩, (h.cell (p := ⟨pb, _, none⟩) e).trans S.2.1, (h.cell (p := ⟨pb, _, none⟩) e).trans S.2.2⟩
set_option maxRecDepth 100000 in
set_option maxHeartbeats 8000000 in
theorem tkBars_any (k : Tk) (B : Nat) (w : World) (hB : B ≤ w.heap.size) (few : fewR k) (K : TkM B w k) :
  Calls Tryz.prog 157 #[trkV k.t] w fun e w' => ∃ a c, e = .returned (.slice a (barN k k.t.rn) c) ∧ Brs w' a (barN k k.t.rn) c (barG k) ∧ Below w.heap.size w w' := by
 have Q0 := Lib.hid (PK.new 34 K hB)
 have fr := few.2.1
 have FR := Lib.hid few.2.2.2
 have BL := Lib.hid (fun (m : Nat) (hm : m ≤ k.t.rn) => barN_le k (q := 99) (fun i hi => by have := FR.out i hi; omega) hm)
 obtain ⟨i0, hi, hz0, hz1, hz2⟩ := info_parts barInfo
 have U := Tryz.underlying106
 obtain ⟨ra, hra0⟩ : ∃ ra, k.t.ra = ra := ⟨_, rfl⟩
 have HRA := Lib.hid hra0
 clear K few hra0
 go_enter Tryz.func157, Tryz.ntmps157
 go_wp2_with fail
 refine wp_gen (S := fun W => PK w W B w.heap.size k ∧ w.heap.size + 1 ≤ W.heap.size ∧ W.ownsRow (w.heap.size + 1) 110 5 (.slice (some ⟨w.heap.size + 1, 0, none⟩) 0 0) 0 []) ⟨Q0.out.step ((Below.refl _ _).alloc (Nat.le_refl _) _), by simp, by
  have := World.ownsRow_lit (base := w.heap.size + 1) (e := 110) (size := 5) (w.alloc (.cells #[.int .i64 k.t.rate, .int .i64 k.t.cell, .int .i64 k.t.cols, .int .i64 k.t.rows, .int .i64 k.t.cx, .int .i64 k.t.cy, .slice k.t.H.a k.t.H.n k.t.H.c, .slice k.t.G.a k.t.G.n k.t.G.c, .slice k.t.ka k.t.kn k.t.kc, .slice k.t.la k.t.ln k.t.lc, .slice k.t.ra k.t.rn k.t.rc, .slice k.t.ga k.t.gn k.t.gc, .int .i64 k.t.sx, .int .i64 k.t.sy, .int .u32 k.t.head, .int .i64 k.t.laps] 34)) #[] 0 (by simp) (by unfold maxLen; omega) (by simp)
  simpa using this⟩ (fun W1 hS => ?_)
 have Q1 := Lib.hid hS.1
 have Z1 := hS.2.1
 have O1 := Lib.hid hS.2.2
 rw [HRA.out]
 clear hS Q0
 go_loopw [3, 11] (fun v i wr => ∃ j : Nat, j ≤ k.t.rn ∧ i = .int .i64 j ∧ wr.ownsRow (w.heap.size + 1) 110 5 v (barN k j) (fvL (barG k) (barN k j)) ∧ PK w wr B w.heap.size k ∧ w.heap.size + 1 ≤ wr.heap.size) (fun _ i _ => k.t.rn - (intOf i).toNat)
 case atStart => exact ⟨0, by omega, rfl, O1.out, Q1.out, Z1⟩
 case round =>
  obtain ⟨j, hj, rfl, hO, hQ, hZ⟩ := hrel
  have Q2 := Lib.hid hQ
  have O2 := Lib.hid hO
  have cl := Q2.out.c.lt
  clear hO hQ Q1 Z1 O1
  by_cases hlj : j < k.t.rn
  ·have bl1 := BL.out (j + 1) (by omega)
   have b1 : barN k (j + 1) = barN k j + ((k.R j).n - 1) := rfl
   have BB := Lib.hid (And.intro bl1 b1)
   have hn := FR.out j hlj
   obtain ⟨rb, ro, hra, hrb, hrc⟩ := Q2.out.t.R (by omega)
   have d0 := hrc j hlj
   have hrb' := Nat.lt_of_lt_of_le hrb Q2.out.bz
   obtain rfl := HRA.out.symm.trans hra
   have z0 : (0 : Int) ≤ (j : Int) := by omega
   have z1 : (j : Int) < (k.t.rn : Int) := by omega
   obtain ⟨pa, hpa0⟩ : ∃ pa, (k.R j).a = pa := ⟨_, rfl⟩
   rw [hpa0] at d0
   have HPA := Lib.hid hpa0
   clear bl1 b1 hra hrb hrc hpa0
   go_wp2
   clear d0
   go_loopw [3, 6] (fun v i wr => ∃ p : Nat, p ≤ (k.R j).n - 1 ∧ i = .int .i64 ((p + 1 : Nat) : Int) ∧ wr.ownsRow (w.heap.size + 1) 110 5 v (barN k j + p) (fvL (barG k) (barN k j + p)) ∧ PK w wr B w.heap.size k ∧ w.heap.size + 1 ≤ wr.heap.size) (fun _ i _ => (k.R j).n - (intOf i).toNat)
   case atStart => exact ⟨0, by omega, rfl, O2.out, Q2.out, hZ⟩
   case round =>
    obtain ⟨p, hp, rfl, hO, hQ, hZ⟩ := hrel
    have Q3 := Lib.hid hQ
    have O3 := Lib.hid hO
    clear hO hQ Q2 O2
    have cl3 := Q3.out.c.lt
    have hBw := Q3.out.z
    obtain ⟨q, hq⟩ : ∃ q, p + 1 = q := ⟨_, rfl⟩
    rw [hq]
    by_cases hlp : q < (k.R j).n
    ·obtain ⟨pb, po, hpa, hpb, hpc⟩ := (Q3.out.t.Rs j hlj).at' (by omega)
     obtain ⟨e0, e1⟩ := hpc p (by omega)
     obtain ⟨e2, e3⟩ := hpc q hlp
     have hpb1 : pb < w.heap.size + 1 := by omega
     obtain rfl := HPA.out.symm.trans hpa
     have GA := Lib.hid (barG_at k (i := j) (p := p) (by omega) hlj)
     rw [hq] at GA
     have y0 : (0 : Int) ≤ (p : Int) := by omega
     have y1 : (p : Int) < ((k.R j).n : Int) := by omega
     have y2 : (0 : Int) ≤ (q : Int) := by omega
     have y3 : (q : Int) < ((k.R j).n : Int) := by omega
     have WP := Lib.hid (show IntKind.i64.wrap ((q : Int) - 1) = (p : Int) by rw [show (q : Int) - 1 = (p : Int) by omega]; exact (wrap_in' (by unfold In64; omega)).1)
     have bnd : barN k j + p + 1 ≤ 2000 := by have := BB.out; omega
     have HP := Lib.hid (And.intro hq hp)
     clear hpa hpb hpc hq hp HPA
     generalize (k.R j).x p = x0 at *
     generalize (k.R j).y p = v0 at *
     generalize (k.R j).x q = x1 at *
     generalize (k.R j).y q = v1 at *
     have T0 := Lib.hid (show BrT pb (po + p * 2) (po + q * 2) x0 v0 x1 v1 _ from ⟨⟨e0, e1⟩, e2, e3⟩)
     go_wp2_with fail
     refine wp_region_held_drew (S := BrT pb (po + p * 2) (po + q * 2) x0 v0 x1 v1) (by kernel_rfl) T0.out (fun hHeld => ?_)
     have Q4 := Q3
     have O4 := Lib.hid (World.ownsRow.drew O3.out)
     have hZ4 := hZ
     have T1 := Lib.hid T0.out
     clear Q3 O3 e0 e1 e2 e3 T0 cl3
     unfold BrT at hHeld ⊢
     have u1 := WP.out
     refine tkQ 0 22 hHeld ?_
     (try simp only [putA, putB, putC, putD])
     refine tkQ 1 23 hHeld ?_
     (try simp only [putA, putB, putC, putD])
     refine tkQ 2 24 hHeld ?_
     (try simp only [putA, putB, putC, putD])
     refine tkQ 3 25 hHeld ?_
     (try simp only [putA, putB, putC, putD])
     refine tkQ 4 26 hHeld ?_
     (try simp only [putA, putB, putC, putD])
     refine tkQ 5 27 hHeld ?_
     (try simp only [putA, putB, putC, putD])
     refine tkQ 6 28 hHeld ?_
     (try simp only [putA, putB, putC, putD])
     refine tkQ 7 29 hHeld ?_
     (try simp only [putA, putB, putC, putD])
     refine tkQ 8 30 hHeld ?_
     (try simp only [putA, putB, putC, putD])
     refine tkQ 9 31 hHeld ?_
     (try simp only [putA, putB, putC, putD])
     refine tkQ 10 32 hHeld ?_
     (try simp only [putA, putB, putC, putD])
     refine tkQ 11 33 hHeld ?_
     (try simp only [putA, putB, putC, putD])
     clear u1 WP
     refine onlD 12 (fun K hK => ?_)
     go_simp
     refine hK.out _ _ (BrT.keep ((Below.refl (w.heap.size + 1) _).drew.alloc hZ4 _) hpb1 T1.out) ?_
     clear hK K hHeld
     intro hHeld
     refine onlD 13 (fun K hK => ?_)
     refine step_append_lies _ (by rfl) (.tmp 22) (.tmp 34) 106 (by rfl) (w.heap.size + 1) 110 i0 (.agg #[.int .i64 0, .int .i64 0, .int .i64 0, .int .i64 0, .int .i64 0]) 5 40 U hi hz0 hz1 hz2 rfl (by omega) _ (barN k j + p) (fvL (barG k) (barN k j + p)) (by rfl) (O4.out.alloc _) _ 1 1 [.int .i64 x0, .int .i64 v0, .int .i64 x1, .int .i64 v1, .int .i64 j] (by rfl) rfl (World.news_of_block (heap_alloc_new _ _)) (by simp [Value.oneCell']) (by omega) (by unfold maxLen; omega) (by omega) (by simp; omega) _ rfl ?_
     intro g cap w1 hO hG hat hlt2
     have HB := (Below.refl (w.heap.size + 1) _).grown hG (by simp; omega) (fun m e => (O4.out.lt m e).1)
     have HB2 := (((Below.refl (w.heap.size + 1) _).alloc hZ4 _).drew).trans HB
     have Q5 := Lib.hid (Q4.out.stepB HB2 (by omega) (by omega))
     have O5 := Lib.hid (show w1.ownsRow (w.heap.size + 1) 110 5 _ (barN k j + q) (fvL (barG k) (barN k j + q)) from by
      rw [← HP.out.1]
      show w1.ownsRow (w.heap.size + 1) 110 5 _ (barN k j + p + 1) (fvL (barG k) (barN k j + p) ++ [.int .i64 (barG k (barN k j + p)).ax, .int .i64 (barG k (barN k j + p)).ay, .int .i64 (barG k (barN k j + p)).bx, .int .i64 (barG k (barN k j + p)).by', .int .i64 (barG k (barN k j + p)).r])
      rw [GA.out]
      exact hO)
     have hZ5 : w.heap.size + 1 ≤ w1.heap.size := by have := HB2.size; omega
     refine hK.out _ _ (BrT.keep HB2 hpb1 T1.out) ?_
     clear hK K hHeld T1 hO hG HB HB2 hat Q4 O4 GA
     intro hHeld
     refine tkQ 14 3 hHeld ?_
     (try simp only [putA, putB, putC, putD])
     refine wpAnyH_done (by kernel_rfl) ?_ _
     clear hHeld
     go_wp2
     go_roundw
     case rel => exact ⟨q, by have := HP.out; omega, by go_num, O5.out, Q5.out, hZ5⟩
     case measure => simp [intOf]; omega
    ·have e : p = (k.R j).n - 1 := by omega
     have hc : ¬ (q : Int) < ((k.R j).n : Int) := by omega
     clear hq hp
     go_wp2
     go_roundw
     case rel => exact ⟨j + 1, by omega, by go_num, by rw [BB.out.2, ← e]; exact O3.out, Q3.out, hZ⟩
     case measure => simp [intOf]; omega
  ·have e : j = k.t.rn := by omega
   subst e
   obtain ⟨a', c', hv, D', hb⟩ := owned_bars O2.out
   have D2 := Lib.hid D'
   have HB := Lib.hid hb
   subst hv
   clear D' O2 hb
   go_wp2
   go_ret
   exact ⟨a', c', rfl, D2.out, Q2.out.l⟩
def erV (p : Int × Int) : Value := if p.1 = 0 then .nilIface else .iface 79 (.agg #[.int .i64 p.1, .int .i64 p.2])
theorem erV_no {p : Int × Int} (h : p.1 = 0) : erV p = .nilIface := if_pos h
theorem erV_is {p : Int × Int} (h : ¬ p.1 = 0) : erV p = .iface 79 (.agg #[.int .i64 p.1, .int .i64 p.2]) := if_neg h
theorem tkAt_any (p n : Int) (w : World) :
  Calls Tryz.prog 130 #[.int .i64 p, .int .i64 n] w fun e w' => e = .returned (erV (n, p)) ∧ w' = w := by
 by_cases hz : n = 0
 ·rw [erV_no (p := (n, p)) hz]
  subst hz
  go_enter Tryz.func130, Tryz.ntmps130
  go_wp2
  go_ret
  exact ⟨rfl, rfl⟩
 ·rw [erV_is (p := (n, p)) hz]
  have hb : (n == 0) = false := beq_false_of_ne hz
  go_enter Tryz.func130, Tryz.ntmps130
  go_wp2
  go_ret
  exact ⟨rfl, rfl⟩
def rateE (k : Tk) : Int × Int := if k.t.rate < 60 ∨ 1024 < k.t.rate then (40, 0) else (0, 0)
def linE (k : Tk) : Int := if lineR k.line.n k.line.x k.line.y ≠ 0 then lineR k.line.n k.line.x k.line.y else if hlfN k.line.n k.line.x k.line.y then 0 else 40
def rlsE (k : Tk) : Int × Int := if 16 < k.t.rn then (42, 0) else if fstI (fun i => railE (k.R i)) k.t.rn < k.t.rn then (railE (k.R (fstI (fun i => railE (k.R i)) k.t.rn)), (fstI (fun i => railE (k.R i)) k.t.rn : Int)) else (0, 0)
def gtsE (k : Tk) : Int × Int := if k.t.gn < 1 ∨ 16 < k.t.gn then (42, 0) else if fstI (fun i => gateE (k.G i)) k.t.gn < k.t.gn then (gateE (k.G (fstI (fun i => gateE (k.G i)) k.t.gn)), (fstI (fun i => gateE (k.G i)) k.t.gn : Int)) else (0, 0)
noncomputable def staE (k : Tk) : Int × Int := if ¬ rectP k.t then (40, 0) else if ¬ (∀ j, j < barN k k.t.rn → ¬ behP k j) then (43, 0) else (0, 0)
def lapE (k : Tk) : Int × Int := if k.t.laps < 1 ∨ 100 < k.t.laps then (40, 0) else (0, 0)
set_option maxRecDepth 100000 in
set_option maxHeartbeats 4000000 in
theorem tkRate_any (k : Tk) (B : Nat) (w : World) (hB : B ≤ w.heap.size) (K : TkM B w k) :
  Calls Tryz.prog 83 #[trkV k.t] w fun e w' => e = .returned (erV (rateE k)) ∧ Below w.heap.size w w' := by
 have Q0 := Lib.hid (PK.new 34 K hB)
 obtain ⟨q, hq⟩ : ∃ q, erV (rateE k) = q := ⟨_, rfl⟩
 rw [hq]
 have HQ := Lib.hid hq
 clear K hB hq
 go_enter Tryz.func83, Tryz.ntmps83
 go_wp2_with fail
 refine calls_gen (S := fun W => PK w W B w.heap.size k) Q0.out (fun W1 hS => ?_)
 have Q1 := Lib.hid hS
 clear hS Q0
 refine (tkWithinI_any 60 1024 k.t.rate _).mono ?_
 rintro e w1 ⟨rfl, rfl⟩
 by_cases h : 60 ≤ k.t.rate ∧ k.t.rate ≤ 1024
 ·have E := Lib.hid (show .nilIface = q by rw [← HQ.out]; unfold rateE; rw [if_neg (by omega)]; rfl)
  rw [decide_eq_true h]
  clear h HQ
  go_wp2
  go_ret
  exact ⟨by rw [← E.out]; rfl, Q1.out.l⟩
 ·have E := Lib.hid (show erV (40, 0) = q by rw [← HQ.out]; unfold rateE; rw [if_pos (by omega)])
  rw [decide_eq_false h]
  clear h HQ
  go_wp2_with fail
  refine (tkAt_any 0 40 _).mono ?_
  rintro e w2 ⟨rfl, rfl⟩
  go_wp2
  go_ret
  exact ⟨by rw [← E.out]; rfl, Q1.out.l⟩
set_option maxRecDepth 100000 in
set_option maxHeartbeats 4000000 in
theorem tkLaps_any (k : Tk) (B : Nat) (w : World) (hB : B ≤ w.heap.size) (K : TkM B w k) :
  Calls Tryz.prog 89 #[trkV k.t] w fun e w' => e = .returned (erV (lapE k)) ∧ Below w.heap.size w w' := by
 have Q0 := Lib.hid (PK.new 34 K hB)
 obtain ⟨q, hq⟩ : ∃ q, erV (lapE k) = q := ⟨_, rfl⟩
 rw [hq]
 have HQ := Lib.hid hq
 clear K hB hq
 go_enter Tryz.func89, Tryz.ntmps89
 go_wp2_with fail
 refine calls_gen (S := fun W => PK w W B w.heap.size k) Q0.out (fun W1 hS => ?_)
 have Q1 := Lib.hid hS
 clear hS Q0
 refine (tkWithinI_any 1 100 k.t.laps _).mono ?_
 rintro e w1 ⟨rfl, rfl⟩
 by_cases h : 1 ≤ k.t.laps ∧ k.t.laps ≤ 100
 ·have E := Lib.hid (show .nilIface = q by rw [← HQ.out]; unfold lapE; rw [if_neg (by omega)]; rfl)
  rw [decide_eq_true h]
  clear h HQ
  go_wp2
  go_ret
  exact ⟨by rw [← E.out]; rfl, Q1.out.l⟩
 ·have E := Lib.hid (show erV (40, 0) = q by rw [← HQ.out]; unfold lapE; rw [if_pos (by omega)])
  rw [decide_eq_false h]
  clear h HQ
  go_wp2_with fail
  refine (tkAt_any 0 40 _).mono ?_
  rintro e w2 ⟨rfl, rfl⟩
  go_wp2
  go_ret
  exact ⟨by rw [← E.out]; rfl, Q1.out.l⟩
set_option maxRecDepth 100000 in
set_option maxHeartbeats 4000000 in
theorem tkGround_any (k : Tk) (B : Nat) (w : World) (hB : B ≤ w.heap.size) (K : TkM B w k) :
  Calls Tryz.prog 84 #[trkV k.t] w fun e w' => e = .returned (erV (rightFd k.t, 0)) ∧ Below w.heap.size w w' := by
 have Q0 := Lib.hid (PK.new 34 K hB)
 obtain ⟨q, hq⟩ : ∃ q, erV (rightFd k.t, 0) = q := ⟨_, rfl⟩
 rw [hq]
 have E := Lib.hid hq
 clear K hB hq
 by_cases s : rightFd k.t = 0
 ·have XR := Lib.hid (fun (W : World) (Q : PK w W B w.heap.size k) => fNew_yes k.t 0 B W Q.bz Q.t.T (Nat.zero_le _) s)
  rw [s] at E
  clear s
  go_enter Tryz.func84, Tryz.ntmps84
  go_wp2_with fail
  refine calls_gen (S := fun W => PK w W B w.heap.size k) Q0.out (fun W1 hS => ?_)
  have Q1 := Lib.hid hS
  clear hS Q0
  refine (XR.out _ Q1.out).mono ?_
  rintro e w1 ⟨⟨f, rfl, -⟩, h⟩
  have Q2 := Lib.hid (Q1.out.step h)
  clear h Q1 XR
  go_wp2_with fail
  refine (tkAt_any 0 0 _).mono ?_
  rintro e w2 ⟨rfl, rfl⟩
  rw [E.out]
  go_wp2
  go_ret
  exact ⟨rfl, Q2.out.l⟩
 ·have XR := Lib.hid (fun (W : World) (Q : PK w W B w.heap.size k) => fNew_no k.t B W Q.bz Q.t.T s)
  clear s
  generalize rightFd k.t = er at *
  go_enter Tryz.func84, Tryz.ntmps84
  go_wp2_with fail
  refine calls_gen (S := fun W => PK w W B w.heap.size k) Q0.out (fun W1 hS => ?_)
  have Q1 := Lib.hid hS
  clear hS Q0
  refine (XR.out _ Q1.out).mono ?_
  rintro e w1 ⟨rfl, h⟩
  have Q2 := Lib.hid (Q1.out.step h)
  clear h Q1 XR
  go_wp2_with fail
  refine (tkAt_any 0 er _).mono ?_
  rintro e w2 ⟨rfl, rfl⟩
  rw [E.out]
  go_wp2
  go_ret
  exact ⟨rfl, Q2.out.l⟩
set_option maxRecDepth 100000 in
set_option maxHeartbeats 4000000 in
theorem tkLine_any (k : Tk) (B : Nat) (w : World) (hB : B ≤ w.heap.size) (few : fewR k) (K : TkM B w k) :
  Calls Tryz.prog 85 #[trkV k.t] w fun e w' => e = .returned (erV (linE k, 0)) ∧ Below w.heap.size w w' := by
 have Q0 := Lib.hid (PK.new 34 K hB)
 obtain ⟨q, hq⟩ : ∃ q, erV (linE k, 0) = q := ⟨_, rfl⟩
 rw [hq]
 have HQ := Lib.hid hq
 have hln : k.line.n ≤ 1000 := by have := few.1; show k.t.ln ≤ 1000; omega
 have XL := Lib.hid (fun (W : World) (Q : PK w W B w.heap.size k) => spRight_any k.line.a k.line.n k.line.c k.line.x k.line.y W hln (Q.t.L.dots Q.bz))
 have XO := Lib.hid (fun (W : World) (Q : PK w W B w.heap.size k) => tkNear_any k.line.a k.line.n k.line.c k.line.x k.line.y W hln (Q.t.L.dots Q.bz).at')
 have hsl : (.slice k.line.a k.line.n k.line.c : Value) = .slice k.t.la k.t.ln k.t.lc := rfl
 rw [hsl] at XL XO
 clear K hB hq few hln hsl
 by_cases s4 : lineR k.line.n k.line.x k.line.y = 0
 rotate_left
 ·have E := Lib.hid (show erV (lineR k.line.n k.line.x k.line.y, 0) = q by rw [← HQ.out]; unfold linE; rw [if_pos s4])
  have b3 : (lineR k.line.n k.line.x k.line.y == 0) = false := beq_false_of_ne s4
  clear s4 XO HQ
  generalize lineR k.line.n k.line.x k.line.y = er at *
  go_enter Tryz.func85, Tryz.ntmps85
  go_wp2_with fail
  refine calls_gen (S := fun W => PK w W B w.heap.size k) Q0.out (fun W1 hS => ?_)
  have Q1 := Lib.hid hS
  clear hS Q0
  refine (XL.out _ Q1.out).mono ?_
  rintro e w1 ⟨rfl, h⟩
  have Q2 := Lib.hid (Q1.out.step h)
  clear h Q1 XL
  go_wp2_with fail
  refine (tkAt_any 0 er _).mono ?_
  rintro e w2 ⟨rfl, rfl⟩
  rw [E.out]
  go_wp2
  go_ret
  exact ⟨rfl, Q2.out.l⟩
 have HR := Lib.hid (show erV (if hlfN k.line.n k.line.x k.line.y then 0 else 40, 0) = q by rw [← HQ.out]; unfold linE; rw [if_neg (show ¬ (lineR k.line.n k.line.x k.line.y ≠ 0) from fun c => c s4)])
 rw [s4] at XL
 clear HQ s4
 go_enter Tryz.func85, Tryz.ntmps85
 go_wp2_with fail
 refine calls_gen (S := fun W => PK w W B w.heap.size k) Q0.out (fun W1 hS => ?_)
 have Q1 := Lib.hid hS
 clear hS Q0
 refine (XL.out _ Q1.out).mono ?_
 rintro e w1 ⟨rfl, h⟩
 have Q2 := Lib.hid (Q1.out.step h)
 clear h Q1 XL
 have c09 := Q2.out.c.c 9 _ rfl
 go_wp2_with fail
 refine (XO.out _ Q2.out).mono ?_
 rintro e w2 ⟨rfl, h⟩
 have Q3 := Lib.hid (Q2.out.step h)
 clear h Q2 XO c09
 by_cases s5 : hlfN k.line.n k.line.x k.line.y
 ·have E := Lib.hid (show erV (0, 0) = q by rw [← HR.out, if_pos s5])
  rw [decide_eq_true s5]
  clear HR s5
  go_wp2_with fail
  refine (tkAt_any 0 0 _).mono ?_
  rintro e w3 ⟨rfl, rfl⟩
  rw [E.out]
  go_wp2
  go_ret
  exact ⟨rfl, Q3.out.l⟩
 ·have E := Lib.hid (show erV (40, 0) = q by rw [← HR.out, if_neg s5])
  rw [decide_eq_false s5]
  clear HR s5
  go_wp2_with fail
  refine (tkAt_any 0 40 _).mono ?_
  rintro e w3 ⟨rfl, rfl⟩
  rw [E.out]
  go_wp2
  go_ret
  exact ⟨rfl, Q3.out.l⟩
theorem rls_at {k : Tk} (h : ¬ 16 < k.t.rn) {j : Nat} (hj : j < k.t.rn) (h0 : ∀ i, i < j → railE (k.R i) = 0) (hn : railE (k.R j) ≠ 0) : rlsE k = (railE (k.R j), (j : Int)) := by
 have e := fstI_at (f := fun i => railE (k.R i)) h0 hn hj
 unfold rlsE
 rw [if_neg h, e, if_pos hj]
theorem rls_no {k : Tk} (h : ¬ 16 < k.t.rn) (h0 : ∀ i, i < k.t.rn → railE (k.R i) = 0) : rlsE k = (0, 0) := by
 have e := fstI_all (f := fun i => railE (k.R i)) h0
 unfold rlsE
 rw [if_neg h, e, if_neg (by omega)]
theorem gts_at {k : Tk} (h : ¬ (k.t.gn < 1 ∨ 16 < k.t.gn)) {j : Nat} (hj : j < k.t.gn) (h0 : ∀ i, i < j → gateE (k.G i) = 0) (hn : gateE (k.G j) ≠ 0) : gtsE k = (gateE (k.G j), (j : Int)) := by
 have e := fstI_at (f := fun i => gateE (k.G i)) h0 hn hj
 unfold gtsE
 rw [if_neg h, e, if_pos hj]
theorem gts_no {k : Tk} (h : ¬ (k.t.gn < 1 ∨ 16 < k.t.gn)) (h0 : ∀ i, i < k.t.gn → gateE (k.G i) = 0) : gtsE k = (0, 0) := by
 have e := fstI_all (f := fun i => gateE (k.G i)) h0
 unfold gtsE
 rw [if_neg h, e, if_neg (by omega)]
set_option maxRecDepth 100000 in
set_option maxHeartbeats 4000000 in
theorem tkRails_any (k : Tk) (B : Nat) (w : World) (hB : B ≤ w.heap.size) (few : fewR k) (K : TkM B w k) :
  Calls Tryz.prog 86 #[trkV k.t] w fun e w' => e = .returned (erV (rlsE k)) ∧ Below w.heap.size w w' := by
 have Q0 := Lib.hid (PK.new 34 K hB)
 obtain ⟨q, hq⟩ : ∃ q, erV (rlsE k) = q := ⟨_, rfl⟩
 rw [hq]
 have WE := Lib.hid (fun (a : Int × Int) (h : rlsE k = a) => show erV a = q by rw [← hq, h])
 have fr := few.2.1
 have FR := Lib.hid few.2.2.2
 obtain ⟨ra, hra0⟩ : ∃ ra, k.t.ra = ra := ⟨_, rfl⟩
 have HRA := Lib.hid hra0
 clear K hq few hra0
 by_cases s1 : 16 < k.t.rn
 ·have g1 : (16 : Int) < (k.t.rn : Int) := by omega
  have E := Lib.hid (WE.out (42, 0) (by unfold rlsE; rw [if_pos s1]))
  clear WE HRA
  go_enter Tryz.func86, Tryz.ntmps86
  go_wp2_with fail
  refine calls_gen (S := fun W => PK w W B w.heap.size k) Q0.out (fun W1 hS => ?_)
  have Q1 := Lib.hid hS
  clear hS Q0
  refine (tkAt_any 0 42 _).mono ?_
  rintro e w2 ⟨rfl, rfl⟩
  rw [E.out]
  go_wp2
  go_ret
  exact ⟨rfl, Q1.out.l⟩
 have g1 : ¬ (16 : Int) < (k.t.rn : Int) := by omega
 go_enter Tryz.func86, Tryz.ntmps86
 go_wp2_with fail
 refine wp_gen (S := fun W => PK w W B w.heap.size k) Q0.out (fun W1 hS => ?_)
 have Q1 := Lib.hid hS
 rw [HRA.out]
 clear hS Q0
 go_loopw [14] (fun i wr => ∃ j : Nat, j ≤ k.t.rn ∧ i = .int .i64 j ∧ Hid (∀ i, i < j → railE (k.R i) = 0) ∧ PK w wr B w.heap.size k) (fun i _ => k.t.rn - (intOf i).toNat)
 case atStart => exact ⟨0, by omega, rfl, Lib.hid (fun i h => absurd h (by omega)), Q1.out⟩
 case round =>
  obtain ⟨j, hj, rfl, I, hQ⟩ := hrel
  have Q2 := Lib.hid hQ
  clear hQ Q1
  by_cases hlt : j < k.t.rn
  ·obtain ⟨rb, ro, hra, hrb, hrc⟩ := Q2.out.t.R (by omega)
   have d0 := hrc j hlt
   have RS := Q2.out.t.Rs j hlt
   have hrb' : rb < wr.heap.size := by have := Q2.out.bz; omega
   obtain rfl := HRA.out.symm.trans hra
   have z0 : (0 : Int) ≤ (j : Int) := by omega
   have z1 : (j : Int) < (k.t.rn : Int) := by omega
   have V := Lib.hid (fun (W : World) (D : Dots W (k.R j).a (k.R j).n (k.R j).c (k.R j).x (k.R j).y) => tkRail_any (k.R j) W (by have := FR.out j hlt; omega) D)
   have DD := Lib.hid (RS.dots Q2.out.bz)
   clear hrc RS hra hrb
   go_wp2_with fail
   refine (V.out _ DD.out).mono ?_
   rintro e w3 ⟨rfl, h⟩
   have Q3 := Lib.hid (Q2.out.step h)
   clear h V DD Q2 d0
   go_wp2_with fail
   refine (tkAt_any j (railE (k.R j)) _).mono ?_
   rintro e w4 ⟨rfl, rfl⟩
   by_cases hz : railE (k.R j) = 0
   ·have I2 := Lib.hid (all_next' (P := fun i => railE (k.R i) = 0) I.out hz)
    rw [erV_no (p := (railE (k.R j), (j : Int))) hz]
    clear I hz
    go_wp2
    go_roundw
    case rel => exact ⟨j + 1, by omega, by go_num, I2, Q3.out⟩
    case measure => simp [intOf]; omega
   ·have E := Lib.hid (WE.out _ (rls_at s1 hlt I.out hz))
    rw [erV_is (p := (railE (k.R j), (j : Int))) hz] at E ⊢
    clear I WE hz
    go_wp2
    go_ret
    exact ⟨by rw [← E.out]; rfl, Q3.out.l⟩
  ·have e : j = k.t.rn := by omega
   subst e
   have E := Lib.hid (WE.out (0, 0) (rls_no s1 I.out))
   clear I WE
   go_wp2
   go_ret
   exact ⟨by rw [← E.out]; rfl, Q2.out.l⟩
set_option maxRecDepth 100000 in
set_option maxHeartbeats 4000000 in
theorem tkGates_any (k : Tk) (B : Nat) (w : World) (hB : B ≤ w.heap.size) (few : fewR k) (K : TkM B w k) :
  Calls Tryz.prog 87 #[trkV k.t] w fun e w' => e = .returned (erV (gtsE k)) ∧ Below w.heap.size w w' := by
 have Q0 := Lib.hid (PK.new 34 K hB)
 obtain ⟨q, hq⟩ : ∃ q, erV (gtsE k) = q := ⟨_, rfl⟩
 rw [hq]
 have WE := Lib.hid (fun (a : Int × Int) (h : gtsE k = a) => show erV a = q by rw [← hq, h])
 have fg := few.2.2.1
 obtain ⟨ga, hga0⟩ : ∃ ga, k.t.ga = ga := ⟨_, rfl⟩
 have HGA := Lib.hid hga0
 clear K hq few hga0
 go_enter Tryz.func87, Tryz.ntmps87
 go_wp2_with fail
 refine calls_gen (S := fun W => PK w W B w.heap.size k) Q0.out (fun W1 hS => ?_)
 have Q1 := Lib.hid hS
 clear hS Q0
 refine (tkWithinI_any 1 16 k.t.gn _).mono ?_
 rintro e w1 ⟨rfl, rfl⟩
 by_cases s1 : k.t.gn < 1 ∨ 16 < k.t.gn
 ·have g1 : ¬ (1 ≤ (k.t.gn : Int) ∧ (k.t.gn : Int) ≤ 16) := by omega
  have E := Lib.hid (WE.out (42, 0) (by unfold gtsE; rw [if_pos s1]))
  rw [decide_eq_false g1]
  clear WE HGA g1 s1
  go_wp2_with fail
  refine (tkAt_any 0 42 _).mono ?_
  rintro e w2 ⟨rfl, rfl⟩
  rw [E.out]
  go_wp2
  go_ret
  exact ⟨rfl, Q1.out.l⟩
 have g1 : 1 ≤ (k.t.gn : Int) ∧ (k.t.gn : Int) ≤ 16 := by omega
 rw [decide_eq_true g1]
 clear g1
 have c11 := Q1.out.c.c 11 _ rfl
 rw [HGA.out] at c11
 go_wp2
 clear c11
 go_loopw [15] (fun i wq => ∃ j : Nat, j ≤ k.t.gn ∧ i = .int .i64 j ∧ Hid (∀ i, i < j → gateE (k.G i) = 0) ∧ PK w wq B w.heap.size k) (fun i _ => k.t.gn - (intOf i).toNat)
 case atStart => exact ⟨0, by omega, rfl, Lib.hid (fun i h => absurd h (by omega)), Q1.out⟩
 case round =>
  obtain ⟨j, hj, rfl, I, hQ⟩ := hrel
  have Q4 := Lib.hid hQ
  clear hQ Q1
  have cl4 := Q4.out.c.lt
  by_cases hlt : j < k.t.gn
  ·obtain ⟨gb, go, hga, hgb, hgc⟩ := Q4.out.t.G (by omega)
   obtain ⟨⟨a0, a1⟩, ⟨a2, a3⟩, a4⟩ := hgc j hlt
   have hgb' := Nat.lt_of_lt_of_le hgb Q4.out.bz
   obtain rfl := HGA.out.symm.trans hga
   have z0 : (0 : Int) ≤ (j : Int) := by omega
   have z1 : (j : Int) < (k.t.gn : Int) := by omega
   clear hgc hga hgb
   go_wp2_with fail
   refine calls_gen (S := fun W => PK w W B w.heap.size k) (Q4.out.step ((Below.refl _ _).alloc (Nat.le_refl _) _)) (fun W5 hS => ?_)
   have Q5 := Lib.hid hS
   clear hS
   refine (tkGate_any (k.G j) _).mono ?_
   rintro e w5 ⟨rfl, h⟩
   have Q6 := Lib.hid (Q5.out.step h)
   clear h Q4 Q5 a0 a1 a2 a3 a4
   go_wp2_with fail
   refine (tkAt_any j (gateE (k.G j)) _).mono ?_
   rintro e w6 ⟨rfl, rfl⟩
   by_cases hz : gateE (k.G j) = 0
   ·have I2 := Lib.hid (all_next' (P := fun i => gateE (k.G i) = 0) I.out hz)
    rw [erV_no (p := (gateE (k.G j), (j : Int))) hz]
    clear I hz
    go_wp2
    go_roundw
    case rel => exact ⟨j + 1, by omega, by go_num, I2, Q6.out⟩
    case measure => simp [intOf]; omega
   ·have E := Lib.hid (WE.out _ (gts_at s1 hlt I.out hz))
    rw [erV_is (p := (gateE (k.G j), (j : Int))) hz] at E ⊢
    clear I WE hz
    go_wp2
    go_ret
    exact ⟨by rw [← E.out]; rfl, Q6.out.l⟩
  ·have e : j = k.t.gn := by omega
   subst e
   have E := Lib.hid (WE.out (0, 0) (gts_no s1 I.out))
   clear I WE
   go_wp2
   go_ret
   exact ⟨by rw [← E.out]; rfl, Q4.out.l⟩
def PKp (w W : World) (B : Nat) (k : Tk) : Prop := PK w W B w.heap.size k ∧ BW W (w.heap.size + 1) [.int .i64 k.t.sx, .int .i64 k.t.sy]
theorem PKp.step {w W W' : World} {B : Nat} {k : Tk} (Q : PKp w W B k) (h : Below W.heap.size W W') : PKp w W' B k := ⟨Q.1.step h, Q.2.below h Q.2.lt⟩
set_option maxRecDepth 100000 in
set_option maxHeartbeats 4000000 in
theorem tkInside_any (k : Tk) (B : Nat) (w : World) (hB : B ≤ w.heap.size) (rt : rightFd k.t = 0) (K : TkM B w k) :
  Calls Tryz.prog 136 #[trkV k.t, .agg #[.int .i64 k.t.sx, .int .i64 k.t.sy]] w fun e w' => e = .returned (.bool (decide (rectP k.t))) ∧ Below w.heap.size w w' := by
 have Q0 := Lib.hid (PK.new 34 K hB)
 obtain ⟨q, hq⟩ : ∃ q, decide (rectP k.t) = q := ⟨_, rfl⟩
 rw [hq]
 have RE := Lib.hid (show decide ((k.t.cx ≤ k.t.sx ∧ k.t.sx ≤ k.t.cx + k.t.cols * k.t.cell) ∧ k.t.cy ≤ k.t.sy ∧ k.t.sy ≤ k.t.cy + k.t.rows * k.t.cell) = q from hq)
 obtain ⟨⟨r1, r2⟩, ⟨r3, r4⟩, r5, r6⟩ := rect_fit rt
 have y2 := Lib.hid (show IntKind.i64.wrap (k.t.cols * k.t.cell) = k.t.cols * k.t.cell from (wrap_in' (by unfold In64; omega)).1)
 have y3 := Lib.hid (show IntKind.i64.wrap (k.t.rows * k.t.cell) = k.t.rows * k.t.cell from (wrap_in' (by unfold In64; omega)).1)
 have y4 := Lib.hid (show IntKind.i64.wrap (k.t.cx + k.t.cols * k.t.cell) = k.t.cx + k.t.cols * k.t.cell from (wrap_in' (by unfold In64; omega)).1)
 have y5 := Lib.hid (show IntKind.i64.wrap (k.t.cy + k.t.rows * k.t.cell) = k.t.cy + k.t.rows * k.t.cell from (wrap_in' (by unfold In64; omega)).1)
 clear K hB hq rt r1 r2 r3 r4 r5 r6
 go_enter Tryz.func136, Tryz.ntmps136
 go_wp2_with fail
 refine wp_gen (S := fun W => PKp w W B k) ⟨Q0.out.step ((Below.refl _ _).alloc (Nat.le_refl _) _), BW.new _ _ [_, _] _ (by simp)⟩ (fun W1 hS => ?_)
 have Q1 := Lib.hid hS
 clear hS Q0
 have c1 := Q1.out.1.c.c 1 _ rfl
 have c2 := Q1.out.1.c.c 2 _ rfl
 have c3 := Q1.out.1.c.c 3 _ rfl
 have c4 := Q1.out.1.c.c 4 _ rfl
 have c5 := Q1.out.1.c.c 5 _ rfl
 have u2 := y2.out
 have u3 := y3.out
 have u4 := y4.out
 have u5 := y5.out
 go_quiet (fail)
 clear u2 u3 u4 u5 y2 y3 y4 y5
 generalize k.t.cx + k.t.cols * k.t.cell = mx at *
 generalize k.t.cy + k.t.rows * k.t.cell = my at *
 have s0 := Q1.out.2.c 0 _ rfl
 have s1 := Q1.out.2.c 1 _ rfl
 go_wp2_with fail
 refine (tkWithinF_any k.t.cx mx k.t.sx _).mono ?_
 rintro e w2 ⟨rfl, rfl⟩
 by_cases h1 : k.t.cx ≤ k.t.sx ∧ k.t.sx ≤ mx
 ·rw [decide_eq_true h1]
  go_wp2_with fail
  refine (tkWithinF_any k.t.cy my k.t.sy _).mono ?_
  rintro e w3 ⟨rfl, rfl⟩
  have E := Lib.hid (show decide (k.t.cy ≤ k.t.sy ∧ k.t.sy ≤ my) = q by rw [← RE.out, decide_eq_decide]; exact ⟨fun h => ⟨h1, h⟩, fun h => h.2⟩)
  rw [E.out]
  clear RE h1 E
  go_wp2
  go_ret
  exact ⟨rfl, below_drewN Q1.out.1.l _⟩
 ·rw [decide_eq_false h1]
  have E := Lib.hid (show false = q by rw [← RE.out]; symm; rw [decide_eq_false_iff_not]; exact fun h => h1 h.1)
  clear RE h1
  go_wp2
  go_ret
  exact ⟨by rw [← E.out]; rfl, below_drewN Q1.out.1.l _⟩
set_option maxRecDepth 100000 in
set_option maxHeartbeats 4000000 in
theorem tkBehind_any (k : Tk) (B : Nat) (w : World) (hB : B ≤ w.heap.size) (few : fewR k) (K : TkM B w k) :
  Calls Tryz.prog 137 #[trkV k.t, .agg #[.int .i64 k.t.sx, .int .i64 k.t.sy]] w fun e w' => (∃ z : Bool, e = .returned (.bool z) ∧ Hid (z = false ↔ ∀ j, j < barN k k.t.rn → ¬ behP k j)) ∧ Below w.heap.size w w' := by
 have Q0 := Lib.hid (PK.new 34 K hB)
 have XB := Lib.hid (fun (W : World) (Q : PKp w W B k) => tkBars_any k B W Q.1.bz few Q.1.t)
 have BN := Lib.hid (show barN k k.t.rn ≤ 1980 by have := barN_le k (q := 99) (fun i hi => by have := few.2.2.2 i hi; omega) (m := k.t.rn) (Nat.le_refl _); have := few.2.1; omega)
 clear K hB few
 go_enter Tryz.func137, Tryz.ntmps137
 go_wp2_with fail
 refine calls_gen (S := fun W => PKp w W B k) ⟨Q0.out.step ((Below.refl _ _).alloc (Nat.le_refl _) _), BW.new _ _ [_, _] _ (by simp)⟩ (fun W1 hS => ?_)
 have Q1 := Lib.hid hS
 clear hS Q0
 refine (XB.out _ Q1.out).mono ?_
 rintro e w6 ⟨ba, bc, rfl, hD, h⟩
 have Q6 := Lib.hid (Q1.out.step h)
 have D6 := Lib.hid hD
 clear h Q1 XB hD
 obtain ⟨N, hN⟩ : ∃ N, barN k k.t.rn = N := ⟨_, rfl⟩
 have HN := Lib.hid hN
 rw [hN] at BN D6 ⊢
 have bn := BN.out
 clear BN hN
 go_wp2
 go_loopw [11] (fun i wr => ∃ j : Nat, j ≤ N ∧ i = .int .i64 j ∧ Hid (∀ i, i < j → ¬ behP k i) ∧ PKp w wr B k ∧ Brs wr ba N bc (barG k)) (fun i _ => N - (intOf i).toNat)
 case atStart => exact ⟨0, by omega, rfl, Lib.hid (fun i h => absurd h (by omega)), Q6.out, D6.out⟩
 case round =>
  obtain ⟨j, hj, rfl, I, hQ, hD⟩ := hrel
  have Q7 := Lib.hid hQ
  have D7 := Lib.hid hD
  clear hQ hD Q6 D6
  have z0 : (0 : Int) ≤ (j : Int) := by omega
  by_cases hlj : j < N
  ·obtain ⟨bb, bo, hba, hbb, hbc⟩ := D7.out.at' (by omega)
   obtain ⟨⟨e0, e1⟩, ⟨e2, e3⟩, e4⟩ := hbc j hlj
   have z1 : (j : Int) < (N : Int) := by omega
   obtain ⟨bn, hbn⟩ : ∃ bn, behN k j = bn := ⟨_, rfl⟩
   have V := Lib.hid (fun (W : World) => plBeyond_any (barG k j).ax (barG k j).ay (barG k j).bx (barG k j).by' k.t.sx k.t.sy W)
   have hbe : beyondN ⟨(barG k j).ax, (barG k j).ay⟩ ⟨(barG k j).bx, (barG k j).by'⟩ ⟨k.t.sx, k.t.sy⟩ = bn := hbn
   rw [hbe] at V
   have PB := Lib.hid (show behP k j ↔ 0 < bn ∧ bn < 17179869184 by rw [← hbn]; exact Iff.rfl)
   clear hbe hbn hbc
   have s0 := Q7.out.2.c 0 _ rfl
   have s1 := Q7.out.2.c 1 _ rfl
   have sl := Q7.out.2.lt
   subst hba
   go_wp2_with fail
   refine calls_gen (S := fun W => PKp w W B k ∧ Brs W (some ⟨bb, bo, none⟩) N bc (barG k)) ⟨Q7.out.step ((Below.refl _ _).alloc (Nat.le_refl _) _), D7.out.step ((Below.refl _ _).alloc (Nat.le_refl _) _)⟩ (fun W1 hS => ?_)
   have Q8 := Lib.hid hS.1
   have D8 := Lib.hid hS.2
   clear hS Q7 D7
   refine (V.out _).mono ?_
   rintro e w8 ⟨rfl, h⟩
   have Q9 := Lib.hid (Q8.out.step h)
   have D9 := Lib.hid (D8.out.step h)
   clear h Q8 D8 V e0 e1 e2 e3 e4 s0 s1 sl
   by_cases g0 : 0 < bn
   ·by_cases g1 : bn < 17179869184
    ·have E := Lib.hid (PB.out.2 ⟨g0, g1⟩)
     have HJ := Lib.hid hlj
     clear PB I
     go_wp2
     go_ret
     exact ⟨⟨true, rfl, Lib.hid ⟨fun h => (by cases h), fun h => absurd E.out (h j (by rw [HN.out]; exact HJ.out))⟩⟩, Q9.out.1.l⟩
    have I2 := Lib.hid (all_next' (P := fun i => ¬ behP k i) I.out (fun c => g1 (PB.out.1 c).2))
    clear I PB
    go_wp2
    go_roundw
    case rel => exact ⟨j + 1, by omega, by go_num, I2, Q9.out, D9.out⟩
    case measure => simp [intOf]; omega
   ·have I2 := Lib.hid (all_next' (P := fun i => ¬ behP k i) I.out (fun c => g0 (PB.out.1 c).1))
    clear I PB
    go_wp2
    go_roundw
    case rel => exact ⟨j + 1, by omega, by go_num, I2, Q9.out, D9.out⟩
    case measure => simp [intOf]; omega
  ·have e : j = N := by omega
   subst e
   have HI := Lib.hid I.out
   clear I
   go_wp2
   go_ret
   exact ⟨⟨false, rfl, Lib.hid ⟨fun _ => by rw [HN.out]; exact HI.out, fun _ => rfl⟩⟩, Q7.out.1.l⟩
set_option maxRecDepth 100000 in
set_option maxHeartbeats 4000000 in
theorem tkStart_any (k : Tk) (B : Nat) (w : World) (hB : B ≤ w.heap.size) (few : fewR k) (rt : rightFd k.t = 0) (K : TkM B w k) :
  Calls Tryz.prog 88 #[trkV k.t] w fun e w' => e = .returned (erV (staE k)) ∧ Below w.heap.size w w' := by
 have Q0 := Lib.hid (PK.new 34 K hB)
 obtain ⟨q, hq⟩ : ∃ q, erV (staE k) = q := ⟨_, rfl⟩
 rw [hq]
 have HQ := Lib.hid hq
 have XI := Lib.hid (fun (W : World) (Q : PK w W B w.heap.size k) => tkInside_any k B W Q.bz rt Q.t)
 have XH := Lib.hid (fun (W : World) (Q : PK w W B w.heap.size k) => tkBehind_any k B W Q.bz few Q.t)
 clear K hB hq few rt
 go_enter Tryz.func88, Tryz.ntmps88
 go_wp2_with fail
 refine calls_gen (S := fun W => PK w W B w.heap.size k) Q0.out (fun W1 hS => ?_)
 have Q1 := Lib.hid hS
 clear hS Q0
 refine (XI.out _ Q1.out).mono ?_
 rintro e w2 ⟨rfl, h⟩
 have Q2 := Lib.hid (Q1.out.step h)
 clear h Q1 XI
 by_cases h1 : rectP k.t
 rotate_left
 ·have E := Lib.hid (show erV (40, 0) = q by rw [← HQ.out]; unfold staE; rw [if_pos h1])
  rw [decide_eq_false h1]
  clear h1 HQ XH
  go_wp2_with fail
  refine (tkAt_any 0 40 _).mono ?_
  rintro e w3 ⟨rfl, rfl⟩
  rw [E.out]
  go_wp2
  go_ret
  exact ⟨rfl, Q2.out.l⟩
 have EQ := Lib.hid (show erV (if ¬ (∀ j, j < barN k k.t.rn → ¬ behP k j) then (43, 0) else (0, 0)) = q by rw [← HQ.out]; unfold staE; rw [if_neg (show ¬ ¬ rectP k.t from fun c => c h1)])
 rw [decide_eq_true h1]
 clear h1 HQ
 have cs := tk_of Q2.out.c
 unfold TKc at cs
 obtain ⟨c00, c01, c02, c03, c04, c05, c06, c07, c08, c09, c10, c11, c12, c13, c14, c15⟩ := cs
 go_wp2_with fail
 refine (XH.out _ Q2.out).mono ?_
 rintro e w3 ⟨⟨z, rfl, hz⟩, h⟩
 have Q3 := Lib.hid (Q2.out.step h)
 clear h Q2 XH c00 c01 c02 c03 c04 c05 c06 c07 c08 c09 c10 c11 c12 c13 c14 c15
 cases z
 ·have E := Lib.hid (show erV (0, 0) = q by rw [← EQ.out, if_neg (fun c => c (hz.out.1 rfl))])
  clear hz EQ
  go_wp2
  go_ret
  exact ⟨by rw [← E.out]; rfl, Q3.out.l⟩
 ·have E := Lib.hid (show erV (43, 0) = q by rw [← EQ.out, if_pos (fun c => by cases hz.out.2 c)])
  clear hz EQ
  go_wp2_with fail
  refine (tkAt_any 0 43 _).mono ?_
  rintro e w4 ⟨rfl, rfl⟩
  rw [E.out]
  go_wp2
  go_ret
  exact ⟨rfl, Q3.out.l⟩
end Go.Proofs.YtmdjnamkbekjkaaGreatDoor
