/- The program's track: bounds, points that repeat, a rail, a gate. -/
import Derived.Test.YtjbalpmcnihhpaaDoorCg
namespace Go.Proofs.YtjbalpmcnihhpaaDoor
open Go.RowKit
set_option linter.unusedVariables false
set_option linter.unusedSimpArgs false

theorem tkWithinI_any (l u n : Int) (w : World) :
    Calls Tryd.prog 48 #[.int .i64 l, .int .i64 u, .int .i64 n] w fun e w' => e = .returned (.bool (decide (l ≤ n ∧ n ≤ u))) ∧ w' = w := by
  obtain ⟨r, hr⟩ : ∃ r, decide (l ≤ n ∧ n ≤ u) = r := ⟨_, rfl⟩
  rw [hr]
  have R := Lib.hid hr
  clear hr
  go_enter Tryd.func48, Tryd.ntmps48
  by_cases h1 : l ≤ n
  · have E := Lib.hid (show decide (n ≤ u) = r by rw [← R.out, decide_eq_decide]; omega)
    clear R
    go_wp2
    go_ret
    exact ⟨by rw [← E.out]; rfl, rfl⟩
  · have E := Lib.hid (show false = r by rw [← R.out]; symm; rw [decide_eq_false_iff_not]; omega)
    clear R
    go_wp2
    go_ret
    exact ⟨by rw [← E.out]; rfl, rfl⟩
theorem tkWithinF_any (l u n : Int) (w : World) :
    Calls Tryd.prog 70 #[.int .i64 l, .int .i64 u, .int .i64 n] w fun e w' => e = .returned (.bool (decide (l ≤ n ∧ n ≤ u))) ∧ w' = w := by
  obtain ⟨r, hr⟩ : ∃ r, decide (l ≤ n ∧ n ≤ u) = r := ⟨_, rfl⟩
  rw [hr]
  have R := Lib.hid hr
  clear hr
  go_enter Tryd.func70, Tryd.ntmps70
  by_cases h1 : l ≤ n
  · have E := Lib.hid (show decide (n ≤ u) = r by rw [← R.out, decide_eq_decide]; omega)
    clear R
    go_wp2
    go_ret
    exact ⟨by rw [← E.out]; rfl, rfl⟩
  · have E := Lib.hid (show false = r by rw [← R.out]; symm; rw [decide_eq_false_iff_not]; omega)
    clear R
    go_wp2
    go_ret
    exact ⟨by rw [← E.out]; rfl, rfl⟩
/-- n points lie at a slice's address -/
def Pts (w : World) (a : Option Addr) (n : Nat) (X Y : Nat → Int) : Prop := 0 < n → ∃ b off, a = some ⟨b, off, none⟩ ∧ b < w.heap.size ∧ ∀ i, i < n → w.cell? ⟨b, off + i * 2, none⟩ = some (.int .i64 (X i)) ∧ w.cell? ⟨b, off + i * 2 + 1, none⟩ = some (.int .i64 (Y i))
theorem Pts.step {w w' : World} {a : Option Addr} {n : Nat} {X Y : Nat → Int} (k : Pts w a n X Y) (h : Below w.heap.size w w') : Pts w' a n X Y := fun hn => by
  obtain ⟨b, off, ha, hb, hc⟩ := k hn
  exact ⟨b, off, ha, Nat.lt_of_lt_of_le hb h.size, fun i hi => ⟨(h.cell (p := ⟨b, _, none⟩) hb).trans (hc i hi).1, (h.cell (p := ⟨b, _, none⟩) hb).trans (hc i hi).2⟩⟩
/-- two points in a block -/
def two (x y : Int) (i : Nat) : Int := if i = 0 then x else y
theorem Pts.two {w : World} {b : Nat} {ax ay bx by' : Int} (k : BW w b [.int .i64 ax, .int .i64 ay, .int .i64 bx, .int .i64 by']) : Pts w (some ⟨b, 0, none⟩) 2 (two ax bx) (two ay by') :=
  fun _ => ⟨b, 0, rfl, k.lt, fun i hi => by
    rcases (show i = 0 ∨ i = 1 by omega) with e | e
    · subst e; exact ⟨k.c 0 _ rfl, k.c 1 _ rfl⟩
    · subst e; exact ⟨k.c 2 _ rfl, k.c 3 _ rfl⟩⟩
theorem hlf_two (ax ay bx by' : Int) : decide (hlfN 2 (two ax bx) (two ay by')) = decide (hlfP ax ay ∧ hlfP bx by') := by
  rw [decide_eq_decide]
  refine ⟨fun k => ⟨k 0 (by omega), k 1 (by omega)⟩, fun k i hi => ?_⟩
  rcases (show i = 0 ∨ i = 1 by omega) with e | e
  · subst e; exact k.1
  · subst e; exact k.2
theorem stp_two (ax ay bx by' : Int) : decide (stpN 2 (two ax bx) (two ay by')) = decide (¬ (ax = bx ∧ ay = by')) := by
  rw [decide_eq_decide]
  refine ⟨fun k h => k 0 (by omega) ⟨h.1.symm, h.2.symm⟩, fun k i hi h => ?_⟩
  obtain rfl : i = 0 := by omega
  exact k ⟨h.1.symm, h.2.symm⟩
set_option maxRecDepth 100000 in
set_option maxHeartbeats 4000000 in
theorem tkNear_any (a : Option Addr) (n c : Nat) (X Y : Nat → Int) (w : World) (hmax : n ≤ 1000) (D : Pts w a n X Y) :
    Calls Tryd.prog 52 #[.slice a n c] w fun e w' => e = .returned (.bool (decide (hlfN n X Y))) ∧ Below w.heap.size w w' := by
  have HD := Lib.hid D
  obtain ⟨N, hN⟩ : ∃ N, decide (hlfN n X Y) = N := ⟨_, rfl⟩
  rw [hN]
  have HN := Lib.hid hN
  clear D hN
  go_enter Tryd.func52, Tryd.ntmps52
  go_wp2
  go_loopw [7] (fun i wr => ∃ j : Nat, j ≤ n ∧ i = .int .i64 j ∧ Hid (∀ k, k < j → hlfP (X k) (Y k)) ∧ Hid (Pts wr a n X Y) ∧ Below w.heap.size w wr) (fun i _ => n - (intOf i).toNat)
  case atStart => exact ⟨0, by omega, rfl, Lib.hid (fun k h => absurd h (by omega)), HD, Below.refl _ _⟩
  case round =>
    obtain ⟨j, hj, rfl, I, D1, hB⟩ := hrel
    have B1 := Lib.hid hB
    clear hB HD
    by_cases hlt : j < n
    · obtain ⟨b, off, ha, hb, hcell⟩ := D1.out (by omega)
      subst ha
      obtain ⟨c0, c1⟩ := hcell j hlt
      have z0 : (0 : Int) ≤ (j : Int) := by omega
      have z1 : (j : Int) < (n : Int) := by omega
      have I2 := Lib.hid (fun (q : hlfP (X j) (Y j)) => all_next' (P := fun k => hlfP (X k) (Y k)) I.out q)
      have I3 := Lib.hid (fun (q : ¬ hlfP (X j) (Y j)) => show false = N by rw [← HN.out]; symm; rw [decide_eq_false_iff_not]; exact fun k => q (k j hlt))
      clear hcell I
      go_wp2_with fail
      refine calls_gen (S := fun W => BW W wr.heap.size [.int .i64 (X j), .int .i64 (Y j)] ∧ Hid (Pts W (some ⟨b, off, none⟩) n X Y) ∧ Below w.heap.size w W) ⟨BW.new wr _ [_, _] _ rfl, Lib.hid (D1.out.step ((Below.refl _ _).alloc (Nat.le_refl _) _)), B1.out.alloc B1.out.size _⟩ (fun W0 hS => ?_)
      have a1 : W0.cell? ⟨wr.heap.size, 1, none⟩ = some (.int .i64 (Y j)) := hS.1.c 1 _ rfl
      have D2 := hS.2.1
      have B2 := Lib.hid hS.2.2
      clear hS D1 B1 c0 c1
      generalize wr.heap.size = n1 at *
      refine (tkWithinF_any (-140737488355328) 140737488355328 (X j) _).mono ?_
      rintro e w1 ⟨rfl, rfl⟩
      by_cases hx : -140737488355328 ≤ X j ∧ X j ≤ 140737488355328
      · rw [decide_eq_true hx]
        go_wp2_with fail
        refine (tkWithinF_any (-140737488355328) 140737488355328 (Y j) _).mono ?_
        rintro e w2 ⟨rfl, rfl⟩
        by_cases hy : -140737488355328 ≤ Y j ∧ Y j ≤ 140737488355328
        · rw [decide_eq_true hy]
          have E2 := Lib.hid (I2.out ⟨hx, hy⟩)
          clear hx hy I2 I3
          go_wp2
          go_roundw
          case rel => exact ⟨j + 1, by omega, by go_num, E2, D2, B2.out⟩
          case measure => simp [intOf]; omega
        · rw [decide_eq_false hy]
          have E2 := Lib.hid (I3.out (fun h => hy h.2))
          clear hx hy I2 I3
          go_wp2
          go_ret
          exact ⟨by rw [← E2.out]; rfl, B2.out⟩
      · rw [decide_eq_false hx]
        have E2 := Lib.hid (I3.out (fun h => hx h.1))
        clear hx I2 I3
        go_wp2
        go_ret
        exact ⟨by rw [← E2.out]; rfl, B2.out⟩
    · have E := Lib.hid (show true = N by rw [← HN.out]; symm; rw [decide_eq_true_iff]; intro k hk; exact I.out k (by omega))
      clear I
      go_wp2
      go_ret
      exact ⟨by rw [← E.out]; rfl, B1.out⟩
set_option maxRecDepth 100000 in
set_option maxHeartbeats 4000000 in
theorem tkRepeats_any (a : Option Addr) (n c : Nat) (X Y : Nat → Int) (w : World) (hmax : n ≤ 1000) (D : Pts w a n X Y) :
    Calls Tryd.prog 71 #[.slice a n c] w fun e w' => e = .returned (.bool (!decide (stpN n X Y))) ∧ Below w.heap.size w w' := by
  have HD := Lib.hid D
  obtain ⟨N, hN⟩ : ∃ N, (!decide (stpN n X Y)) = N := ⟨_, rfl⟩
  rw [hN]
  have HN := Lib.hid hN
  clear D hN
  go_enter Tryd.func71, Tryd.ntmps71
  go_wp2
  go_loopw [3] (fun i wr => ∃ j : Nat, 1 ≤ j ∧ (j ≤ n ∨ j = 1) ∧ i = .int .i64 j ∧ Hid (∀ k, k + 1 < j → ¬ (X (k + 1) = X k ∧ Y (k + 1) = Y k)) ∧ Hid (Pts wr a n X Y) ∧ Below w.heap.size w wr) (fun i _ => n - (intOf i).toNat)
  case atStart => exact ⟨1, by omega, Or.inr rfl, rfl, Lib.hid (fun k h => absurd h (by omega)), HD, Below.refl _ _⟩
  case round =>
    obtain ⟨j, hj1, hj, rfl, I, D2, hB⟩ := hrel
    have B2 := Lib.hid hB
    clear hB HD
    by_cases hlt : j < n
    · obtain ⟨b, off, ha, hb, hcell⟩ := D2.out (by omega)
      subst ha
      obtain ⟨p, hp⟩ : ∃ p, p + 1 = j := ⟨j - 1, by omega⟩
      obtain ⟨c0, c1⟩ := hcell j hlt
      obtain ⟨d0, d1⟩ := hcell p (by omega)
      have z0 : (0 : Int) ≤ (j : Int) := by omega
      have z1 : (j : Int) < (n : Int) := by omega
      have y0 : (0 : Int) ≤ (p : Int) := by omega
      have y1 : (p : Int) < (n : Int) := by omega
      have WP := Lib.hid (show IntKind.i64.wrap ((j : Int) - 1) = (p : Int) by rw [show (j : Int) - 1 = (p : Int) by omega]; exact (wrap_in' (by unfold In64; omega)).1)
      have IN := Lib.hid (fun (h : ¬ (X j = X p ∧ Y j = Y p)) (k : Nat) (hk : k + 1 < j + 1) => show ¬ (X (k + 1) = X k ∧ Y (k + 1) = Y k) by
        rcases Nat.lt_or_ge (k + 1) j with l | l
        · exact I.out k l
        · have : k = p := by omega
          subst this; rw [hp]; exact h)
      have NO := Lib.hid (fun (h : X j = X p ∧ Y j = Y p) => show true = N by rw [← HN.out]; symm; rw [Bool.not_eq_true', decide_eq_false_iff_not]; intro k; exact k p (by omega) (by rw [hp]; exact h))
      have HJ := Lib.hid (And.intro hp hj)
      clear hcell hp I hj
      go_wp2
      have u1 := WP.out
      have ev := fun a b c d w => eqV2 a b c d w
      go_quiet (fail)
      clear u1 ev c0 c1 d0 d1
      obtain ⟨z, hz⟩ : ∃ z, (X p == X j && Y p == Y j) = z := ⟨_, rfl⟩
      rw [hz]
      cases z
      · have E := Lib.hid (IN.out (fun k => by rw [beq_iff_eq.mpr k.1.symm, beq_iff_eq.mpr k.2.symm] at hz; cases hz))
        clear NO IN hz
        go_wp2
        go_roundw
        case rel => exact ⟨j + 1, by omega, Or.inl (by omega), by go_num, E, Lib.hid (D2.out.step (by repeat (first | exact Below.refl _ _ | assumption | refine Below.setCell ?_ (by first | omega | (simp; done) | (simp; omega)) _ | refine Below.alloc ?_ (by first | omega | (simp; done) | (simp; omega)) _ | refine below_drewN ?_ _ | refine Below.drew ?_ | refine Below.trans ?_ (Below.mono (by assumption) (by first | omega | (simp; done) | (simp; omega)))))), by have := B2.out; repeat (first | exact Below.refl _ _ | assumption | refine Below.setCell ?_ (by first | omega | (simp; done) | (simp; omega)) _ | refine Below.alloc ?_ (by first | omega | (simp; done) | (simp; omega)) _ | refine below_drewN ?_ _ | refine Below.drew ?_ | refine Below.trans ?_ (Below.mono (by assumption) (by first | omega | (simp; done) | (simp; omega))))⟩
        case measure => simp [intOf]; omega
      · have E := Lib.hid (NO.out (by rw [Bool.and_eq_true] at hz; exact ⟨(beq_iff_eq.mp hz.1).symm, (beq_iff_eq.mp hz.2).symm⟩))
        clear NO IN hz
        go_wp2
        go_ret
        exact ⟨by rw [← E.out]; rfl, by have := B2.out; repeat (first | exact Below.refl _ _ | assumption | refine Below.setCell ?_ (by first | omega | (simp; done) | (simp; omega)) _ | refine Below.alloc ?_ (by first | omega | (simp; done) | (simp; omega)) _ | refine below_drewN ?_ _ | refine Below.drew ?_ | refine Below.trans ?_ (Below.mono (by assumption) (by first | omega | (simp; done) | (simp; omega))))⟩
    · have E := Lib.hid (show false = N by rw [← HN.out]; symm; rw [Bool.not_eq_false', decide_eq_true_iff]; intro k hk; exact I.out k (by omega))
      clear I hj
      go_wp2
      go_ret
      exact ⟨by rw [← E.out]; rfl, B2.out⟩
set_option maxRecDepth 100000 in
set_option maxHeartbeats 4000000 in
theorem tkRail_any (s : Ds) (w : World) (hmax : s.n ≤ 1000) (D : Dots w s.a s.n s.c s.x s.y) :
    Calls Tryd.prog 53 #[.slice s.a s.n s.c] w fun e w' => e = .returned (.int .i64 (railE s)) ∧ Below w.heap.size w w' := by
  obtain ⟨q, hq⟩ : ∃ q, railE s = q := ⟨_, rfl⟩
  rw [hq]
  have HQ := Lib.hid hq
  obtain ⟨a, n, c, X, Y⟩ := s
  dsimp only at hmax D HQ ⊢
  have V := Lib.hid (tkNear_any a n c X Y w hmax D.at')
  have V2 := Lib.hid (fun (W : World) (h : Below w.heap.size w W) => tkRepeats_any a n c X Y W hmax (Pts.step D.at' h))
  clear D hq
  by_cases s1 : n < 2 ∨ 64 < n
  · have g1 : ¬ (2 ≤ (n : Int) ∧ (n : Int) ≤ 64) := by omega
    have E := Lib.hid (show 42 = q by rw [← HQ.out]; unfold railE; rw [if_pos s1])
    clear V V2
    go_enter Tryd.func53, Tryd.ntmps53
    go_wp2_with fail
    refine (tkWithinI_any 2 64 n _).mono ?_
    rintro e w1 ⟨rfl, rfl⟩
    rw [decide_eq_false g1]
    clear g1 s1
    go_wp2
    go_ret
    exact ⟨retI E.out, Below.refl _ _⟩
  have g1 : 2 ≤ (n : Int) ∧ (n : Int) ≤ 64 := by omega
  by_cases s3 : hlfN n X Y
  rotate_left
  · rw [decide_eq_false s3] at V
    have E := Lib.hid (show 40 = q by rw [← HQ.out]; unfold railE; dsimp only; rw [if_neg s1, if_neg s3])
    go_enter Tryd.func53, Tryd.ntmps53
    go_wp2_with fail
    refine (tkWithinI_any 2 64 n _).mono ?_
    rintro e w1 ⟨rfl, rfl⟩
    rw [decide_eq_true g1]
    clear g1 s1 s3
    go_wp2_with fail
    refine (V.out).mono ?_
    rintro e w1 ⟨rfl, h⟩
    have HB := Lib.hid h
    clear h V
    go_wp2
    go_ret
    exact ⟨retI E.out, HB.out⟩
  rw [decide_eq_true s3] at V
  have EQ := Lib.hid (show (if stpN n X Y then (0 : Int) else 43) = q by rw [← HQ.out]; unfold railE; dsimp only; rw [if_neg s1, if_pos s3])
  clear HQ s3
  go_enter Tryd.func53, Tryd.ntmps53
  go_wp2_with fail
  refine (tkWithinI_any 2 64 n _).mono ?_
  rintro e w1 ⟨rfl, rfl⟩
  rw [decide_eq_true g1]
  clear g1 s1
  go_wp2_with fail
  refine (V.out).mono ?_
  rintro e w1 ⟨rfl, h⟩
  have HB := Lib.hid h
  have V3 := Lib.hid (V2.out _ h)
  clear h V V2
  go_wp2_with fail
  refine (V3.out).mono ?_
  rintro e w2 ⟨rfl, h⟩
  have HC := Lib.hid (HB.out.trans (h.mono HB.out.size))
  clear h V3 HB
  by_cases s4 : stpN n X Y
  · have E := Lib.hid (show 0 = q by rw [← EQ.out, if_pos s4])
    rw [decide_eq_true s4]
    clear s4 EQ
    go_wp2
    go_ret
    exact ⟨retI E.out, HC.out⟩
  · have E := Lib.hid (show 43 = q by rw [← EQ.out, if_neg s4])
    rw [decide_eq_false s4]
    clear s4 EQ
    go_wp2
    go_ret
    exact ⟨retI E.out, HC.out⟩
/-- a gate's copy -/
def GW (w W : World) (m : Nat) (g : Gt) : Prop := BW W m [.int .i64 g.ax, .int .i64 g.ay, .int .i64 g.bx, .int .i64 g.by', .bool g.s] ∧ Below w.heap.size w W ∧ w.heap.size ≤ m
theorem GW.step {w W W' : World} {m : Nat} {g : Gt} (G : GW w W m g) (h : Below W.heap.size W W') : GW w W' m g := ⟨G.1.below h G.1.lt, G.2.1.trans (h.mono G.2.1.size), G.2.2⟩
set_option maxRecDepth 100000 in
set_option maxHeartbeats 4000000 in
theorem tkGate_any (g : Gt) (w : World) :
    Calls Tryd.prog 54 #[.agg #[.int .i64 g.ax, .int .i64 g.ay, .int .i64 g.bx, .int .i64 g.by', .bool g.s]] w fun e w' => e = .returned (.int .i64 (gateE g)) ∧ Below w.heap.size w w' := by
  obtain ⟨ax, ay, bx, by', s⟩ := g
  dsimp only
  obtain ⟨q, hq⟩ : ∃ q, gateE ⟨ax, ay, bx, by', s⟩ = q := ⟨_, rfl⟩
  rw [hq]
  have HQ := Lib.hid hq
  clear hq
  go_enter Tryd.func54, Tryd.ntmps54
  go_wp2_with fail
  refine calls_gen (S := fun W => GW w W w.heap.size ⟨ax, ay, bx, by', s⟩ ∧ BW W (w.heap.size + 1) [.int .i64 ax, .int .i64 ay, .int .i64 bx, .int .i64 by']) ⟨⟨(BW.new w w.heap.size [_, _, _, _, _] _ rfl).alloc _, by repeat (first | exact Below.refl _ _ | assumption | refine Below.setCell ?_ (by first | omega | (simp; done) | (simp; omega)) _ | refine Below.alloc ?_ (by first | omega | (simp; done) | (simp; omega)) _ | refine below_drewN ?_ _ | refine Below.drew ?_ | refine Below.trans ?_ (Below.mono (by assumption) (by first | omega | (simp; done) | (simp; omega)))), Nat.le_refl _⟩, BW.new _ _ [_, _, _, _] _ (by simp)⟩ (fun W0 hS => ?_)
  have G0 := Lib.hid hS.1
  refine (tkNear_any _ 2 2 _ _ _ (by omega) (Pts.two hS.2)).mono ?_
  clear hS
  rw [hlf_two]
  rintro e w1 ⟨rfl, h⟩
  have G1 := Lib.hid (G0.out.step h)
  clear h G0
  by_cases h1 : hlfP ax ay ∧ hlfP bx by'
  rotate_left
  · have E := Lib.hid (show 40 = q by rw [← HQ.out]; unfold gateE; rw [if_neg h1])
    rw [decide_eq_false h1]
    clear h1 HQ
    go_wp2
    go_ret
    exact ⟨retI E.out, G1.out.2.1⟩
  have EQ := Lib.hid (show (if ax = bx ∧ ay = by' then (43 : Int) else 0) = q by rw [← HQ.out]; unfold gateE; dsimp only; rw [if_pos h1])
  rw [decide_eq_true h1]
  clear h1 HQ
  have c0 := G1.out.1.c 0 _ rfl
  have c1 := G1.out.1.c 1 _ rfl
  have c2 := G1.out.1.c 2 _ rfl
  have c3 := G1.out.1.c 3 _ rfl
  go_wp2_with fail
  refine calls_gen (S := fun W => GW w W w.heap.size ⟨ax, ay, bx, by', s⟩ ∧ BW W w1.heap.size [.int .i64 ax, .int .i64 ay, .int .i64 bx, .int .i64 by']) ⟨G1.out.step ((Below.refl _ _).alloc (Nat.le_refl _) _), BW.new _ _ [_, _, _, _] _ rfl⟩ (fun W0 hS => ?_)
  have G2 := Lib.hid hS.1
  refine (tkRepeats_any _ 2 2 _ _ _ (by omega) (Pts.two hS.2)).mono ?_
  clear hS c0 c1 c2 c3 G1
  rw [stp_two]
  rintro e w3 ⟨rfl, h⟩
  have G3 := Lib.hid (G2.out.step h)
  clear h G2
  by_cases h2 : ax = bx ∧ ay = by'
  · have E := Lib.hid (show 43 = q by rw [← EQ.out, if_pos h2])
    rw [decide_eq_false (not_not_intro h2)]
    clear h2 EQ
    go_wp2
    go_ret
    exact ⟨retI E.out, G3.out.2.1⟩
  · have E := Lib.hid (show 0 = q by rw [← EQ.out, if_neg h2])
    rw [decide_eq_true h2]
    clear h2 EQ
    go_wp2
    go_ret
    exact ⟨retI E.out, G3.out.2.1⟩
end Go.Proofs.YtjbalpmcnihhpaaDoor
namespace Go.Proofs.YtjbalpmcnihhpaaDoor
open Go.RowKit
set_option linter.unusedVariables false
set_option linter.unusedSimpArgs false

/-- the cells that a bar is made of -/
def BrT (pb o2 o3 : Nat) (x0 y0 x1 y1 : Int) (W : World) : Prop :=
  (W.cell? ⟨pb, o2, none⟩ = some (.int .i64 x0) ∧ W.cell? ⟨pb, o2 + 1, none⟩ = some (.int .i64 y0)) ∧ W.cell? ⟨pb, o3, none⟩ = some (.int .i64 x1) ∧ W.cell? ⟨pb, o3 + 1, none⟩ = some (.int .i64 y1)
theorem BrT.keep {pb o2 o3 C : Nat} {x0 y0 x1 y1 : Int} {W W' : World} (h : Below C W W') (e : pb < C) (S : BrT pb o2 o3 x0 y0 x1 y1 W) : BrT pb o2 o3 x0 y0 x1 y1 W' :=
  ⟨⟨(h.cell (p := ⟨pb, _, none⟩) e).trans S.1.1, (h.cell (p := ⟨pb, _, none⟩) e).trans S.1.2⟩, (h.cell (p := ⟨pb, _, none⟩) e).trans S.2.1, (h.cell (p := ⟨pb, _, none⟩) e).trans S.2.2⟩
set_option maxRecDepth 100000 in
set_option maxHeartbeats 8000000 in
theorem tkBars_any (k : Tk) (B : Nat) (w : World) (hB : B ≤ w.heap.size) (few : fewR k) (K : TkM B w k) :
    Calls Tryd.prog 7 #[trkV k.t] w fun e w' => ∃ a c, e = .returned (.slice a (barN k k.t.rn) c) ∧ Brs w' a (barN k k.t.rn) c (barG k) ∧ Below w.heap.size w w' := by
  have Q0 := Lib.hid (PK.new 34 K hB)
  have fr := few.2.1
  have FR := Lib.hid few.2.2.2
  have BL := Lib.hid (fun (m : Nat) (hm : m ≤ k.t.rn) => barN_le k (q := 99) (fun i hi => by have := FR.out i hi; omega) hm)
  obtain ⟨i0, hi, hz0, hz1, hz2⟩ := info_parts barInfo
  have U := Tryd.underlying36
  obtain ⟨ra, hra0⟩ : ∃ ra, k.t.ra = ra := ⟨_, rfl⟩
  have HRA := Lib.hid hra0
  clear K few hra0
  go_enter Tryd.func7, Tryd.ntmps7
  go_wp2_with fail
  refine wp_gen (S := fun W => PK w W B w.heap.size k ∧ w.heap.size + 1 ≤ W.heap.size ∧ W.ownsRow (w.heap.size + 1) 39 5 (.slice (some ⟨w.heap.size + 1, 0, none⟩) 0 0) 0 []) ⟨Q0.out.step ((Below.refl _ _).alloc (Nat.le_refl _) _), by simp, by
    have := World.ownsRow_lit (base := w.heap.size + 1) (e := 39) (size := 5) (w.alloc (.cells #[.int .i64 k.t.rate, .int .i64 k.t.cell, .int .i64 k.t.cols, .int .i64 k.t.rows, .int .i64 k.t.cx, .int .i64 k.t.cy, .slice k.t.H.a k.t.H.n k.t.H.c, .slice k.t.G.a k.t.G.n k.t.G.c, .slice k.t.ka k.t.kn k.t.kc, .slice k.t.la k.t.ln k.t.lc, .slice k.t.ra k.t.rn k.t.rc, .slice k.t.ga k.t.gn k.t.gc, .int .i64 k.t.sx, .int .i64 k.t.sy, .int .u32 k.t.head, .int .i64 k.t.laps] 34)) #[] 0 (by simp) (by unfold maxLen; omega) (by simp)
    simpa using this⟩ (fun W1 hS => ?_)
  have Q1 := Lib.hid hS.1
  have Z1 := hS.2.1
  have O1 := Lib.hid hS.2.2
  rw [HRA.out]
  clear hS Q0
  go_loopw [3, 11] (fun v i wr => ∃ j : Nat, j ≤ k.t.rn ∧ i = .int .i64 j ∧ wr.ownsRow (w.heap.size + 1) 39 5 v (barN k j) (fvL (barG k) (barN k j)) ∧ PK w wr B w.heap.size k ∧ w.heap.size + 1 ≤ wr.heap.size) (fun _ i _ => k.t.rn - (intOf i).toNat)
  case atStart => exact ⟨0, by omega, rfl, O1.out, Q1.out, Z1⟩
  case round =>
    obtain ⟨j, hj, rfl, hO, hQ, hZ⟩ := hrel
    have Q2 := Lib.hid hQ
    have O2 := Lib.hid hO
    have cl := Q2.out.c.lt
    clear hO hQ Q1 Z1 O1
    by_cases hlj : j < k.t.rn
    · have bl1 := BL.out (j + 1) (by omega)
      have b1 : barN k (j + 1) = barN k j + ((k.R j).n - 1) := rfl
      have BB := Lib.hid (And.intro bl1 b1)
      have hn := FR.out j hlj
      obtain ⟨rb, ro, hra, hrb, hrc⟩ := Q2.out.t.R (by omega)
      have d0 := hrc j hlj
      have hrb' := Nat.lt_of_lt_of_le hrb Q2.out.bz
      obtain rfl := HRA.out.symm.trans hra
      have z0 : (0 : Int) ≤ (j : Int) := by omega
      have z1 : (j : Int) < (k.t.rn : Int) := by omega
      obtain ⟨pa, hpa0⟩ : ∃ pa, (k.R j).a = pa := ⟨_, rfl⟩
      rw [hpa0] at d0
      have HPA := Lib.hid hpa0
      clear bl1 b1 hra hrb hrc hpa0
      go_wp2
      clear d0
      go_loopw [3, 6] (fun v i wr => ∃ p : Nat, p ≤ (k.R j).n - 1 ∧ i = .int .i64 ((p + 1 : Nat) : Int) ∧ wr.ownsRow (w.heap.size + 1) 39 5 v (barN k j + p) (fvL (barG k) (barN k j + p)) ∧ PK w wr B w.heap.size k ∧ w.heap.size + 1 ≤ wr.heap.size) (fun _ i _ => (k.R j).n - (intOf i).toNat)
      case atStart => exact ⟨0, by omega, rfl, O2.out, Q2.out, hZ⟩
      case round =>
        obtain ⟨p, hp, rfl, hO, hQ, hZ⟩ := hrel
        have Q3 := Lib.hid hQ
        have O3 := Lib.hid hO
        clear hO hQ Q2 O2
        have cl3 := Q3.out.c.lt
        have hBw := Q3.out.z
        obtain ⟨q, hq⟩ : ∃ q, p + 1 = q := ⟨_, rfl⟩
        rw [hq]
        by_cases hlp : q < (k.R j).n
        · obtain ⟨pb, po, hpa, hpb, hpc⟩ := (Q3.out.t.Rs j hlj).at' (by omega)
          obtain ⟨e0, e1⟩ := hpc p (by omega)
          obtain ⟨e2, e3⟩ := hpc q hlp
          have hpb1 : pb < w.heap.size + 1 := by omega
          obtain rfl := HPA.out.symm.trans hpa
          have GA := Lib.hid (barG_at k (i := j) (p := p) (by omega) hlj)
          rw [hq] at GA
          have y0 : (0 : Int) ≤ (p : Int) := by omega
          have y1 : (p : Int) < ((k.R j).n : Int) := by omega
          have y2 : (0 : Int) ≤ (q : Int) := by omega
          have y3 : (q : Int) < ((k.R j).n : Int) := by omega
          have WP := Lib.hid (show IntKind.i64.wrap ((q : Int) - 1) = (p : Int) by rw [show (q : Int) - 1 = (p : Int) by omega]; exact (wrap_in' (by unfold In64; omega)).1)
          have bnd : barN k j + p + 1 ≤ 2000 := by have := BB.out; omega
          have HP := Lib.hid (And.intro hq hp)
          clear hpa hpb hpc hq hp HPA
          generalize (k.R j).x p = x0 at *
          generalize (k.R j).y p = v0 at *
          generalize (k.R j).x q = x1 at *
          generalize (k.R j).y q = v1 at *
          have T0 := Lib.hid (show BrT pb (po + p * 2) (po + q * 2) x0 v0 x1 v1 _ from ⟨⟨e0, e1⟩, e2, e3⟩)
          go_wp2_with fail
          refine wp_region_held_drew (S := BrT pb (po + p * 2) (po + q * 2) x0 v0 x1 v1) (by kernel_rfl) T0.out (fun hHeld => ?_)
          have Q4 := Q3
          have O4 := Lib.hid (World.ownsRow.drew O3.out)
          have hZ4 := hZ
          have T1 := Lib.hid T0.out
          clear Q3 O3 e0 e1 e2 e3 T0 cl3
          unfold BrT at hHeld ⊢
          have u1 := WP.out
          refine wpAnyH_takeD 0 22 (v := ?_) (by kernel_rfl) (by kernel_rfl) (by kernel_rfl) (by kernel_rfl) (by rfl) (fun _ _ _ h => h) ?_ hHeld ?_
          rotate_left 1
          (intro o ho W hSw; simp only [List.getElem?_toArray, List.getElem?_cons_succ, List.getElem?_cons_zero, Option.some.injEq] at ho; subst ho; (try dsimp only at hSw); go_simp; try with_reducible rfl)
          (try simp only [Act.put, List.setIfInBounds_toArray, List.set_cons_zero, List.set_cons_succ])
          refine wpAnyH_takeD 1 23 (v := ?_) (by kernel_rfl) (by kernel_rfl) (by kernel_rfl) (by kernel_rfl) (by rfl) (fun _ _ _ h => h) ?_ hHeld ?_
          rotate_left 1
          (intro o ho W hSw; simp only [List.getElem?_toArray, List.getElem?_cons_succ, List.getElem?_cons_zero, Option.some.injEq] at ho; subst ho; (try dsimp only at hSw); go_simp; try with_reducible rfl)
          (try simp only [Act.put, List.setIfInBounds_toArray, List.set_cons_zero, List.set_cons_succ])
          refine wpAnyH_takeD 2 24 (v := ?_) (by kernel_rfl) (by kernel_rfl) (by kernel_rfl) (by kernel_rfl) (by rfl) (fun _ _ _ h => h) ?_ hHeld ?_
          rotate_left 1
          (intro o ho W hSw; simp only [List.getElem?_toArray, List.getElem?_cons_succ, List.getElem?_cons_zero, Option.some.injEq] at ho; subst ho; (try dsimp only at hSw); go_simp; try with_reducible rfl)
          (try simp only [Act.put, List.setIfInBounds_toArray, List.set_cons_zero, List.set_cons_succ])
          refine wpAnyH_takeD 3 25 (v := ?_) (by kernel_rfl) (by kernel_rfl) (by kernel_rfl) (by kernel_rfl) (by rfl) (fun _ _ _ h => h) ?_ hHeld ?_
          rotate_left 1
          (intro o ho W hSw; simp only [List.getElem?_toArray, List.getElem?_cons_succ, List.getElem?_cons_zero, Option.some.injEq] at ho; subst ho; (try dsimp only at hSw); go_simp; try with_reducible rfl)
          (try simp only [Act.put, List.setIfInBounds_toArray, List.set_cons_zero, List.set_cons_succ])
          refine wpAnyH_takeD 4 26 (v := ?_) (by kernel_rfl) (by kernel_rfl) (by kernel_rfl) (by kernel_rfl) (by rfl) (fun _ _ _ h => h) ?_ hHeld ?_
          rotate_left 1
          (intro o ho W hSw; simp only [List.getElem?_toArray, List.getElem?_cons_succ, List.getElem?_cons_zero, Option.some.injEq] at ho; subst ho; (try dsimp only at hSw); go_simp; try with_reducible rfl)
          (try simp only [Act.put, List.setIfInBounds_toArray, List.set_cons_zero, List.set_cons_succ])
          refine wpAnyH_takeD 5 27 (v := ?_) (by kernel_rfl) (by kernel_rfl) (by kernel_rfl) (by kernel_rfl) (by rfl) (fun _ _ _ h => h) ?_ hHeld ?_
          rotate_left 1
          (intro o ho W hSw; simp only [List.getElem?_toArray, List.getElem?_cons_succ, List.getElem?_cons_zero, Option.some.injEq] at ho; subst ho; (try dsimp only at hSw); go_simp; try with_reducible rfl)
          (try simp only [Act.put, List.setIfInBounds_toArray, List.set_cons_zero, List.set_cons_succ])
          refine wpAnyH_takeD 6 28 (v := ?_) (by kernel_rfl) (by kernel_rfl) (by kernel_rfl) (by kernel_rfl) (by rfl) (fun _ _ _ h => h) ?_ hHeld ?_
          rotate_left 1
          (intro o ho W hSw; simp only [List.getElem?_toArray, List.getElem?_cons_succ, List.getElem?_cons_zero, Option.some.injEq] at ho; subst ho; (try dsimp only at hSw); go_simp; try with_reducible rfl)
          (try simp only [Act.put, List.setIfInBounds_toArray, List.set_cons_zero, List.set_cons_succ])
          refine wpAnyH_takeD 7 29 (v := ?_) (by kernel_rfl) (by kernel_rfl) (by kernel_rfl) (by kernel_rfl) (by rfl) (fun _ _ _ h => h) ?_ hHeld ?_
          rotate_left 1
          (intro o ho W hSw; simp only [List.getElem?_toArray, List.getElem?_cons_succ, List.getElem?_cons_zero, Option.some.injEq] at ho; subst ho; (try dsimp only at hSw); go_simp; try with_reducible rfl)
          (try simp only [Act.put, List.setIfInBounds_toArray, List.set_cons_zero, List.set_cons_succ])
          refine wpAnyH_takeD 8 30 (v := ?_) (by kernel_rfl) (by kernel_rfl) (by kernel_rfl) (by kernel_rfl) (by rfl) (fun _ _ _ h => h) ?_ hHeld ?_
          rotate_left 1
          (intro o ho W hSw; simp only [List.getElem?_toArray, List.getElem?_cons_succ, List.getElem?_cons_zero, Option.some.injEq] at ho; subst ho; (try dsimp only at hSw); go_simp; try with_reducible rfl)
          (try simp only [Act.put, List.setIfInBounds_toArray, List.set_cons_zero, List.set_cons_succ])
          refine wpAnyH_takeD 9 31 (v := ?_) (by kernel_rfl) (by kernel_rfl) (by kernel_rfl) (by kernel_rfl) (by rfl) (fun _ _ _ h => h) ?_ hHeld ?_
          rotate_left 1
          (intro o ho W hSw; simp only [List.getElem?_toArray, List.getElem?_cons_succ, List.getElem?_cons_zero, Option.some.injEq] at ho; subst ho; (try dsimp only at hSw); go_simp; try with_reducible rfl)
          (try simp only [Act.put, List.setIfInBounds_toArray, List.set_cons_zero, List.set_cons_succ])
          refine wpAnyH_takeD 10 32 (v := ?_) (by kernel_rfl) (by kernel_rfl) (by kernel_rfl) (by kernel_rfl) (by rfl) (fun _ _ _ h => h) ?_ hHeld ?_
          rotate_left 1
          (intro o ho W hSw; simp only [List.getElem?_toArray, List.getElem?_cons_succ, List.getElem?_cons_zero, Option.some.injEq] at ho; subst ho; (try dsimp only at hSw); go_simp; try with_reducible rfl)
          (try simp only [Act.put, List.setIfInBounds_toArray, List.set_cons_zero, List.set_cons_succ])
          refine wpAnyH_takeD 11 33 (v := ?_) (by kernel_rfl) (by kernel_rfl) (by kernel_rfl) (by kernel_rfl) (by rfl) (fun _ _ _ h => h) ?_ hHeld ?_
          rotate_left 1
          (intro o ho W hSw; simp only [List.getElem?_toArray, List.getElem?_cons_succ, List.getElem?_cons_zero, Option.some.injEq] at ho; subst ho; (try dsimp only at hSw); go_simp; try with_reducible rfl)
          (try simp only [Act.put, List.setIfInBounds_toArray, List.set_cons_zero, List.set_cons_succ])
          clear u1 WP
          refine wpAnyH_onlyD 12 (by kernel_rfl) (fun o ho K hK => ?_) (by kernel_rfl)
          simp only [List.getElem?_toArray, List.getElem?_cons_succ, List.getElem?_cons_zero, Option.some.injEq] at ho
          subst ho
          go_simp
          refine hK.out _ _ (BrT.keep ((Below.refl (w.heap.size + 1) _).drew.alloc hZ4 _) hpb1 T1.out) ?_
          clear hK K hHeld
          intro hHeld
          refine wpAnyH_onlyD 13 (by kernel_rfl) (fun o ho K hK => ?_) (by kernel_rfl)
          simp only [List.getElem?_toArray, List.getElem?_cons_succ, List.getElem?_cons_zero, Option.some.injEq] at ho
          subst ho
          refine step_append_lies _ (by rfl) (.tmp 22) (.tmp 34) 36 (by rfl) (w.heap.size + 1) 39 i0 (.agg #[.int .i64 0, .int .i64 0, .int .i64 0, .int .i64 0, .int .i64 0]) 5 40 U hi hz0 hz1 hz2 rfl (by omega) _ (barN k j + p) (fvL (barG k) (barN k j + p)) (by rfl) (O4.out.alloc _) _ 1 1 [.int .i64 x0, .int .i64 v0, .int .i64 x1, .int .i64 v1, .int .i64 j] (by rfl) rfl (World.news_of_block (heap_alloc_new _ _)) (by simp [Value.oneCell']) (by omega) (by unfold maxLen; omega) (by omega) (by simp; omega) _ rfl ?_
          intro g cap w1 hO hG hat hlt2
          have HB := (Below.refl (w.heap.size + 1) _).grown hG (by simp; omega) (fun m e => (O4.out.lt m e).1)
          have HB2 := (((Below.refl (w.heap.size + 1) _).alloc hZ4 _).drew).trans HB
          have Q5 := Lib.hid (Q4.out.stepB HB2 (by omega) (by omega))
          have O5 := Lib.hid (show w1.ownsRow (w.heap.size + 1) 39 5 _ (barN k j + q) (fvL (barG k) (barN k j + q)) from by
            rw [← HP.out.1]
            show w1.ownsRow (w.heap.size + 1) 39 5 _ (barN k j + p + 1) (fvL (barG k) (barN k j + p) ++ [.int .i64 (barG k (barN k j + p)).ax, .int .i64 (barG k (barN k j + p)).ay, .int .i64 (barG k (barN k j + p)).bx, .int .i64 (barG k (barN k j + p)).by', .int .i64 (barG k (barN k j + p)).r])
            rw [GA.out]
            exact hO)
          have hZ5 : w.heap.size + 1 ≤ w1.heap.size := by have := HB2.size; omega
          refine hK.out _ _ (BrT.keep HB2 hpb1 T1.out) ?_
          clear hK K hHeld T1 hO hG HB HB2 hat Q4 O4 GA
          intro hHeld
          refine wpAnyH_takeD 14 3 (v := ?_) (by kernel_rfl) (by kernel_rfl) (by kernel_rfl) (by kernel_rfl) (by rfl) (fun _ _ _ h => h) ?_ hHeld ?_
          rotate_left 1
          (intro o ho W hSw; simp only [List.getElem?_toArray, List.getElem?_cons_succ, List.getElem?_cons_zero, Option.some.injEq] at ho; subst ho; (try dsimp only at hSw); go_simp; try with_reducible rfl)
          (try simp only [Act.put, List.setIfInBounds_toArray, List.set_cons_zero, List.set_cons_succ])
          refine wpAnyH_done (by kernel_rfl) ?_ _
          clear hHeld
          go_wp2
          go_roundw
          case rel => exact ⟨q, by have := HP.out; omega, by go_num, O5.out, Q5.out, hZ5⟩
          case measure => simp [intOf]; omega
        · have e : p = (k.R j).n - 1 := by omega
          have hc : ¬ (q : Int) < ((k.R j).n : Int) := by omega
          clear hq hp
          go_wp2
          go_roundw
          case rel => exact ⟨j + 1, by omega, by go_num, by rw [BB.out.2, ← e]; exact O3.out, Q3.out, hZ⟩
          case measure => simp [intOf]; omega
    · have e : j = k.t.rn := by omega
      subst e
      obtain ⟨a', c', hv, D', hb⟩ := owned_bars O2.out
      have D2 := Lib.hid D'
      have HB := Lib.hid hb
      subst hv
      clear D' O2 hb
      go_wp2
      go_ret
      exact ⟨a', c', rfl, D2.out, Q2.out.l⟩
end Go.Proofs.YtjbalpmcnihhpaaDoor
