/- The walk of PlaneOnce, whatever the program's own plane does as long as it tells what PlaneC says. -/
import Derived.Test.YtmfmdipejlnmfaaNl
namespace Go.Proofs.Ytmfmdipejlnmfaa
open Go.RowKit
set_option linter.unusedVariables false
set_option linter.unusedSimpArgs false

def S20 (x : Int) : Prop := -1048576 ≤ x ∧ x ≤ 1048576
set_option maxRecDepth 100000 in
set_option maxHeartbeats 8000000 in
theorem ponce_walk (C : PlaneC) (ax ay bx by' px py wx wy : Int) (w : World) :
    Calls Try.prog 9 #[.agg #[.int .i64 ax, .int .i64 ay, .int .i64 bx, .int .i64 by', .int .i64 px, .int .i64 py], .agg #[.int .i64 wx, .int .i64 wy]] w fun e w' => e = .returned (.bool true) ∧ Below w.heap.size w w' := by
  have HC := Lib.hid C
  clear C
  go_enter Try.func9, Try.ntmps9
  go_wp2
  refine wp_gen (S := fun W => BW W w.heap.size [.int .i64 ax, .int .i64 ay, .int .i64 bx, .int .i64 by', .int .i64 px, .int .i64 py] ∧ BW W (w.heap.size + 1) [.int .i64 wx, .int .i64 wy] ∧ Below w.heap.size w W) ⟨(BW.new w w.heap.size [_, _, _, _, _, _] _ rfl).alloc _, BW.new _ _ [_, _] _ (by simp), by repeat (first | exact Below.refl _ _ | assumption | refine Below.setCell ?_ (by first | omega | (simp; done) | (simp; omega)) _ | refine Below.alloc ?_ (by first | omega | (simp; done) | (simp; omega)) _ | refine below_drewN ?_ _ | refine Below.drew ?_ | refine Below.trans ?_ (Below.mono (by assumption) (by first | omega | (simp; done) | (simp; omega))))⟩ (fun W1 hS => ?_)
  obtain ⟨c0, c1, c2, c3, c4, c5⟩ := hS.1.h6
  obtain ⟨d0, d1⟩ := hS.2.1.h2'
  have z0 : w.heap.size < W1.heap.size := hS.1.lt
  have z1 : w.heap.size + 1 < W1.heap.size := hS.2.1.lt
  have HB1 := Lib.hid hS.1
  have HB2 := Lib.hid hS.2.1
  have HL := Lib.hid hS.2.2
  clear hS
  go_loopg [5] 3 (fun kx s3 wr => ∃ i : Nat, s3 = .int .i64 i ∧ i ≤ 3 ∧ 3 - i ≤ kx ∧ wr = W1 ∧ Hid ((0 < i → S20 ax ∧ S20 ay) ∧ (1 < i → S20 bx ∧ S20 by') ∧ (2 < i → S20 px ∧ S20 py)))
  case atStart => exact ⟨0, rfl, by omega, by omega, rfl, ⟨fun h => absurd h (by omega), fun h => absurd h (by omega), fun h => absurd h (by omega)⟩⟩
  case round =>
    obtain ⟨i, rfl, hi, hk, rfl, I⟩ := hrel
    obtain rfl | rfl | rfl | rfl : i = 0 ∨ i = 1 ∨ i = 2 ∨ i = 3 := by omega
    · skip
      try rw [show ((0 : Nat) : Int) = 0 from rfl]
      by_cases q0 : 1048576 < ax
      · skip
        clear I
        go_wp2
        go_ret
        exact ⟨rfl, HL.out⟩
      · skip
        by_cases q1 : ax < -1048576
        · skip
          clear I
          go_wp2
          go_ret
          exact ⟨rfl, HL.out⟩
        · skip
          by_cases q2 : 1048576 < ay
          · skip
            clear I
            go_wp2
            go_ret
            exact ⟨rfl, HL.out⟩
          · skip
            by_cases q3 : ay < -1048576
            · skip
              clear I
              go_wp2
              go_ret
              exact ⟨rfl, HL.out⟩
            · skip
              have J := Lib.hid (show S20 ax ∧ S20 ay by unfold S20; omega)
              have HK := Lib.hid hk
              clear hi hk
              go_wp2
              go_roundg (3 - 0 - 1)
              case measure => have := HK.out; omega
              case rel => exact ⟨0 + 1, rfl, by omega, by omega, rfl, ⟨fun _ => J.out, fun h => absurd h (by omega), fun h => absurd h (by omega)⟩⟩
    · skip
      try rw [show ((1 : Nat) : Int) = 1 from rfl]
      by_cases q0 : 1048576 < bx
      · skip
        clear I
        go_wp2
        go_ret
        exact ⟨rfl, HL.out⟩
      · skip
        by_cases q1 : bx < -1048576
        · skip
          clear I
          go_wp2
          go_ret
          exact ⟨rfl, HL.out⟩
        · skip
          by_cases q2 : 1048576 < by'
          · skip
            clear I
            go_wp2
            go_ret
            exact ⟨rfl, HL.out⟩
          · skip
            by_cases q3 : by' < -1048576
            · skip
              clear I
              go_wp2
              go_ret
              exact ⟨rfl, HL.out⟩
            · skip
              have J := Lib.hid (show S20 bx ∧ S20 by' by unfold S20; omega)
              have HK := Lib.hid hk
              clear hi hk
              go_wp2
              go_roundg (3 - 1 - 1)
              case measure => have := HK.out; omega
              case rel => exact ⟨1 + 1, rfl, by omega, by omega, rfl, ⟨fun h => I.out.1 (by omega), fun _ => J.out, fun h => absurd h (by omega)⟩⟩
    · skip
      try rw [show ((2 : Nat) : Int) = 2 from rfl]
      by_cases q0 : 1048576 < px
      · skip
        clear I
        go_wp2
        go_ret
        exact ⟨rfl, HL.out⟩
      · skip
        by_cases q1 : px < -1048576
        · skip
          clear I
          go_wp2
          go_ret
          exact ⟨rfl, HL.out⟩
        · skip
          by_cases q2 : 1048576 < py
          · skip
            clear I
            go_wp2
            go_ret
            exact ⟨rfl, HL.out⟩
          · skip
            by_cases q3 : py < -1048576
            · skip
              clear I
              go_wp2
              go_ret
              exact ⟨rfl, HL.out⟩
            · skip
              have J := Lib.hid (show S20 px ∧ S20 py by unfold S20; omega)
              have HK := Lib.hid hk
              clear hi hk
              go_wp2
              go_roundg (3 - 2 - 1)
              case measure => have := HK.out; omega
              case rel => exact ⟨2 + 1, rfl, by omega, by omega, rfl, ⟨fun h => I.out.1 (by omega), fun h => I.out.2.1 (by omega), fun _ => J.out⟩⟩
    · skip
      try rw [show ((3 : Nat) : Int) = 3 from rfl]
      by_cases q0 : 1048576 < wx
      · skip
        clear I
        go_wp2
        go_ret
        exact ⟨rfl, HL.out⟩
      · skip
        by_cases q1 : wx < -1048576
        · skip
          clear I
          go_wp2
          go_ret
          exact ⟨rfl, HL.out⟩
        · skip
          by_cases q2 : 1048576 < wy
          · skip
            clear I
            go_wp2
            go_ret
            exact ⟨rfl, HL.out⟩
          · skip
            by_cases q3 : wy < -1048576
            · skip
              clear I
              go_wp2
              go_ret
              exact ⟨rfl, HL.out⟩
            · skip
              have SA := I.out.1 (by omega)
              have SB := I.out.2.1 (by omega)
              have SP := I.out.2.2 (by omega)
              have NA : Pt.near ⟨ax, ay⟩ := by unfold Pt.near Rg; unfold S20 at SA; simp only; omega
              have NB : Pt.near ⟨bx, by'⟩ := by unfold Pt.near Rg; unfold S20 at SB; simp only; omega
              have NP : Pt.near ⟨px, py⟩ := by unfold Pt.near Rg; unfold S20 at SP; simp only; omega
              have NM : Pt.near ⟨px + wx, py + wy⟩ := by unfold Pt.near Rg; unfold S20 at SP; simp only; omega
              have NQ : Pt.near ⟨px + 3 * wx, py + 3 * wy⟩ := by unfold Pt.near Rg; unfold S20 at SP; simp only; omega
              have CUT := cross_cut (a := ⟨ax, ay⟩) (b := ⟨bx, by'⟩) (p := ⟨px, py⟩) (w := ⟨wx, wy⟩) NA NB NP NM NQ
              unfold S20 at SA SB SP
              obtain ⟨mx, hmx⟩ : ∃ m, px + wx = m := ⟨_, rfl⟩
              obtain ⟨my, hmy⟩ : ∃ m, py + wy = m := ⟨_, rfl⟩
              obtain ⟨tx, htx⟩ : ∃ m, 3 * wx = m := ⟨_, rfl⟩
              obtain ⟨ty, hty⟩ : ∃ m, 3 * wy = m := ⟨_, rfl⟩
              obtain ⟨qx, hqx⟩ : ∃ m, px + tx = m := ⟨_, rfl⟩
              obtain ⟨qy, hqy⟩ : ∃ m, py + ty = m := ⟨_, rfl⟩
              simp only [hmx, hmy, htx, hty, hqx, hqy] at CUT
              have f1 : IntKind.i64.wrap (px + wx) = mx := by rw [hmx]; exact IntWalk.i64_in _ (by omega)
              have f2 : IntKind.i64.wrap (py + wy) = my := by rw [hmy]; exact IntWalk.i64_in _ (by omega)
              have f3 : IntKind.i64.wrap (3 * wx) = tx := by rw [htx]; exact IntWalk.i64_in _ (by omega)
              have f4 : IntKind.i64.wrap (3 * wy) = ty := by rw [hty]; exact IntWalk.i64_in _ (by omega)
              have f5 : IntKind.i64.wrap (px + tx) = qx := by rw [hqx]; exact IntWalk.i64_in _ (by omega)
              have f6 : IntKind.i64.wrap (py + ty) = qy := by rw [hqy]; exact IntWalk.i64_in _ (by omega)
              have g1 : wrap64 (px + wx) = mx := by unfold wrap64; omega
              have g2 : wrap64 (py + wy) = my := by unfold wrap64; omega
              have g3 : wrap64 (3 * wx) = tx := by unfold wrap64; omega
              have g4 : wrap64 (3 * wy) = ty := by unfold wrap64; omega
              have g5 : wrap64 (px + tx) = qx := by unfold wrap64; omega
              have g6 : wrap64 (py + ty) = qy := by unfold wrap64; omega
              have X1 := Lib.hid (fun (W : World) => HC.out.cross ax ay bx by' px py qx qy W)
              have X2 := Lib.hid (fun (W : World) => HC.out.cross ax ay bx by' px py mx my W)
              have X3 := Lib.hid (fun (W : World) => HC.out.cross ax ay bx by' mx my qx qy W)
              generalize crossN ⟨ax, ay⟩ ⟨bx, by'⟩ ⟨px, py⟩ ⟨qx, qy⟩ = n1 at *
              generalize crossN ⟨ax, ay⟩ ⟨bx, by'⟩ ⟨px, py⟩ ⟨mx, my⟩ = n2 at *
              generalize crossN ⟨ax, ay⟩ ⟨bx, by'⟩ ⟨mx, my⟩ ⟨qx, qy⟩ = n3 at *
              generalize crossP ⟨ax, ay⟩ ⟨bx, by'⟩ ⟨px, py⟩ ⟨qx, qy⟩ = r1 at *
              generalize crossP ⟨ax, ay⟩ ⟨bx, by'⟩ ⟨px, py⟩ ⟨mx, my⟩ = r2 at *
              generalize crossP ⟨ax, ay⟩ ⟨bx, by'⟩ ⟨mx, my⟩ ⟨qx, qy⟩ = r3 at *
              obtain ⟨U1, U2⟩ := CUT
              subst U2
              have KI := Lib.hid U1
              clear U1 I SA SB SP NA NB NP NM NQ hmx hmy htx hty hqx hqy hi hk
              have z2 : w.heap.size < wr.heap.size + 1 := by omega
              have z3 : w.heap.size < wr.heap.size + 1 + 1 := by omega
              have z4 : w.heap.size + 1 < wr.heap.size + 1 := by omega
              have z5 : w.heap.size + 1 < wr.heap.size + 1 + 1 := by omega
              go_wp2_with fail
              refine calls_gen (S := fun W => St w W [(wr.heap.size + 1 + 1, [.int .i64 qx, .int .i64 qy]), (wr.heap.size + 1, [.int .i64 mx, .int .i64 my]), (wr.heap.size, [.int .i64 px, .int .i64 py]), (w.heap.size, [.int .i64 ax, .int .i64 ay, .int .i64 bx, .int .i64 by', .int .i64 px, .int .i64 py])]) (St.cons (BW.new _ _ [_, _] _ (by simp)) (St.cons ((BW.new _ _ [_, _] _ (by simp)).alloc _) (St.cons (((BW.new wr _ [_, _] _ rfl).alloc _).alloc _) (St.cons (((HB1.out.alloc _).alloc _).alloc _) (St.nil (by have := HL.out; repeat (first | exact Below.refl _ _ | assumption | refine Below.setCell ?_ (by first | omega | (simp; done) | (simp; omega)) _ | refine Below.alloc ?_ (by first | omega | (simp; done) | (simp; omega)) _ | refine below_drewN ?_ _ | refine Below.drew ?_ | refine Below.trans ?_ (Below.mono (by assumption) (by first | omega | (simp; done) | (simp; omega)))))))))) (fun W2 hS => ?_)
              clear c0 c1 c2 c3 c4 c5 d0 d1 HB1 HB2 f1 f2 f3 f4 f5 f6 g1 g2 g3 g4 g5 g6 q0 q1 q2 q3 HL z1 z2 z3 z4 z5
              generalize wr.heap.size = n0 at *
              have K0 := Lib.hid hS
              clear hS
              refine (X1.out _).mono ?_
              rintro e w1 ⟨rfl, h⟩
              have K1 := Lib.hid (K0.out.step h)
              clear h K0
              obtain ⟨e0, e1⟩ := (K1.out.b (n0 + 1 + 1) [.int .i64 qx, .int .i64 qy] (by simp)).h2'
              obtain ⟨e2, e3⟩ := (K1.out.b (n0 + 1) [.int .i64 mx, .int .i64 my] (by simp)).h2'
              obtain ⟨e4, e5⟩ := (K1.out.b n0 [.int .i64 px, .int .i64 py] (by simp)).h2'
              obtain ⟨c0, c1, c2, c3, c4, c5⟩ := (K1.out.b w.heap.size [.int .i64 ax, .int .i64 ay, .int .i64 bx, .int .i64 by', .int .i64 px, .int .i64 py] (by simp)).h6
              go_wp2_with fail
              refine (X2.out _).mono ?_
              clear e0 e1 e2 e3 e4 e5 c0 c1 c2 c3 c4 c5
              rintro e w2 ⟨rfl, h⟩
              have K2 := Lib.hid (K1.out.step h)
              clear h K1
              obtain ⟨e0, e1⟩ := (K2.out.b (n0 + 1 + 1) [.int .i64 qx, .int .i64 qy] (by simp)).h2'
              obtain ⟨e2, e3⟩ := (K2.out.b (n0 + 1) [.int .i64 mx, .int .i64 my] (by simp)).h2'
              obtain ⟨e4, e5⟩ := (K2.out.b n0 [.int .i64 px, .int .i64 py] (by simp)).h2'
              obtain ⟨c0, c1, c2, c3, c4, c5⟩ := (K2.out.b w.heap.size [.int .i64 ax, .int .i64 ay, .int .i64 bx, .int .i64 by', .int .i64 px, .int .i64 py] (by simp)).h6
              go_wp2_with fail
              refine (X3.out _).mono ?_
              clear e0 e1 e2 e3 e4 e5 c0 c1 c2 c3 c4 c5
              rintro e w3 ⟨rfl, h⟩
              have K3 := Lib.hid (K2.out.step h)
              clear h K2
              clear X1 X2 X3
              cases r2 with
              | false =>
                cases r3 with
                | false =>
                  go_wp2_with fail
                  refine (planeAwake_any HC.out _).mono ?_
                  rintro e w9 ⟨rfl, h⟩
                  have L9 := Lib.hid (K3.out.l.trans (h.mono K3.out.l.size))
                  go_wp2
                  go_ret
                  exact ⟨by simp, L9.out⟩
                | true =>
                  go_wp2_with fail
                  refine (planeAwake_any HC.out _).mono ?_
                  rintro e w9 ⟨rfl, h⟩
                  have L9 := Lib.hid (K3.out.l.trans (h.mono K3.out.l.size))
                  go_wp2
                  go_ret
                  exact ⟨by simp, L9.out⟩
              | true =>
                cases r3 with
                | false =>
                  go_wp2_with fail
                  refine (planeAwake_any HC.out _).mono ?_
                  rintro e w9 ⟨rfl, h⟩
                  have L9 := Lib.hid (K3.out.l.trans (h.mono K3.out.l.size))
                  go_wp2
                  go_ret
                  exact ⟨by simp, L9.out⟩
                | true => exact absurd KI.out (by simp)
end Go.Proofs.Ytmfmdipejlnmfaa
