/- The contract of the document's Mul for fx. -/
import Derived.Test.YtinahmhiopgcnaaBn
import Derived.Test.YtinahmhiopgcnaaBy
import Derived.Test.YtinahmhiopgcnaaBf
import Derived.LoopN
namespace Go.Proofs.Ytinahmhiopgcnaa
open Go.RowKit

theorem idx0 (p q r s : Value) (w : World) : (Instr.index 126 (.agg #[p, q, r, s]) (.int .i64 0)).run Try.prog w = .ok p w := by kernel_rfl
theorem idx1 (p q r s : Value) (w : World) : (Instr.index 126 (.agg #[p, q, r, s]) (.int .i64 1)).run Try.prog w = .ok q w := by kernel_rfl
theorem idx2 (p q r s : Value) (w : World) : (Instr.index 126 (.agg #[p, q, r, s]) (.int .i64 2)).run Try.prog w = .ok r w := by kernel_rfl
theorem idx3 (p q r s : Value) (w : World) : (Instr.index 126 (.agg #[p, q, r, s]) (.int .i64 3)).run Try.prog w = .ok s w := by kernel_rfl
set_option maxRecDepth 100000 in
set_option maxHeartbeats 8000000 in
theorem rfMul_any (x y : Int) (b k : Nat) (o : Bool) (w : World) (x0' : -9223372036854775808 ≤ x) (x1' : x ≤ 9223372036854775807) (y0' : -9223372036854775808 ≤ y) (y1' : y ≤ 9223372036854775807) (m : MAt w b k o) :
    Calls Try.prog 51 #[.pointer (some ⟨b, k, none⟩), .int .i64 x, .int .i64 y] w fun e w' => e = .returned (.int .i64 (mulF x y)) ∧ FxW w.heap.size w b k (o || mulO x y) w' := by
  have HM := Lib.hid m
  clear m
  have E := mulF_eq x y
  obtain ⟨X, hX⟩ : ∃ X : Int, (x.natAbs : Int) = X := ⟨_, rfl⟩
  obtain ⟨Y, hY⟩ : ∃ Y : Int, (y.natAbs : Int) = Y := ⟨_, rfl⟩
  have X0 : 0 ≤ X := by omega
  have X1 : X ≤ 9223372036854775808 := by omega
  have Y0 : 0 ≤ Y := by omega
  have Y1 : Y ≤ 9223372036854775808 := by omega
  obtain ⟨x1, x0, y1, y0, A, B, C, D, R, e1, e2, e3, e4, eR, H⟩ := halves_of X0 X1 Y0 Y1
  rw [hX, hY, eR] at E
  obtain ⟨neg, hneg⟩ : ∃ neg, (!decide (x < 0) == decide (y < 0)) = neg := ⟨_, rfl⟩
  rw [show (decide (x < 0) != decide (y < 0)) = neg from hneg] at E
  have E := Lib.hid E
  obtain ⟨D1, hD1⟩ : ∃ D1, D / 4294967296 = D1 := ⟨_, rfl⟩
  obtain ⟨r, hr⟩ : ∃ r, D % 4294967296 = r := ⟨_, rfl⟩
  obtain ⟨⟨a0, a1⟩, ⟨b0, b1⟩, ⟨c0, c1⟩, ⟨d0, d1⟩, ha, hb, hc, hd, ⟨A0, A1⟩, ⟨B0, B1⟩, ⟨C0, C1⟩, ⟨D0', D1'⟩, hR⟩ := H
  rw [hD1, hr] at hR
  have D10 : 0 ≤ D1 := by omega
  have D11 : D1 ≤ 4294967295 := by omega
  have r0 : 0 ≤ r := by omega
  have r1 : r ≤ 4294967295 := by omega
  have HR := Lib.hid hR
  clear hR eR
  have far : 9223372036854775807 + 1 < R → boundI neg = mulF x y ∧ mulO x y = true := fun h => by
    have e := E.out
    rw [e.1, e.2]
    cases neg with
    | true => exact clip_low (by unfold sgnW; rw [if_pos rfl]; omega)
    | false => exact clip_high (by unfold sgnW; rw [if_neg (by decide)]; omega)
  have FAR := Lib.hid far
  clear far
  by_cases q0 : 4294967296 ≤ A
  · have K := Lib.hid (FAR.out (by have := HR.out; omega))
    have i0 := idx0
    have i1 := idx1
    have i2 := idx2
    have i3 := idx3
    go_enter Try.func51, Try.ntmps51
    go_wp2_with fail
    refine (Size_any x _ x0' x1').mono ?_
    rintro e w1 ⟨rfl, rfl⟩
    go_wp2_with fail
    refine (Size_any y _ y0' y1').mono ?_
    rintro e w1 ⟨rfl, rfl⟩
    go_wp2_with fail
    go_wp2_with fail
    refine (rbound_any b k o _ _ HM.out).mono ?_
    rintro e w3 ⟨rfl, rfl⟩
    go_wp2
    go_ret
    exact ⟨retI K.out.1, by rw [K.out.2, Bool.or_true]; exact FxW.put'⟩
  · obtain ⟨P0, hP0⟩ : ∃ P0, A * 4294967296 = P0 := ⟨_, rfl⟩
    have P00 : 0 ≤ P0 := by omega
    by_cases q1 : 18446744073709551615 < P0 + B
    · have K := Lib.hid (FAR.out (by have := HR.out; omega))
      obtain ⟨v, hv⟩ : ∃ v, IntKind.u64.wrap (P0 + B) = v := ⟨_, rfl⟩
      have tv : v < P0 := by rw [IntKind.wrap_u64] at hv; omega
      have i0 := idx0
      have i1 := idx1
      have i2 := idx2
      have i3 := idx3
      go_enter Try.func51, Try.ntmps51
      go_wp2_with fail
      refine (Size_any x _ x0' x1').mono ?_
      rintro e w1 ⟨rfl, rfl⟩
      go_wp2_with fail
      refine (Size_any y _ y0' y1').mono ?_
      rintro e w1 ⟨rfl, rfl⟩
      go_wp2_with fail
      refine wp_loop_rounds 5 ?_
      rw [rounds_succ]
      go_wp2_with fail
      go_wp2_with fail
      refine (rbound_any b k o _ _ HM.out).mono ?_
      rintro e w3 ⟨rfl, rfl⟩
      go_wp2
      go_ret
      exact ⟨retI K.out.1, by rw [K.out.2, Bool.or_true]; exact FxW.put'⟩
    · obtain ⟨P1, hP1⟩ : ∃ P1, P0 + B = P1 := ⟨_, rfl⟩
      have P10 : P0 ≤ P1 := by omega
      by_cases q2 : 18446744073709551615 < P1 + C
      · have K := Lib.hid (FAR.out (by have := HR.out; omega))
        obtain ⟨v, hv⟩ : ∃ v, IntKind.u64.wrap (P1 + C) = v := ⟨_, rfl⟩
        have tv : v < P1 := by rw [IntKind.wrap_u64] at hv; omega
        have i0 := idx0
        have i1 := idx1
        have i2 := idx2
        have i3 := idx3
        go_enter Try.func51, Try.ntmps51
        go_wp2_with fail
        refine (Size_any x _ x0' x1').mono ?_
        rintro e w1 ⟨rfl, rfl⟩
        go_wp2_with fail
        refine (Size_any y _ y0' y1').mono ?_
        rintro e w1 ⟨rfl, rfl⟩
        go_wp2_with fail
        refine wp_loop_rounds 5 ?_
        rw [rounds_succ]
        go_wp2_with fail
        rw [rounds_succ]
        go_wp2_with fail
        go_wp2_with fail
        refine (rbound_any b k o _ _ HM.out).mono ?_
        rintro e w3 ⟨rfl, rfl⟩
        go_wp2
        go_ret
        exact ⟨retI K.out.1, by rw [K.out.2, Bool.or_true]; exact FxW.put'⟩
      · obtain ⟨P2, hP2⟩ : ∃ P2, P1 + C = P2 := ⟨_, rfl⟩
        have P20 : P1 ≤ P2 := by omega
        by_cases q3 : 18446744073709551615 < P2 + D1
        · have K := Lib.hid (FAR.out (by have := HR.out; omega))
          obtain ⟨v, hv⟩ : ∃ v, IntKind.u64.wrap (P2 + D1) = v := ⟨_, rfl⟩
          have tv : v < P2 := by rw [IntKind.wrap_u64] at hv; omega
          have i0 := idx0
          have i1 := idx1
          have i2 := idx2
          have i3 := idx3
          go_enter Try.func51, Try.ntmps51
          go_wp2_with fail
          refine (Size_any x _ x0' x1').mono ?_
          rintro e w1 ⟨rfl, rfl⟩
          go_wp2_with fail
          refine (Size_any y _ y0' y1').mono ?_
          rintro e w1 ⟨rfl, rfl⟩
          go_wp2_with fail
          refine wp_loop_rounds 5 ?_
          rw [rounds_succ]
          go_wp2_with fail
          rw [rounds_succ]
          go_wp2_with fail
          rw [rounds_succ]
          go_wp2_with fail
          go_wp2_with fail
          refine (rbound_any b k o _ _ HM.out).mono ?_
          rintro e w3 ⟨rfl, rfl⟩
          go_wp2
          go_ret
          exact ⟨retI K.out.1, by rw [K.out.2, Bool.or_true]; exact FxW.put'⟩
        · obtain ⟨P3, hP3⟩ : ∃ P3, P2 + D1 = P3 := ⟨_, rfl⟩
          have P30 : P2 ≤ P3 := by omega
          by_cases q4 : 2147483648 < r
          · have hR : R = P3 + 1 := by have := HR.out; omega
            by_cases q7 : P3 = 18446744073709551615
            · have K := Lib.hid (FAR.out (by omega))
              have hv : IntKind.u64.wrap (P3 + 1) = 0 := by rw [q7]; decide
              have tv : 0 < P3 := by omega
              clear hR q7
              have i0 := idx0
              have i1 := idx1
              have i2 := idx2
              have i3 := idx3
              go_enter Try.func51, Try.ntmps51
              go_wp2_with fail
              refine (Size_any x _ x0' x1').mono ?_
              rintro e w1 ⟨rfl, rfl⟩
              go_wp2_with fail
              refine (Size_any y _ y0' y1').mono ?_
              rintro e w1 ⟨rfl, rfl⟩
              go_wp2_with fail
              refine wp_loop_rounds 5 ?_
              rw [rounds_succ]
              go_wp2_with fail
              rw [rounds_succ]
              go_wp2_with fail
              rw [rounds_succ]
              go_wp2_with fail
              rw [rounds_succ]
              go_wp2_with fail
              go_wp2_with fail
              refine (rbound_any b k o _ _ HM.out).mono ?_
              rintro e w3 ⟨rfl, rfl⟩
              go_wp2
              go_ret
              exact ⟨retI K.out.1, by rw [K.out.2, Bool.or_true]; exact FxW.put'⟩
            · have q8 : P3 ≤ 18446744073709551614 := by omega
              replace hR : P3 + 1 = R := hR.symm
              have R0 : 0 ≤ R := by omega
              have R1 : R ≤ 18446744073709551615 := by omega
              have R2 : P3 ≤ R := by omega
              have i0 := idx0
              have i1 := idx1
              have i2 := idx2
              have i3 := idx3
              go_enter Try.func51, Try.ntmps51
              go_wp2_with fail
              refine (Size_any x _ x0' x1').mono ?_
              rintro e w1 ⟨rfl, rfl⟩
              go_wp2_with fail
              refine (Size_any y _ y0' y1').mono ?_
              rintro e w1 ⟨rfl, rfl⟩
              go_wp2_with fail
              refine wp_loop_rounds 5 ?_
              rw [rounds_succ]
              go_wp2_with fail
              rw [rounds_succ]
              go_wp2_with fail
              rw [rounds_succ]
              go_wp2_with fail
              rw [rounds_succ]
              go_wp2_with fail
              rw [rounds_succ]
              go_wp2_with fail
              refine (rsigned_any R b k o neg _ (by omega) (by omega) HM.out).mono ?_
              rintro e w3 ⟨rfl, h3⟩
              go_wp2
              go_ret
              exact ⟨retI E.out.1.symm, by rw [E.out.2]; exact h3⟩
          · by_cases q5 : r = 2147483648
            · have t : (r == 2147483648) = true := by simp; exact q5
              by_cases q6 : P3 % 2 = 1
              · have u : (P3 % 2 == 1) = true := by simp; exact q6
                have hR : R = P3 + 1 := by have := HR.out; omega
                clear q6
                by_cases q7 : P3 = 18446744073709551615
                · have K := Lib.hid (FAR.out (by omega))
                  have hv : IntKind.u64.wrap (P3 + 1) = 0 := by rw [q7]; decide
                  have tv : 0 < P3 := by omega
                  clear hR q7
                  have i0 := idx0
                  have i1 := idx1
                  have i2 := idx2
                  have i3 := idx3
                  go_enter Try.func51, Try.ntmps51
                  go_wp2_with fail
                  refine (Size_any x _ x0' x1').mono ?_
                  rintro e w1 ⟨rfl, rfl⟩
                  go_wp2_with fail
                  refine (Size_any y _ y0' y1').mono ?_
                  rintro e w1 ⟨rfl, rfl⟩
                  go_wp2_with fail
                  refine wp_loop_rounds 5 ?_
                  rw [rounds_succ]
                  go_wp2_with fail
                  rw [rounds_succ]
                  go_wp2_with fail
                  rw [rounds_succ]
                  go_wp2_with fail
                  rw [rounds_succ]
                  go_wp2_with fail
                  go_wp2_with fail
                  refine (rbound_any b k o _ _ HM.out).mono ?_
                  rintro e w3 ⟨rfl, rfl⟩
                  go_wp2
                  go_ret
                  exact ⟨retI K.out.1, by rw [K.out.2, Bool.or_true]; exact FxW.put'⟩
                · have q8 : P3 ≤ 18446744073709551614 := by omega
                  replace hR : P3 + 1 = R := hR.symm
                  have R0 : 0 ≤ R := by omega
                  have R1 : R ≤ 18446744073709551615 := by omega
                  have R2 : P3 ≤ R := by omega
                  have i0 := idx0
                  have i1 := idx1
                  have i2 := idx2
                  have i3 := idx3
                  go_enter Try.func51, Try.ntmps51
                  go_wp2_with fail
                  refine (Size_any x _ x0' x1').mono ?_
                  rintro e w1 ⟨rfl, rfl⟩
                  go_wp2_with fail
                  refine (Size_any y _ y0' y1').mono ?_
                  rintro e w1 ⟨rfl, rfl⟩
                  go_wp2_with fail
                  refine wp_loop_rounds 5 ?_
                  rw [rounds_succ]
                  go_wp2_with fail
                  rw [rounds_succ]
                  go_wp2_with fail
                  rw [rounds_succ]
                  go_wp2_with fail
                  rw [rounds_succ]
                  go_wp2_with fail
                  rw [rounds_succ]
                  go_wp2_with fail
                  refine (rsigned_any R b k o neg _ (by omega) (by omega) HM.out).mono ?_
                  rintro e w3 ⟨rfl, h3⟩
                  go_wp2
                  go_ret
                  exact ⟨retI E.out.1.symm, by rw [E.out.2]; exact h3⟩
              · have u : (P3 % 2 == 1) = false := by simp; omega
                have hR : R = P3 := by have := HR.out; omega
                clear q6
                subst hR
                have i0 := idx0
                have i1 := idx1
                have i2 := idx2
                have i3 := idx3
                go_enter Try.func51, Try.ntmps51
                go_wp2_with fail
                refine (Size_any x _ x0' x1').mono ?_
                rintro e w1 ⟨rfl, rfl⟩
                go_wp2_with fail
                refine (Size_any y _ y0' y1').mono ?_
                rintro e w1 ⟨rfl, rfl⟩
                go_wp2_with fail
                refine wp_loop_rounds 5 ?_
                rw [rounds_succ]
                go_wp2_with fail
                rw [rounds_succ]
                go_wp2_with fail
                rw [rounds_succ]
                go_wp2_with fail
                rw [rounds_succ]
                go_wp2_with fail
                rw [rounds_succ]
                go_wp2_with fail
                refine (rsigned_any R b k o neg _ (by omega) (by omega) HM.out).mono ?_
                rintro e w3 ⟨rfl, h3⟩
                go_wp2
                go_ret
                exact ⟨retI E.out.1.symm, by rw [E.out.2]; exact h3⟩
            · have t : (r == 2147483648) = false := by simp; exact q5
              have hR : R = P3 := by have := HR.out; omega
              subst hR
              have i0 := idx0
              have i1 := idx1
              have i2 := idx2
              have i3 := idx3
              go_enter Try.func51, Try.ntmps51
              go_wp2_with fail
              refine (Size_any x _ x0' x1').mono ?_
              rintro e w1 ⟨rfl, rfl⟩
              go_wp2_with fail
              refine (Size_any y _ y0' y1').mono ?_
              rintro e w1 ⟨rfl, rfl⟩
              go_wp2_with fail
              refine wp_loop_rounds 5 ?_
              rw [rounds_succ]
              go_wp2_with fail
              rw [rounds_succ]
              go_wp2_with fail
              rw [rounds_succ]
              go_wp2_with fail
              rw [rounds_succ]
              go_wp2_with fail
              rw [rounds_succ]
              go_wp2_with fail
              refine (rsigned_any R b k o neg _ (by omega) (by omega) HM.out).mono ?_
              rintro e w3 ⟨rfl, h3⟩
              go_wp2
              go_ret
              exact ⟨retI E.out.1.symm, by rw [E.out.2]; exact h3⟩
end Go.Proofs.Ytinahmhiopgcnaa
namespace Go.Proofs.Ytinahmhiopgcnaa
open Go.RowKit

end Go.Proofs.Ytinahmhiopgcnaa
namespace Go.Proofs.Ytinahmhiopgcnaa
open Go.RowKit

theorem divF_eq {x y : Int} (hy : y ≠ 0) : divF x y = clip64 (sgnW (decide (x < 0) != decide (y < 0)) (rndN ((x.natAbs : Int) * 4294967296) y.natAbs)) ∧ divO x y = out64 (sgnW (decide (x < 0) != decide (y < 0)) (rndN ((x.natAbs : Int) * 4294967296) y.natAbs)) := by
  unfold divF divO quoF quoO
  rw [if_neg hy, if_neg hy, rq_div]
  exact ⟨rfl, rfl⟩
theorem divF_zero (x : Int) : divF x 0 = satS x ∧ divO x 0 = true := by
  unfold divF divO quoF quoO
  rw [if_pos rfl, if_pos rfl]
  refine ⟨?_, rfl⟩
  unfold satS
  by_cases p : 0 < x
  · rw [if_pos (by omega), if_pos p]
  · rw [if_neg (by omega), if_neg p]
    by_cases q : x < 0
    · rw [if_pos (by omega), if_pos q]
    · rw [if_neg (by omega), if_neg q]
end Go.Proofs.Ytinahmhiopgcnaa
