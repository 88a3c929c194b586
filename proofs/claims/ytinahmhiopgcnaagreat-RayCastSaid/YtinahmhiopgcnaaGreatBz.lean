/- The contract of the document's Mul for fx. -/
import Derived.Test.YtinahmhiopgcnaaGreatBn
import Derived.Test.YtinahmhiopgcnaaGreatBy
import Derived.Test.YtinahmhiopgcnaaGreatBf
import Derived.LoopN
namespace Go.Proofs.YtinahmhiopgcnaaGreat
open Go.RowKit

theorem idx0 (p q r s : Value) (w : World) : (Instr.index 119 (.agg #[p, q, r, s]) (.int .i64 0)).run Tryz.prog w = .ok p w := by kernel_rfl
theorem idx1 (p q r s : Value) (w : World) : (Instr.index 119 (.agg #[p, q, r, s]) (.int .i64 1)).run Tryz.prog w = .ok q w := by kernel_rfl
theorem idx2 (p q r s : Value) (w : World) : (Instr.index 119 (.agg #[p, q, r, s]) (.int .i64 2)).run Tryz.prog w = .ok r w := by kernel_rfl
theorem idx3 (p q r s : Value) (w : World) : (Instr.index 119 (.agg #[p, q, r, s]) (.int .i64 3)).run Tryz.prog w = .ok s w := by kernel_rfl
set_option maxRecDepth 100000 in
set_option maxHeartbeats 8000000 in
theorem rfMul_any (x y : Int) (b k : Nat) (o : Bool) (w : World) (x0' : -9223372036854775808 ≤ x) (x1' : x ≤ 9223372036854775807) (y0' : -9223372036854775808 ≤ y) (y1' : y ≤ 9223372036854775807) (m : MAt w b k o) :
    Calls Tryz.prog 46 #[.pointer (some ⟨b, k, none⟩), .int .i64 x, .int .i64 y] w fun e w' => e = .returned (.int .i64 (mulF x y)) ∧ FxW w.heap.size w b k (o || mulO x y) w' := by
  have HM := Lib.hid m
  clear m
  have E := mulF_eq x y
  obtain ⟨X, hX⟩ : ∃ X : Int, (x.natAbs : Int) = X := ⟨_, rfl⟩
  obtain ⟨Y, hY⟩ : ∃ Y : Int, (y.natAbs : Int) = Y := ⟨_, rfl⟩
  have X0 : 0 ≤ X := by omega
  have X1 : X ≤ 9223372036854775808 := by omega
  have Y0 : 0 ≤ Y := by omega
  have Y1 : Y ≤ 9223372036854775808 := by omega
  obtain ⟨x1, x0, y1, y0, A, B, C, D, R, e1, e2, e3, e4, eR, H⟩ := halves_of X0 X1 Y0 Y1
  rw [hX, hY, eR] at E
  obtain ⟨neg, hneg⟩ : ∃ neg, (!decide (x < 0) == decide (y < 0)) = neg := ⟨_, rfl⟩
  rw [show (decide (x < 0) != decide (y < 0)) = neg from hneg] at E
  have E := Lib.hid E
  obtain ⟨D1, hD1⟩ : ∃ D1, D / 4294967296 = D1 := ⟨_, rfl⟩
  obtain ⟨r, hr⟩ : ∃ r, D % 4294967296 = r := ⟨_, rfl⟩
  obtain ⟨⟨a0, a1⟩, ⟨b0, b1⟩, ⟨c0, c1⟩, ⟨d0, d1⟩, ha, hb, hc, hd, ⟨A0, A1⟩, ⟨B0, B1⟩, ⟨C0, C1⟩, ⟨D0', D1'⟩, hR⟩ := H
  rw [hD1, hr] at hR
  have D10 : 0 ≤ D1 := by omega
  have D11 : D1 ≤ 4294967295 := by omega
  have r0 : 0 ≤ r := by omega
  have r1 : r ≤ 4294967295 := by omega
  have HR := Lib.hid hR
  clear hR eR
  have far : 9223372036854775807 + 1 < R → boundI neg = mulF x y ∧ mulO x y = true := fun h => by
    have e := E.out
    rw [e.1, e.2]
    cases neg with
    | true => exact clip_low (by unfold sgnW; rw [if_pos rfl]; omega)
    | false => exact clip_high (by unfold sgnW; rw [if_neg (by decide)]; omega)
  have FAR := Lib.hid far
  clear far
  by_cases q0 : 4294967296 ≤ A
  · have K := Lib.hid (FAR.out (by have := HR.out; omega))
    have i0 := idx0
    have i1 := idx1
    have i2 := idx2
    have i3 := idx3
    go_enter Tryz.func46, Tryz.ntmps46
    go_wp2_with fail
    refine (Size_any x _ x0' x1').mono ?_
    rintro e w1 ⟨rfl, rfl⟩
    go_wp2_with fail
    refine (Size_any y _ y0' y1').mono ?_
    rintro e w1 ⟨rfl, rfl⟩
    go_wp2_with fail
    go_wp2_with fail
    refine (rbound_any b k o _ _ HM.out).mono ?_
    rintro e w3 ⟨rfl, rfl⟩
    go_wp2
    go_ret
    exact ⟨retI K.out.1, by rw [K.out.2, Bool.or_true]; exact FxW.put'⟩
  · obtain ⟨P0, hP0⟩ : ∃ P0, A * 4294967296 = P0 := ⟨_, rfl⟩
    have P00 : 0 ≤ P0 := by omega
    by_cases q1 : 18446744073709551615 < P0 + B
    · have K := Lib.hid (FAR.out (by have := HR.out; omega))
      obtain ⟨v, hv⟩ : ∃ v, IntKind.u64.wrap (P0 + B) = v := ⟨_, rfl⟩
      have tv : v < P0 := by rw [IntKind.wrap_u64] at hv; omega
      have i0 := idx0
      have i1 := idx1
      have i2 := idx2
      have i3 := idx3
      go_enter Tryz.func46, Tryz.ntmps46
      go_wp2_with fail
      refine (Size_any x _ x0' x1').mono ?_
      rintro e w1 ⟨rfl, rfl⟩
      go_wp2_with fail
      refine (Size_any y _ y0' y1').mono ?_
      rintro e w1 ⟨rfl, rfl⟩
      go_wp2_with fail
      refine wp_loop_rounds 5 ?_
      rw [rounds_succ]
      go_wp2_with fail
      go_wp2_with fail
      refine (rbound_any b k o _ _ HM.out).mono ?_
      rintro e w3 ⟨rfl, rfl⟩
      go_wp2
      go_ret
      exact ⟨retI K.out.1, by rw [K.out.2, Bool.or_true]; exact FxW.put'⟩
    · obtain ⟨P1, hP1⟩ : ∃ P1, P0 + B = P1 := ⟨_, rfl⟩
      have P10 : P0 ≤ P1 := by omega
      by_cases q2 : 18446744073709551615 < P1 + C
      · have K := Lib.hid (FAR.out (by have := HR.out; omega))
        obtain ⟨v, hv⟩ : ∃ v, IntKind.u64.wrap (P1 + C) = v := ⟨_, rfl⟩
        have tv : v < P1 := by rw [IntKind.wrap_u64] at hv; omega
        have i0 := idx0
        have i1 := idx1
        have i2 := idx2
        have i3 := idx3
        go_enter Tryz.func46, Tryz.ntmps46
        go_wp2_with fail
        refine (Size_any x _ x0' x1').mono ?_
        rintro e w1 ⟨rfl, rfl⟩
        go_wp2_with fail
        refine (Size_any y _ y0' y1').mono ?_
        rintro e w1 ⟨rfl, rfl⟩
        go_wp2_with fail
        refine wp_loop_rounds 5 ?_
        rw [rounds_succ]
        go_wp2_with fail
        rw [rounds_succ]
        go_wp2_with fail
        go_wp2_with fail
        refine (rbound_any b k o _ _ HM.out).mono ?_
        rintro e w3 ⟨rfl, rfl⟩
        go_wp2
        go_ret
        exact ⟨retI K.out.1, by rw [K.out.2, Bool.or_true]; exact FxW.put'⟩
      · obtain ⟨P2, hP2⟩ : ∃ P2, P1 + C = P2 := ⟨_, rfl⟩
        have P20 : P1 ≤ P2 := by omega
        by_cases q3 : 18446744073709551615 < P2 + D1
        · have K := Lib.hid (FAR.out (by have := HR.out; omega))
          obtain ⟨v, hv⟩ : ∃ v, IntKind.u64.wrap (P2 + D1) = v := ⟨_, rfl⟩
          have tv : v < P2 := by rw [IntKind.wrap_u64] at hv; omega
          have i0 := idx0
          have i1 := idx1
          have i2 := idx2
          have i3 := idx3
          go_enter Tryz.func46, Tryz.ntmps46
          go_wp2_with fail
          refine (Size_any x _ x0' x1').mono ?_
          rintro e w1 ⟨rfl, rfl⟩
          go_wp2_with fail
          refine (Size_any y _ y0' y1').mono ?_
          rintro e w1 ⟨rfl, rfl⟩
          go_wp2_with fail
          refine wp_loop_rounds 5 ?_
          rw [rounds_succ]
          go_wp2_with fail
          rw [rounds_succ]
          go_wp2_with fail
          rw [rounds_succ]
          go_wp2_with fail
          go_wp2_with fail
          refine (rbound_any b k o _ _ HM.out).mono ?_
          rintro e w3 ⟨rfl, rfl⟩
          go_wp2
          go_ret
          exact ⟨retI K.out.1, by rw [K.out.2, Bool.or_true]; exact FxW.put'⟩
        · obtain ⟨P3, hP3⟩ : ∃ P3, P2 + D1 = P3 := ⟨_, rfl⟩
          have P30 : P2 ≤ P3 := by omega
          by_cases q4 : 2147483648 < r
          · have hR : R = P3 + 1 := by have := HR.out; omega
            by_cases q7 : P3 = 18446744073709551615
            · have K := Lib.hid (FAR.out (by omega))
              have hv : IntKind.u64.wrap (P3 + 1) = 0 := by rw [q7]; decide
              have tv : 0 < P3 := by omega
              clear hR q7
              have i0 := idx0
              have i1 := idx1
              have i2 := idx2
              have i3 := idx3
              go_enter Tryz.func46, Tryz.ntmps46
              go_wp2_with fail
              refine (Size_any x _ x0' x1').mono ?_
              rintro e w1 ⟨rfl, rfl⟩
              go_wp2_with fail
              refine (Size_any y _ y0' y1').mono ?_
              rintro e w1 ⟨rfl, rfl⟩
              go_wp2_with fail
              refine wp_loop_rounds 5 ?_
              rw [rounds_succ]
              go_wp2_with fail
              rw [rounds_succ]
              go_wp2_with fail
              rw [rounds_succ]
              go_wp2_with fail
              rw [rounds_succ]
              go_wp2_with fail
              go_wp2_with fail
              refine (rbound_any b k o _ _ HM.out).mono ?_
              rintro e w3 ⟨rfl, rfl⟩
              go_wp2
              go_ret
              exact ⟨retI K.out.1, by rw [K.out.2, Bool.or_true]; exact FxW.put'⟩
            · have q8 : P3 ≤ 18446744073709551614 := by omega
              replace hR : P3 + 1 = R := hR.symm
              have R0 : 0 ≤ R := by omega
              have R1 : R ≤ 18446744073709551615 := by omega
              have R2 : P3 ≤ R := by omega
              have i0 := idx0
              have i1 := idx1
              have i2 := idx2
              have i3 := idx3
              go_enter Tryz.func46, Tryz.ntmps46
              go_wp2_with fail
              refine (Size_any x _ x0' x1').mono ?_
              rintro e w1 ⟨rfl, rfl⟩
              go_wp2_with fail
              refine (Size_any y _ y0' y1').mono ?_
              rintro e w1 ⟨rfl, rfl⟩
              go_wp2_with fail
              refine wp_loop_rounds 5 ?_
              rw [rounds_succ]
              go_wp2_with fail
              rw [rounds_succ]
              go_wp2_with fail
              rw [rounds_succ]
              go_wp2_with fail
              rw [rounds_succ]
              go_wp2_with fail
              rw [rounds_succ]
              go_wp2_with fail
              refine (rsigned_any R b k o neg _ (by omega) (by omega) HM.out).mono ?_
              rintro e w3 ⟨rfl, h3⟩
              go_wp2
              go_ret
              exact ⟨retI E.out.1.symm, by rw [E.out.2]; exact h3⟩
          · by_cases q5 : r = 2147483648
            · have t : (r == 2147483648) = true := by simp; exact q5
              by_cases q6 : P3 % 2 = 1
              · have u : (P3 % 2 == 1) = true := by simp; exact q6
                have hR : R = P3 + 1 := by have := HR.out; omega
                clear q6
                by_cases q7 : P3 = 18446744073709551615
                · have K := Lib.hid (FAR.out (by omega))
                  have hv : IntKind.u64.wrap (P3 + 1) = 0 := by rw [q7]; decide
                  have tv : 0 < P3 := by omega
                  clear hR q7
                  have i0 := idx0
                  have i1 := idx1
                  have i2 := idx2
                  have i3 := idx3
                  go_enter Tryz.func46, Tryz.ntmps46
                  go_wp2_with fail
                  refine (Size_any x _ x0' x1').mono ?_
                  rintro e w1 ⟨rfl, rfl⟩
                  go_wp2_with fail
                  refine (Size_any y _ y0' y1').mono ?_
                  rintro e w1 ⟨rfl, rfl⟩
                  go_wp2_with fail
                  refine wp_loop_rounds 5 ?_
                  rw [rounds_succ]
                  go_wp2_with fail
                  rw [rounds_succ]
                  go_wp2_with fail
                  rw [rounds_succ]
                  go_wp2_with fail
                  rw [rounds_succ]
                  go_wp2_with fail
                  go_wp2_with fail
                  refine (rbound_any b k o _ _ HM.out).mono ?_
                  rintro e w3 ⟨rfl, rfl⟩
                  go_wp2
                  go_ret
                  exact ⟨retI K.out.1, by rw [K.out.2, Bool.or_true]; exact FxW.put'⟩
                · have q8 : P3 ≤ 18446744073709551614 := by omega
                  replace hR : P3 + 1 = R := hR.symm
                  have R0 : 0 ≤ R := by omega
                  have R1 : R ≤ 18446744073709551615 := by omega
                  have R2 : P3 ≤ R := by omega
                  have i0 := idx0
                  have i1 := idx1
                  have i2 := idx2
                  have i3 := idx3
                  go_enter Tryz.func46, Tryz.ntmps46
                  go_wp2_with fail
                  refine (Size_any x _ x0' x1').mono ?_
                  rintro e w1 ⟨rfl, rfl⟩
                  go_wp2_with fail
                  refine (Size_any y _ y0' y1').mono ?_
                  rintro e w1 ⟨rfl, rfl⟩
                  go_wp2_with fail
                  refine wp_loop_rounds 5 ?_
                  rw [rounds_succ]
                  go_wp2_with fail
                  rw [rounds_succ]
                  go_wp2_with fail
                  rw [rounds_succ]
                  go_wp2_with fail
                  rw [rounds_succ]
                  go_wp2_with fail
                  rw [rounds_succ]
                  go_wp2_with fail
                  refine (rsigned_any R b k o neg _ (by omega) (by omega) HM.out).mono ?_
                  rintro e w3 ⟨rfl, h3⟩
                  go_wp2
                  go_ret
                  exact ⟨retI E.out.1.symm, by rw [E.out.2]; exact h3⟩
              · have u : (P3 % 2 == 1) = false := by simp; omega
                have hR : R = P3 := by have := HR.out; omega
                clear q6
                subst hR
                have i0 := idx0
                have i1 := idx1
                have i2 := idx2
                have i3 := idx3
                go_enter Tryz.func46, Tryz.ntmps46
                go_wp2_with fail
                refine (Size_any x _ x0' x1').mono ?_
                rintro e w1 ⟨rfl, rfl⟩
                go_wp2_with fail
                refine (Size_any y _ y0' y1').mono ?_
                rintro e w1 ⟨rfl, rfl⟩
                go_wp2_with fail
                refine wp_loop_rounds 5 ?_
                rw [rounds_succ]
                go_wp2_with fail
                rw [rounds_succ]
                go_wp2_with fail
                rw [rounds_succ]
                go_wp2_with fail
                rw [rounds_succ]
                go_wp2_with fail
                rw [rounds_succ]
                go_wp2_with fail
                refine (rsigned_any R b k o neg _ (by omega) (by omega) HM.out).mono ?_
                rintro e w3 ⟨rfl, h3⟩
                go_wp2
                go_ret
                exact ⟨retI E.out.1.symm, by rw [E.out.2]; exact h3⟩
            · have t : (r == 2147483648) = false := by simp; exact q5
              have hR : R = P3 := by have := HR.out; omega
              subst hR
              have i0 := idx0
              have i1 := idx1
              have i2 := idx2
              have i3 := idx3
              go_enter Tryz.func46, Tryz.ntmps46
              go_wp2_with fail
              refine (Size_any x _ x0' x1').mono ?_
              rintro e w1 ⟨rfl, rfl⟩
              go_wp2_with fail
              refine (Size_any y _ y0' y1').mono ?_
              rintro e w1 ⟨rfl, rfl⟩
              go_wp2_with fail
              refine wp_loop_rounds 5 ?_
              rw [rounds_succ]
              go_wp2_with fail
              rw [rounds_succ]
              go_wp2_with fail
              rw [rounds_succ]
              go_wp2_with fail
              rw [rounds_succ]
              go_wp2_with fail
              rw [rounds_succ]
              go_wp2_with fail
              refine (rsigned_any R b k o neg _ (by omega) (by omega) HM.out).mono ?_
              rintro e w3 ⟨rfl, h3⟩
              go_wp2
              go_ret
              exact ⟨retI E.out.1.symm, by rw [E.out.2]; exact h3⟩
end Go.Proofs.YtinahmhiopgcnaaGreat
namespace Go.Proofs.YtinahmhiopgcnaaGreat
open Go.RowKit

set_option maxRecDepth 100000 in
set_option maxHeartbeats 4000000 in
theorem rover_any (x y : Int) (w : World) (x0 : 0 ≤ x) (x1 : x ≤ 9223372036854775808) (y0 : 0 < y) (y1 : y ≤ 9223372036854775808) :
    Calls Tryz.prog 73 #[.int .u64 x, .int .u64 y] w fun e w' => e = .returned (.tuple #[.int .u64 (ovQ (x * 4294967296) y), .bool (ovB (x * 4294967296) y)]) ∧ w' = w := by
  obtain ⟨N, hN⟩ : ∃ N, x * 4294967296 = N := ⟨_, rfl⟩
  rw [hN]
  have N0 : 0 ≤ N := by omega
  have ST := Lib.hid (OvR.start (N := N) (y := y) N0 (by omega) y0)
  have HB : Hid (∀ s : Nat, x / ((2 ^ s : Nat) : Int) % 2 = ovBit N (s + 32)) := fun s => by rw [← hN]; exact ovBit_high x s
  have HL : Hid (∀ v : Int, 0 ≤ v → v < 32 → (0 : Int) = ovBit N v) := fun v h0 h1 => by rw [← hN]; exact ovBit_low x v h0 h1
  have HN0 := Lib.hid N0
  clear hN N0
  go_enter Tryz.func73, Tryz.ntmps73
  go_wp2
  go_loop [6, 7, 8] (fun q r i => ∃ v qq rr : Int, i = .int .i64 v ∧ q = .int .u64 qq ∧ r = .int .u64 rr ∧ OvR N y v qq rr) (fun _ _ i => (intOf i + 1).toNat)
  case atStart => exact ⟨95, 0, 0, rfl, rfl, rfl, ST.out⟩
  case round =>
    obtain ⟨v, q, r, rfl, rfl, rfl, K⟩ := hrel
    have v0 := K.v0
    have v1 := K.v1
    have q0 := K.q0
    have q1 := K.q1
    have r0 := K.r0
    have r1 := K.r1
    have HK := Lib.hid K
    clear K
    by_cases hv : 0 ≤ v
    · by_cases far : 9223372036854775808 ≤ q
      · have KN := Lib.hid (ov_no (HK.out.no HN0.out hv far))
        by_cases hs : 32 ≤ v
        ·
          obtain ⟨s, hs⟩ : ∃ s : Nat, v = s + 32 := ⟨(v - 32).toNat, by omega⟩
          subst hs
          obtain ⟨bt, hbt⟩ : ∃ bt, (x / 2 ^ s).tmod 2 = bt := ⟨_, rfl⟩
          have HBT := Lib.hid (show bt = ovBit N (s + 32) by rw [← hbt, Int.tmod_eq_emod_of_nonneg (Int.ediv_nonneg x0 (Int.le_of_lt (Int.pow_pos (by omega)))), ← HB.out s]; simp)
          have bt0 : 0 ≤ bt := by rw [HBT.out]; exact (ovBit_bd _ _).1
          have bt1 : bt ≤ 1 := by rw [HBT.out]; exact (ovBit_bd _ _).2
          go_wp2
          go_ret2
          exact ⟨retIB KN.out.1 KN.out.2, rfl⟩
        · go_wp2
          go_ret2
          exact ⟨retIB KN.out.1 KN.out.2, rfl⟩
      · by_cases hs : 32 ≤ v
        ·
          obtain ⟨s, hs⟩ : ∃ s : Nat, v = s + 32 := ⟨(v - 32).toNat, by omega⟩
          subst hs
          obtain ⟨bt, hbt⟩ : ∃ bt, (x / 2 ^ s).tmod 2 = bt := ⟨_, rfl⟩
          have HBT := Lib.hid (show bt = ovBit N (s + 32) by rw [← hbt, Int.tmod_eq_emod_of_nonneg (Int.ediv_nonneg x0 (Int.le_of_lt (Int.pow_pos (by omega)))), ← HB.out s]; simp)
          have bt0 : 0 ≤ bt := by rw [HBT.out]; exact (ovBit_bd _ _).1
          have bt1 : bt ≤ 1 := by rw [HBT.out]; exact (ovBit_bd _ _).2
          by_cases c : 2 * r + bt < y
          · have KL := Lib.hid (HK.out.lo hv (by omega) HBT.out c)
            go_wp2
            go_round
            case rel => exact ⟨s + 32 - 1, 2 * q, 2 * r + bt, by go_num, by go_num, by go_num, KL.out⟩
            case measure => simp [intOf]; omega
          · have KL := Lib.hid (HK.out.hi hv (by omega) HBT.out c)
            go_wp2
            go_round
            case rel => exact ⟨s + 32 - 1, 2 * q + 1, 2 * r + bt - y, by go_num, by go_num, by go_num, KL.out⟩
            case measure => simp [intOf]; omega
        · have HBT := Lib.hid (HL.out v hv (by omega))
          by_cases c : 2 * r < y
          · have KL := Lib.hid (HK.out.lo hv (by omega) HBT.out (by omega))
            rw [Int.add_zero] at KL
            go_wp2
            go_round
            case rel => exact ⟨v - 1, 2 * q, 2 * r, by go_num, by go_num, by go_num, KL.out⟩
            case measure => simp [intOf]; omega
          · have KL := Lib.hid (HK.out.hi hv (by omega) HBT.out (by omega))
            rw [Int.add_zero] at KL
            go_wp2
            go_round
            case rel => exact ⟨v - 1, 2 * q + 1, 2 * r - y, by go_num, by go_num, by go_num, KL.out⟩
            case measure => simp [intOf]; omega
    · obtain rfl : v = -1 := by omega
      have D := Lib.hid HK.out.done
      clear hv
      by_cases c : y - r < r
      · have hq := Lib.hid (rnd_up (n := N) (d := y) (by rw [D.out.2]; omega))
        rw [D.out.1] at hq
        by_cases c4 : q = 18446744073709551615
        · have KN := Lib.hid (ov_no (N := N) (y := y) (by have := hq.out; omega))
          have hv : IntKind.u64.wrap (q + 1) = 0 := by rw [c4]; decide
          clear c4
          go_wp2
          go_ret2
          exact ⟨retIB KN.out.1 KN.out.2, rfl⟩
        · have KN := Lib.hid (ov_yes hq.out (by omega))
          have q3 : q ≤ 18446744073709551614 := by omega
          have t5 : (q + 1 == 0) = false := by simp; omega
          clear c4
          go_wp2
          go_ret2
          exact ⟨retIB KN.out.1 KN.out.2, rfl⟩
      · by_cases c2 : r = y - r
        · have t : (r == y - r) = true := by simp; exact c2
          by_cases c3 : q % 2 = 1
          · have t3 : (q % 2 == 1) = true := by simp; exact c3
            have hq := Lib.hid (rnd_up (n := N) (d := y) (by rw [D.out.2, D.out.1]; omega))
            rw [D.out.1] at hq
            clear c3 c2
            by_cases c4 : q = 18446744073709551615
            · have KN := Lib.hid (ov_no (N := N) (y := y) (by have := hq.out; omega))
              have hv : IntKind.u64.wrap (q + 1) = 0 := by rw [c4]; decide
              clear c4
              go_wp2
              go_ret2
              exact ⟨retIB KN.out.1 KN.out.2, rfl⟩
            · have KN := Lib.hid (ov_yes hq.out (by omega))
              have q3 : q ≤ 18446744073709551614 := by omega
              have t5 : (q + 1 == 0) = false := by simp; omega
              clear c4
              go_wp2
              go_ret2
              exact ⟨retIB KN.out.1 KN.out.2, rfl⟩
          · have t3 : (q % 2 == 1) = false := by simp; omega
            have hq := Lib.hid (rnd_down (n := N) (d := y) (by rw [D.out.2, D.out.1]; omega))
            rw [D.out.1] at hq
            clear c3 c2
            have KN := Lib.hid (ov_yes hq.out q1)
            go_wp2
            go_ret2
            exact ⟨retIB KN.out.1 KN.out.2, rfl⟩
        · have t : (r == y - r) = false := by simp; exact c2
          have hq := Lib.hid (rnd_down (n := N) (d := y) (by rw [D.out.2, D.out.1]; omega))
          rw [D.out.1] at hq
          clear c2
          have KN := Lib.hid (ov_yes hq.out q1)
          go_wp2
          go_ret2
          exact ⟨retIB KN.out.1 KN.out.2, rfl⟩
end Go.Proofs.YtinahmhiopgcnaaGreat
namespace Go.Proofs.YtinahmhiopgcnaaGreat
open Go.RowKit

theorem divF_eq {x y : Int} (hy : y ≠ 0) : divF x y = clip64 (sgnW (decide (x < 0) != decide (y < 0)) (rndN ((x.natAbs : Int) * 4294967296) y.natAbs)) ∧ divO x y = out64 (sgnW (decide (x < 0) != decide (y < 0)) (rndN ((x.natAbs : Int) * 4294967296) y.natAbs)) := by
  unfold divF divO quoF quoO
  rw [if_neg hy, if_neg hy, rq_div]
  exact ⟨rfl, rfl⟩
theorem divF_zero (x : Int) : divF x 0 = satS x ∧ divO x 0 = true := by
  unfold divF divO quoF quoO
  rw [if_pos rfl, if_pos rfl]
  refine ⟨?_, rfl⟩
  unfold satS
  by_cases p : 0 < x
  · rw [if_pos (by omega), if_pos p]
  · rw [if_neg (by omega), if_neg p]
    by_cases q : x < 0
    · rw [if_pos (by omega), if_pos q]
    · rw [if_neg (by omega), if_neg q]
set_option maxRecDepth 100000 in
set_option maxHeartbeats 4000000 in
theorem rfDiv_any (x y : Int) (b k : Nat) (o : Bool) (w : World) (x0' : -9223372036854775808 ≤ x) (x1' : x ≤ 9223372036854775807) (y0' : -9223372036854775808 ≤ y) (y1' : y ≤ 9223372036854775807) (m : MAt w b k o) :
    Calls Tryz.prog 49 #[.pointer (some ⟨b, k, none⟩), .int .i64 x, .int .i64 y] w fun e w' => e = .returned (.int .i64 (divF x y)) ∧ FxW w.heap.size w b k (o || divO x y) w' := by
  have HM := Lib.hid m
  have mc := m.c
  have mf := m.f
  by_cases hy : y = 0
  · subst hy
    have E := Lib.hid (divF_zero x)
    by_cases p : x = 0
    · subst p
      have K := Lib.hid (show (0 : Int) = divF 0 0 from E.out.1.symm)
      clear m
      go_enter Tryz.func49, Tryz.ntmps49
      go_wp2
      go_ret
      exact ⟨retI K.out, by rw [E.out.2, Bool.or_true]; exact FxW.put'⟩
    · have t : (x == 0) = false := by simp; exact p
      have H1 := Lib.hid (show FxW w.heap.size w b k true (w.setCell ⟨b, k, none⟩ (.bool true)) from FxW.put')
      have M1 := Lib.hid (H1.out.at HM.out m.lt)
      clear m
      by_cases q : x < 0
      · have K := Lib.hid (show boundI true = divF x 0 by rw [E.out.1]; unfold satS; rw [if_neg (by omega), if_pos q]; rfl)
        have tq : decide (x < 0) = true := by rw [decide_eq_true_iff]; exact q
        clear p
        go_enter Tryz.func49, Tryz.ntmps49
        go_wp2_with fail
        refine (rbound_any b k true _ _ M1.out).mono ?_
        rintro e w3 ⟨rfl, rfl⟩
        go_wp2
        go_ret
        exact ⟨retI K.out, by rw [E.out.2, Bool.or_true, set_set]; exact FxW.put'⟩
      · have K := Lib.hid (show boundI false = divF x 0 by rw [E.out.1]; unfold satS; rw [if_pos (by omega)]; rfl)
        have tq : decide (x < 0) = false := by rw [decide_eq_false_iff_not]; exact q
        clear p
        go_enter Tryz.func49, Tryz.ntmps49
        go_wp2_with fail
        refine (rbound_any b k true _ _ M1.out).mono ?_
        rintro e w3 ⟨rfl, rfl⟩
        go_wp2
        go_ret
        exact ⟨retI K.out, by rw [E.out.2, Bool.or_true, set_set]; exact FxW.put'⟩
  · have E := divF_eq (x := x) hy
    obtain ⟨X, hX⟩ : ∃ X : Int, (x.natAbs : Int) = X := ⟨_, rfl⟩
    obtain ⟨Y, hY⟩ : ∃ Y : Int, (y.natAbs : Int) = Y := ⟨_, rfl⟩
    have X0 : 0 ≤ X := by omega
    have X1 : X ≤ 9223372036854775808 := by omega
    have Y0 : 0 < Y := by omega
    have Y1 : Y ≤ 9223372036854775808 := by omega
    obtain ⟨neg, hneg⟩ : ∃ neg, (!decide (x < 0) == decide (y < 0)) = neg := ⟨_, rfl⟩
    rw [show (decide (x < 0) != decide (y < 0)) = neg from hneg, hX, hY] at E
    have t : (y == 0) = false := by simp; exact hy
    have rn := rndN_nn (n := X * 4294967296) (d := Y) (by omega) Y0
    clear hy m mc mf
    by_cases c : rndN (X * 4294967296) Y ≤ 18446744073709551615
    · have OV := ov_yes (N := X * 4294967296) (y := Y) rfl c
      obtain ⟨R, hR⟩ : ∃ R, rndN (X * 4294967296) Y = R := ⟨_, rfl⟩
      rw [hR] at E OV c rn
      have E1 := Lib.hid E
      have OV1 := Lib.hid OV
      clear hR E OV
      go_enter Tryz.func49, Tryz.ntmps49
      go_wp2_with fail
      refine (Size_any x _ x0' x1').mono ?_
      rintro e w1 ⟨rfl, rfl⟩
      go_wp2_with fail
      refine (Size_any y _ y0' y1').mono ?_
      rintro e w1 ⟨rfl, rfl⟩
      go_wp2_with fail
      refine (rover_any X Y _ X0 X1 Y0 Y1).mono ?_
      rw [← OV1.out.1, ← OV1.out.2]
      rintro e w1 ⟨rfl, rfl⟩
      go_wp2_with fail
      refine (rsigned_any R b k o neg _ rn c HM.out).mono ?_
      rintro e w3 ⟨rfl, h3⟩
      go_wp2
      go_ret
      exact ⟨retI E1.out.1.symm, by rw [E1.out.2]; exact h3⟩
    · have OV := Lib.hid (ov_no (N := X * 4294967296) (y := Y) (by omega))
      have K0 : boundI neg = divF x y ∧ divO x y = true := by
        rw [E.1, E.2]
        cases neg with
        | true => exact clip_low (by unfold sgnW; rw [if_pos rfl]; omega)
        | false => exact clip_high (by unfold sgnW; rw [if_neg (by decide)]; omega)
      have K := Lib.hid K0
      clear E c rn K0
      go_enter Tryz.func49, Tryz.ntmps49
      go_wp2_with fail
      refine (Size_any x _ x0' x1').mono ?_
      rintro e w1 ⟨rfl, rfl⟩
      go_wp2_with fail
      refine (Size_any y _ y0' y1').mono ?_
      rintro e w1 ⟨rfl, rfl⟩
      go_wp2_with fail
      refine (rover_any X Y _ X0 X1 Y0 Y1).mono ?_
      rw [← OV.out.1, ← OV.out.2]
      rintro e w1 ⟨rfl, rfl⟩
      go_wp2_with fail
      refine (rbound_any b k o _ _ HM.out).mono ?_
      rintro e w3 ⟨rfl, rfl⟩
      go_wp2
      go_ret
      exact ⟨retI K.out.1, by rw [K.out.2, Bool.or_true]; exact FxW.put'⟩
end Go.Proofs.YtinahmhiopgcnaaGreat
