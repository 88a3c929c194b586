/- The program's car: the engine, the axles, the aids. -/
import Derived.Test.YtbpmbdnhfkfkhaaW1
namespace Go.Proofs.Ytbpmbdnhfkfkhaa
open Go.RowKit
set_option linter.unusedVariables false
set_option linter.unusedSimpArgs false

set_option maxRecDepth 100000 in
set_option maxHeartbeats 8000000 in
theorem cEngine_any (c : Cr) (w : World) : Calls Try.prog 20 #[.agg (carL c).toArray] w fun e w' => e = .returned (.int .i64 (rCEngineN c)) ∧ Below w.heap.size w w' := by
  have HR : (if ((inC (0) (17179869184) (c.f 52)) && ((inC (67108864) (68719476736) (c.f 53)) && ((inC (137438953472) (2199023255552) (c.f 54)) && ((inC (274877906944) (8796093022208) (c.f 55)) && ((inC (0) (4294967296) (c.f 56)) && ((inC (4294967296) (1099511627776) (c.f 57)) && ((inC (0) (17592186044416) (c.f 58))))))))) = true then (if c.f 55 ≤ c.f 54 then (41 : Int) else 0) else 40) = rCEngineN c := by unfold rCEngineN rCEngineB; rfl
  obtain ⟨R, hR⟩ : ∃ R, rCEngineN c = R := ⟨_, rfl⟩
  rw [hR] at HR ⊢
  have X1 := Lib.hid (fun b cap W (K : BW W b [.int .i64 (c.f 52)]) => cF1 (c.f 52) (0) (17179869184) b cap W K)
  have X2 := Lib.hid (fun b cap W (K : BW W b [.int .i64 (c.f 53)]) => cF1 (c.f 53) (67108864) (68719476736) b cap W K)
  have X3 := Lib.hid (fun b cap W (K : BW W b [.int .i64 (c.f 54)]) => cF1 (c.f 54) (137438953472) (2199023255552) b cap W K)
  have X4 := Lib.hid (fun b cap W (K : BW W b [.int .i64 (c.f 55)]) => cF1 (c.f 55) (274877906944) (8796093022208) b cap W K)
  have X5 := Lib.hid (fun b cap W (K : BW W b [.int .i64 (c.f 56)]) => cF1 (c.f 56) (0) (4294967296) b cap W K)
  have X6 := Lib.hid (fun b cap W (K : BW W b [.int .i64 (c.f 57)]) => cF1 (c.f 57) (4294967296) (1099511627776) b cap W K)
  have X7 := Lib.hid (fun b cap W (K : BW W b [.int .i64 (c.f 58)]) => cF1 (c.f 58) (0) (17592186044416) b cap W K)
  generalize (inC (0) (17179869184) (c.f 52)) = r1 at *
  generalize (inC (67108864) (68719476736) (c.f 53)) = r2 at *
  generalize (inC (137438953472) (2199023255552) (c.f 54)) = r3 at *
  generalize (inC (274877906944) (8796093022208) (c.f 55)) = r4 at *
  generalize (inC (0) (4294967296) (c.f 56)) = r5 at *
  generalize (inC (4294967296) (1099511627776) (c.f 57)) = r6 at *
  generalize (inC (0) (17592186044416) (c.f 58)) = r7 at *
  have HR := Lib.hid HR
  clear hR
  have K0 := Lib.hid (BW.new w _ (carL c) 37 rfl)
  have B0 := Lib.hid ((Below.refl w.heap.size w).alloc (Nat.le_refl _) (.cells (carL c).toArray 37))
  have k52 := K0.out.c 52 _ rfl
  go_enter Try.func20, Try.ntmps20
  go_wp2_with fail
  refine calls_gen (S := fun W => BW W w.heap.size (carL c) ∧ BW W (w.heap.size + 1) [.int .i64 (c.f 52)] ∧ Below w.heap.size w W) ⟨K0.out.alloc _, BW.new _ _ [.int .i64 (c.f 52)] _ (by simp), B0.out.alloc (by simp) _⟩ (fun wx hS => ?_)
  have K1 := Lib.hid hS.1
  have B1 := Lib.hid hS.2.2
  refine (X1.out _ _ _ hS.2.1).mono ?_
  clear hS K0 B0 X1
  rintro e w1 ⟨rfl, rfl⟩
  clear k52
  cases r1 with
  | false =>
    have E := Lib.hid (show (40 : Int) = R from HR.out)
    go_wp2
    go_ret
    exact ⟨retI E.out, B1.out⟩
  | true =>
    have HR := Lib.hid (show (if (r2 && (r3 && (r4 && (r5 && (r6 && (r7)))))) = true then (if c.f 55 ≤ c.f 54 then (41 : Int) else 0) else 40) = R from HR.out)
    have k53 := K1.out.c 53 _ rfl
    go_wp2_with fail
    refine calls_gen (S := fun W => BW W w.heap.size (carL c) ∧ BW W w1.heap.size [.int .i64 (c.f 53)] ∧ Below w.heap.size w W) ⟨K1.out.alloc _, BW.new _ _ [.int .i64 (c.f 53)] _ rfl, B1.out.alloc B1.out.size _⟩ (fun wx hS => ?_)
    have K2 := Lib.hid hS.1
    have B2 := Lib.hid hS.2.2
    refine (X2.out _ _ _ hS.2.1).mono ?_
    clear hS K1 B1 X2
    rintro e w2 ⟨rfl, rfl⟩
    clear k53
    cases r2 with
    | false =>
      have E := Lib.hid (show (40 : Int) = R from HR.out)
      go_wp2
      go_ret
      exact ⟨retI E.out, B2.out⟩
    | true =>
      have HR := Lib.hid (show (if (r3 && (r4 && (r5 && (r6 && (r7))))) = true then (if c.f 55 ≤ c.f 54 then (41 : Int) else 0) else 40) = R from HR.out)
      have k54 := K2.out.c 54 _ rfl
      go_wp2_with fail
      refine calls_gen (S := fun W => BW W w.heap.size (carL c) ∧ BW W w2.heap.size [.int .i64 (c.f 54)] ∧ Below w.heap.size w W) ⟨K2.out.alloc _, BW.new _ _ [.int .i64 (c.f 54)] _ rfl, B2.out.alloc B2.out.size _⟩ (fun wx hS => ?_)
      have K3 := Lib.hid hS.1
      have B3 := Lib.hid hS.2.2
      refine (X3.out _ _ _ hS.2.1).mono ?_
      clear hS K2 B2 X3
      rintro e w3 ⟨rfl, rfl⟩
      clear k54
      cases r3 with
      | false =>
        have E := Lib.hid (show (40 : Int) = R from HR.out)
        go_wp2
        go_ret
        exact ⟨retI E.out, B3.out⟩
      | true =>
        have HR := Lib.hid (show (if (r4 && (r5 && (r6 && (r7)))) = true then (if c.f 55 ≤ c.f 54 then (41 : Int) else 0) else 40) = R from HR.out)
        have k55 := K3.out.c 55 _ rfl
        go_wp2_with fail
        refine calls_gen (S := fun W => BW W w.heap.size (carL c) ∧ BW W w3.heap.size [.int .i64 (c.f 55)] ∧ Below w.heap.size w W) ⟨K3.out.alloc _, BW.new _ _ [.int .i64 (c.f 55)] _ rfl, B3.out.alloc B3.out.size _⟩ (fun wx hS => ?_)
        have K4 := Lib.hid hS.1
        have B4 := Lib.hid hS.2.2
        refine (X4.out _ _ _ hS.2.1).mono ?_
        clear hS K3 B3 X4
        rintro e w4 ⟨rfl, rfl⟩
        clear k55
        cases r4 with
        | false =>
          have E := Lib.hid (show (40 : Int) = R from HR.out)
          go_wp2
          go_ret
          exact ⟨retI E.out, B4.out⟩
        | true =>
          have HR := Lib.hid (show (if (r5 && (r6 && (r7))) = true then (if c.f 55 ≤ c.f 54 then (41 : Int) else 0) else 40) = R from HR.out)
          have k56 := K4.out.c 56 _ rfl
          go_wp2_with fail
          refine calls_gen (S := fun W => BW W w.heap.size (carL c) ∧ BW W w4.heap.size [.int .i64 (c.f 56)] ∧ Below w.heap.size w W) ⟨K4.out.alloc _, BW.new _ _ [.int .i64 (c.f 56)] _ rfl, B4.out.alloc B4.out.size _⟩ (fun wx hS => ?_)
          have K5 := Lib.hid hS.1
          have B5 := Lib.hid hS.2.2
          refine (X5.out _ _ _ hS.2.1).mono ?_
          clear hS K4 B4 X5
          rintro e w5 ⟨rfl, rfl⟩
          clear k56
          cases r5 with
          | false =>
            have E := Lib.hid (show (40 : Int) = R from HR.out)
            go_wp2
            go_ret
            exact ⟨retI E.out, B5.out⟩
          | true =>
            have HR := Lib.hid (show (if (r6 && (r7)) = true then (if c.f 55 ≤ c.f 54 then (41 : Int) else 0) else 40) = R from HR.out)
            have k57 := K5.out.c 57 _ rfl
            go_wp2_with fail
            refine calls_gen (S := fun W => BW W w.heap.size (carL c) ∧ BW W w5.heap.size [.int .i64 (c.f 57)] ∧ Below w.heap.size w W) ⟨K5.out.alloc _, BW.new _ _ [.int .i64 (c.f 57)] _ rfl, B5.out.alloc B5.out.size _⟩ (fun wx hS => ?_)
            have K6 := Lib.hid hS.1
            have B6 := Lib.hid hS.2.2
            refine (X6.out _ _ _ hS.2.1).mono ?_
            clear hS K5 B5 X6
            rintro e w6 ⟨rfl, rfl⟩
            clear k57
            cases r6 with
            | false =>
              have E := Lib.hid (show (40 : Int) = R from HR.out)
              go_wp2
              go_ret
              exact ⟨retI E.out, B6.out⟩
            | true =>
              have HR := Lib.hid (show (if (r7) = true then (if c.f 55 ≤ c.f 54 then (41 : Int) else 0) else 40) = R from HR.out)
              have k58 := K6.out.c 58 _ rfl
              go_wp2_with fail
              refine calls_gen (S := fun W => BW W w.heap.size (carL c) ∧ BW W w6.heap.size [.int .i64 (c.f 58)] ∧ Below w.heap.size w W) ⟨K6.out.alloc _, BW.new _ _ [.int .i64 (c.f 58)] _ rfl, B6.out.alloc B6.out.size _⟩ (fun wx hS => ?_)
              have K7 := Lib.hid hS.1
              have B7 := Lib.hid hS.2.2
              refine (X7.out _ _ _ hS.2.1).mono ?_
              clear hS K6 B6 X7
              rintro e w7 ⟨rfl, rfl⟩
              clear k58
              cases r7 with
              | false =>
                have E := Lib.hid (show (40 : Int) = R from HR.out)
                go_wp2
                go_ret
                exact ⟨retI E.out, B7.out⟩
              | true =>
                have HR := Lib.hid (show (if (true) = true then (if c.f 55 ≤ c.f 54 then (41 : Int) else 0) else 40) = R from HR.out)
                have k55 := K7.out.c 55 _ rfl
                have k54 := K7.out.c 54 _ rfl
                by_cases tc : c.f 55 ≤ c.f 54
                · have E := Lib.hid (show (41 : Int) = R by rw [← HR.out, if_pos rfl, if_pos tc])
                  go_wp2
                  go_ret
                  exact ⟨retI E.out, B7.out⟩
                · have E := Lib.hid (show (0 : Int) = R by rw [← HR.out, if_pos rfl, if_neg tc])
                  go_wp2
                  go_ret
                  exact ⟨retI E.out, B7.out⟩
set_option maxRecDepth 100000 in
set_option maxHeartbeats 8000000 in
theorem cAids_any (c : Cr) (w : World) : Calls Try.prog 23 #[.agg (carL c).toArray] w fun e w' => e = .returned (.int .i64 (rCEaseN c)) ∧ Below w.heap.size w w' := by
  have HR : (if ((inC (0) (17179869184) (c.f 72) && (inC (0) (17179869184) (c.f 73))) && ((inC (0) (8796093022208) (c.f 74) && (inC (0) (8796093022208) (c.f 75))))) = true then (if c.f 74 ≤ c.f 75 then (41 : Int) else 0) else 40) = rCEaseN c := by unfold rCEaseN rCEaseB; simp only [Bool.and_assoc]
  obtain ⟨R, hR⟩ : ∃ R, rCEaseN c = R := ⟨_, rfl⟩
  rw [hR] at HR ⊢
  have X1 := Lib.hid (fun b cap W (K : BW W b [.int .i64 (c.f 72), .int .i64 (c.f 73)]) => cF2 (c.f 72) (c.f 73) (0) (17179869184) b cap W K)
  have X2 := Lib.hid (fun b cap W (K : BW W b [.int .i64 (c.f 74), .int .i64 (c.f 75)]) => cF2 (c.f 74) (c.f 75) (0) (8796093022208) b cap W K)
  generalize (inC (0) (17179869184) (c.f 72) && (inC (0) (17179869184) (c.f 73))) = r1 at *
  generalize (inC (0) (8796093022208) (c.f 74) && (inC (0) (8796093022208) (c.f 75))) = r2 at *
  have HR := Lib.hid HR
  clear hR
  have K0 := Lib.hid (BW.new w _ (carL c) 37 rfl)
  have B0 := Lib.hid ((Below.refl w.heap.size w).alloc (Nat.le_refl _) (.cells (carL c).toArray 37))
  have k72 := K0.out.c 72 _ rfl
  have k73 := K0.out.c 73 _ rfl
  go_enter Try.func23, Try.ntmps23
  go_wp2_with fail
  refine calls_gen (S := fun W => BW W w.heap.size (carL c) ∧ BW W (w.heap.size + 1) [.int .i64 (c.f 72), .int .i64 (c.f 73)] ∧ Below w.heap.size w W) ⟨K0.out.alloc _, BW.new _ _ [.int .i64 (c.f 72), .int .i64 (c.f 73)] _ (by simp), B0.out.alloc (by simp) _⟩ (fun wx hS => ?_)
  have K1 := Lib.hid hS.1
  have B1 := Lib.hid hS.2.2
  refine (X1.out _ _ _ hS.2.1).mono ?_
  clear hS K0 B0 X1
  rintro e w1 ⟨rfl, rfl⟩
  clear k72 k73
  cases r1 with
  | false =>
    have E := Lib.hid (show (40 : Int) = R from HR.out)
    go_wp2
    go_ret
    exact ⟨retI E.out, B1.out⟩
  | true =>
    have HR := Lib.hid (show (if (r2) = true then (if c.f 74 ≤ c.f 75 then (41 : Int) else 0) else 40) = R from HR.out)
    have k74 := K1.out.c 74 _ rfl
    have k75 := K1.out.c 75 _ rfl
    go_wp2_with fail
    refine calls_gen (S := fun W => BW W w.heap.size (carL c) ∧ BW W w1.heap.size [.int .i64 (c.f 74), .int .i64 (c.f 75)] ∧ Below w.heap.size w W) ⟨K1.out.alloc _, BW.new _ _ [.int .i64 (c.f 74), .int .i64 (c.f 75)] _ rfl, B1.out.alloc B1.out.size _⟩ (fun wx hS => ?_)
    have K2 := Lib.hid hS.1
    have B2 := Lib.hid hS.2.2
    refine (X2.out _ _ _ hS.2.1).mono ?_
    clear hS K1 B1 X2
    rintro e w2 ⟨rfl, rfl⟩
    clear k74 k75
    cases r2 with
    | false =>
      have E := Lib.hid (show (40 : Int) = R from HR.out)
      go_wp2
      go_ret
      exact ⟨retI E.out, B2.out⟩
    | true =>
      have HR := Lib.hid (show (if (true) = true then (if c.f 74 ≤ c.f 75 then (41 : Int) else 0) else 40) = R from HR.out)
      have k74 := K2.out.c 74 _ rfl
      have k75 := K2.out.c 75 _ rfl
      by_cases tc : c.f 74 ≤ c.f 75
      · have E := Lib.hid (show (41 : Int) = R by rw [← HR.out, if_pos rfl, if_pos tc])
        go_wp2
        go_ret
        exact ⟨retI E.out, B2.out⟩
      · have E := Lib.hid (show (0 : Int) = R by rw [← HR.out, if_pos rfl, if_neg tc])
        go_wp2
        go_ret
        exact ⟨retI E.out, B2.out⟩
set_option maxRecDepth 100000 in
set_option maxHeartbeats 8000000 in
theorem cAxles_any (c : Cr) (w : World) (h0 : 0 ≤ c.f 67) (h1 : 0 ≤ c.f 68) : Calls Try.prog 22 #[.agg (carL c).toArray] w fun e w' => e = .returned (.int .i64 (rngC (rCRestB c))) ∧ Below w.heap.size w w' := by
  have HR : (rngC ((inC (0) (2) (c.f 62)) && ((inC (0) (281474976710656) (c.f 63)) && ((inC (0) (70368744177664) (c.f 64) && (inC (0) (70368744177664) (c.f 65))) && ((inC (0) (4294967296) (c.f 66)) && ((inC (0) (536870912) (c.f 67)) && ((inC (0) (2147483648) (c.f 68))))))))) = rngC (rCRestB c) := by 
    have z0 : decide (0 ≤ c.f 67) = true := decide_eq_true h0
    have z1 : decide (0 ≤ c.f 68) = true := decide_eq_true h1
    unfold rCRestB inC
    simp only [Bool.and_assoc, z0, z1, Bool.true_and]
  obtain ⟨R, hR⟩ : ∃ R, rngC (rCRestB c) = R := ⟨_, rfl⟩
  rw [hR] at HR ⊢
  have X1 := Lib.hid (fun b cap W (K : BW W b [.int .i64 (c.f 62)]) => cI1 (c.f 62) (0) (2) b cap W K)
  have X2 := Lib.hid (fun b cap W (K : BW W b [.int .i64 (c.f 63)]) => cF1 (c.f 63) (0) (281474976710656) b cap W K)
  have X3 := Lib.hid (fun b cap W (K : BW W b [.int .i64 (c.f 64), .int .i64 (c.f 65)]) => cF2 (c.f 64) (c.f 65) (0) (70368744177664) b cap W K)
  have X4 := Lib.hid (fun b cap W (K : BW W b [.int .i64 (c.f 66)]) => cF1 (c.f 66) (0) (4294967296) b cap W K)
  have X5 := Lib.hid (fun b cap W (K : BW W b [.int .u32 (c.f 67)]) => cT1 (c.f 67) (0) (536870912) b cap W K)
  have X6 := Lib.hid (fun b cap W (K : BW W b [.int .u32 (c.f 68)]) => cT1 (c.f 68) (0) (2147483648) b cap W K)
  generalize (inC (0) (2) (c.f 62)) = r1 at *
  generalize (inC (0) (281474976710656) (c.f 63)) = r2 at *
  generalize (inC (0) (70368744177664) (c.f 64) && (inC (0) (70368744177664) (c.f 65))) = r3 at *
  generalize (inC (0) (4294967296) (c.f 66)) = r4 at *
  generalize (inC (0) (536870912) (c.f 67)) = r5 at *
  generalize (inC (0) (2147483648) (c.f 68)) = r6 at *
  have HR := Lib.hid HR
  clear hR
  have K0 := Lib.hid (BW.new w _ (carL c) 37 rfl)
  have B0 := Lib.hid ((Below.refl w.heap.size w).alloc (Nat.le_refl _) (.cells (carL c).toArray 37))
  have k62 := K0.out.c 62 _ rfl
  go_enter Try.func22, Try.ntmps22
  go_wp2_with fail
  refine calls_gen (S := fun W => BW W w.heap.size (carL c) ∧ BW W (w.heap.size + 1) [.int .i64 (c.f 62)] ∧ Below w.heap.size w W) ⟨K0.out.alloc _, BW.new _ _ [.int .i64 (c.f 62)] _ (by simp), B0.out.alloc (by simp) _⟩ (fun wx hS => ?_)
  have K1 := Lib.hid hS.1
  have B1 := Lib.hid hS.2.2
  refine (X1.out _ _ _ hS.2.1).mono ?_
  clear hS K0 B0 X1
  rintro e w1 ⟨rfl, rfl⟩
  clear k62
  cases r1 with
  | false =>
    have E := Lib.hid (show rngC false = R from HR.out)
    go_wp2_with fail
    refine (cRanged_any false _).mono ?_
    rintro e w1 ⟨rfl, rfl⟩
    go_wp2
    go_ret
    exact ⟨retI E.out, B1.out⟩
  | true =>
    have HR := Lib.hid (show rngC (r2 && (r3 && (r4 && (r5 && (r6))))) = R from HR.out)
    have k63 := K1.out.c 63 _ rfl
    go_wp2_with fail
    refine calls_gen (S := fun W => BW W w.heap.size (carL c) ∧ BW W w1.heap.size [.int .i64 (c.f 63)] ∧ Below w.heap.size w W) ⟨K1.out.alloc _, BW.new _ _ [.int .i64 (c.f 63)] _ rfl, B1.out.alloc B1.out.size _⟩ (fun wx hS => ?_)
    have K2 := Lib.hid hS.1
    have B2 := Lib.hid hS.2.2
    refine (X2.out _ _ _ hS.2.1).mono ?_
    clear hS K1 B1 X2
    rintro e w2 ⟨rfl, rfl⟩
    clear k63
    cases r2 with
    | false =>
      have E := Lib.hid (show rngC false = R from HR.out)
      go_wp2_with fail
      refine (cRanged_any false _).mono ?_
      rintro e w2 ⟨rfl, rfl⟩
      go_wp2
      go_ret
      exact ⟨retI E.out, B2.out⟩
    | true =>
      have HR := Lib.hid (show rngC (r3 && (r4 && (r5 && (r6)))) = R from HR.out)
      have k64 := K2.out.c 64 _ rfl
      have k65 := K2.out.c 65 _ rfl
      go_wp2_with fail
      refine calls_gen (S := fun W => BW W w.heap.size (carL c) ∧ BW W w2.heap.size [.int .i64 (c.f 64), .int .i64 (c.f 65)] ∧ Below w.heap.size w W) ⟨K2.out.alloc _, BW.new _ _ [.int .i64 (c.f 64), .int .i64 (c.f 65)] _ rfl, B2.out.alloc B2.out.size _⟩ (fun wx hS => ?_)
      have K3 := Lib.hid hS.1
      have B3 := Lib.hid hS.2.2
      refine (X3.out _ _ _ hS.2.1).mono ?_
      clear hS K2 B2 X3
      rintro e w3 ⟨rfl, rfl⟩
      clear k64 k65
      cases r3 with
      | false =>
        have E := Lib.hid (show rngC false = R from HR.out)
        go_wp2_with fail
        refine (cRanged_any false _).mono ?_
        rintro e w3 ⟨rfl, rfl⟩
        go_wp2
        go_ret
        exact ⟨retI E.out, B3.out⟩
      | true =>
        have HR := Lib.hid (show rngC (r4 && (r5 && (r6))) = R from HR.out)
        have k66 := K3.out.c 66 _ rfl
        go_wp2_with fail
        refine calls_gen (S := fun W => BW W w.heap.size (carL c) ∧ BW W w3.heap.size [.int .i64 (c.f 66)] ∧ Below w.heap.size w W) ⟨K3.out.alloc _, BW.new _ _ [.int .i64 (c.f 66)] _ rfl, B3.out.alloc B3.out.size _⟩ (fun wx hS => ?_)
        have K4 := Lib.hid hS.1
        have B4 := Lib.hid hS.2.2
        refine (X4.out _ _ _ hS.2.1).mono ?_
        clear hS K3 B3 X4
        rintro e w4 ⟨rfl, rfl⟩
        clear k66
        cases r4 with
        | false =>
          have E := Lib.hid (show rngC false = R from HR.out)
          go_wp2_with fail
          refine (cRanged_any false _).mono ?_
          rintro e w4 ⟨rfl, rfl⟩
          go_wp2
          go_ret
          exact ⟨retI E.out, B4.out⟩
        | true =>
          have HR := Lib.hid (show rngC (r5 && (r6)) = R from HR.out)
          have k67 := K4.out.c 67 _ rfl
          go_wp2_with fail
          refine calls_gen (S := fun W => BW W w.heap.size (carL c) ∧ BW W w4.heap.size [.int .u32 (c.f 67)] ∧ Below w.heap.size w W) ⟨K4.out.alloc _, BW.new _ _ [.int .u32 (c.f 67)] _ rfl, B4.out.alloc B4.out.size _⟩ (fun wx hS => ?_)
          have K5 := Lib.hid hS.1
          have B5 := Lib.hid hS.2.2
          refine (X5.out _ _ _ hS.2.1).mono ?_
          clear hS K4 B4 X5
          rintro e w5 ⟨rfl, rfl⟩
          clear k67
          cases r5 with
          | false =>
            have E := Lib.hid (show rngC false = R from HR.out)
            go_wp2_with fail
            refine (cRanged_any false _).mono ?_
            rintro e w5 ⟨rfl, rfl⟩
            go_wp2
            go_ret
            exact ⟨retI E.out, B5.out⟩
          | true =>
            have HR := Lib.hid (show rngC (r6) = R from HR.out)
            have k68 := K5.out.c 68 _ rfl
            go_wp2_with fail
            refine calls_gen (S := fun W => BW W w.heap.size (carL c) ∧ BW W w5.heap.size [.int .u32 (c.f 68)] ∧ Below w.heap.size w W) ⟨K5.out.alloc _, BW.new _ _ [.int .u32 (c.f 68)] _ rfl, B5.out.alloc B5.out.size _⟩ (fun wx hS => ?_)
            have K6 := Lib.hid hS.1
            have B6 := Lib.hid hS.2.2
            refine (X6.out _ _ _ hS.2.1).mono ?_
            clear hS K5 B5 X6
            rintro e w6 ⟨rfl, rfl⟩
            clear k68
            cases r6 with
            | false =>
              have E := Lib.hid (show rngC false = R from HR.out)
              go_wp2_with fail
              refine (cRanged_any false _).mono ?_
              rintro e w6 ⟨rfl, rfl⟩
              go_wp2
              go_ret
              exact ⟨retI E.out, B6.out⟩
            | true =>
              have HR := Lib.hid (show rngC (true) = R from HR.out)
              go_wp2_with fail
              refine (cRanged_any true _).mono ?_
              rintro e w6 ⟨rfl, rfl⟩
              go_wp2
              go_ret
              exact ⟨retI HR.out, B6.out⟩
theorem gearF_all (v : Nat → Int) (bk fn : Int) : ∀ (k j : Nat), gearF v bk fn k j = rngC (decide (allW (fun i => v (j + i)) k 1073741824 137438953472) && (inC 1073741824 137438953472 bk && inC 2147483648 68719476736 fn))
  | 0, j => by
    rw [show decide (allW (fun i => v (j + i)) 0 1073741824 137438953472) = true from decide_eq_true (fun i hi => absurd hi (by omega)), Bool.true_and]
    unfold gearF rngC
    cases inC 1073741824 137438953472 bk <;> cases inC 2147483648 68719476736 fn <;> rfl
  | k + 1, j => by
    have E : decide (allW (fun i => v (j + i)) (k + 1) 1073741824 137438953472) = (inC 1073741824 137438953472 (v j) && decide (allW (fun i => v (j + 1 + i)) k 1073741824 137438953472)) := by
      rw [inC_dec, ← Bool.decide_and, decide_eq_decide]
      refine ⟨fun h => ⟨h 0 (by omega), fun i hi => ?_⟩, fun h i hi => ?_⟩
      · have := h (i + 1) (by omega)
        dsimp only at this ⊢
        rw [show j + (i + 1) = j + 1 + i by omega] at this
        exact this
      · cases i with
        | zero => exact h.1
        | succ i => have := h.2 i (by omega); dsimp only at this ⊢; rw [show j + 1 + i = j + (i + 1) by omega] at this; exact this
    rw [E]
    unfold gearF
    cases inC 1073741824 137438953472 (v j)
    · rfl
    · rw [Bool.true_and]; exact gearF_all v bk fn k (j + 1)
theorem gears_eq (c : Cr) : rCGearsN c = if inC 1 8 c.g.n = true then rngC (inC 1073741824 137438953472 (c.f 59) && (decide (allW c.g.v c.g.n 1073741824 137438953472) && inC 2147483648 68719476736 (c.f 61))) else 42 := by
  unfold rCGearsN
  by_cases h : c.g.n < 1 ∨ 8 < c.g.n
  · rw [if_pos h, if_neg (by rw [inC_dec, decide_eq_true_iff]; omega)]
  · rw [if_neg h, if_pos (by rw [inC_dec, decide_eq_true_iff]; omega), gearF_all]
    simp only [Nat.zero_add]
    rw [Bool.and_left_comm]
set_option maxRecDepth 100000 in
set_option maxHeartbeats 8000000 in
theorem cGears_any (c : Cr) (B : Nat) (w : World) (hB : B ≤ w.heap.size) (K : Nums B w c.g) : Calls Try.prog 21 #[.agg (carL c).toArray] w fun e w' => e = .returned (.int .i64 (rCGearsN c)) ∧ Below w.heap.size w w' := by
  have HR := gears_eq c
  obtain ⟨R, hR⟩ : ∃ R, rCGearsN c = R := ⟨_, rfl⟩
  rw [hR] at HR ⊢
  have HN := Lib.hid (fun (W : World) (h : Below w.heap.size w W) (n8 : c.g.n ≤ 8) => cWithinF c.g.a c.g.n c.g.c c.g.v 1073741824 137438953472 W (by omega) (fun n0 => by
    obtain ⟨b, off, e, hb, hc⟩ := (K.keep h hB).at' n0
    have := h.size
    exact ⟨b, off, e, by omega, hc⟩))
  have N8 := Lib.hid (fun (h : inC 1 8 c.g.n = true) => show c.g.n ≤ 8 by rw [inC_dec, decide_eq_true_iff] at h; omega)
  have X1 := Lib.hid (fun b cap W (K : BW W b [.int .i64 (c.g.n)]) => cI1 (c.g.n) (1) (8) b cap W K)
  have X2 := Lib.hid (fun b cap W (K : BW W b [.int .i64 (c.f 59)]) => cF1 (c.f 59) (1073741824) (137438953472) b cap W K)
  have X4 := Lib.hid (fun b cap W (K : BW W b [.int .i64 (c.f 61)]) => cF1 (c.f 61) (2147483648) (68719476736) b cap W K)
  generalize (inC 1 8 c.g.n) = r1 at *
  generalize (inC 1073741824 137438953472 (c.f 59)) = r2 at *
  generalize (decide (allW c.g.v c.g.n 1073741824 137438953472)) = r3 at *
  generalize (inC 2147483648 68719476736 (c.f 61)) = r4 at *
  have HR := Lib.hid HR
  clear hR K
  have K0 := Lib.hid (BW.new w _ (carL c) 37 rfl)
  have B0 := Lib.hid ((Below.refl w.heap.size w).alloc (Nat.le_refl _) (.cells (carL c).toArray 37))
  have k60 := K0.out.c 60 _ rfl
  go_enter Try.func21, Try.ntmps21
  go_wp2_with fail
  refine calls_gen (S := fun W => BW W w.heap.size (carL c) ∧ BW W (w.heap.size + 1) [.int .i64 (c.g.n)] ∧ Below w.heap.size w W) ⟨K0.out.alloc _, BW.new _ _ [.int .i64 (c.g.n)] _ (by simp), B0.out.alloc (by simp) _⟩ (fun wx hS => ?_)
  have K1 := Lib.hid hS.1
  have B1 := Lib.hid hS.2.2
  refine (X1.out _ _ _ hS.2.1).mono ?_
  clear hS K0 B0 X1
  rintro e w1 ⟨rfl, rfl⟩
  clear k60
  cases r1 with
  | false =>
    have E := Lib.hid (show (42 : Int) = R from HR.out.symm)
    go_wp2
    go_ret
    exact ⟨retI E.out, B1.out⟩
  | true =>
    have HR2 := Lib.hid (show rngC (r2 && (r3 && r4)) = R from HR.out.symm)
    clear HR
    have n8 := Lib.hid (N8.out rfl)
    have k59 := K1.out.c 59 _ rfl
    go_wp2_with fail
    refine calls_gen (S := fun W => BW W w.heap.size (carL c) ∧ BW W w1.heap.size [.int .i64 (c.f 59)] ∧ Below w.heap.size w W) ⟨K1.out.alloc _, BW.new _ _ [.int .i64 (c.f 59)] _ rfl, B1.out.alloc B1.out.size _⟩ (fun wx hS => ?_)
    have K2 := Lib.hid hS.1
    have B2 := Lib.hid hS.2.2
    refine (X2.out _ _ _ hS.2.1).mono ?_
    clear hS K1 B1 X2
    rintro e w2 ⟨rfl, rfl⟩
    clear k59
    cases r2 with
    | false =>
      have E := Lib.hid (show rngC false = R from HR2.out)
      go_wp2_with fail
      refine (cRanged_any false _).mono ?_
      rintro e w2 ⟨rfl, rfl⟩
      go_wp2
      go_ret
      exact ⟨retI E.out, B2.out⟩
    | true =>
      have HR3 := Lib.hid (show rngC (r3 && r4) = R from HR2.out)
      clear HR2
      have k60 := K2.out.c 60 _ rfl
      go_wp2_with fail
      refine (HN.out _ B2.out n8.out).mono ?_
      rintro e w3 ⟨rfl, rfl⟩
      clear k60
      cases r3 with
      | false =>
        have E := Lib.hid (show rngC false = R from HR3.out)
        go_wp2_with fail
        refine (cRanged_any false _).mono ?_
        rintro e w2 ⟨rfl, rfl⟩
        go_wp2
        go_ret
        exact ⟨retI E.out, B2.out⟩
      | true =>
        have HR := Lib.hid (show rngC r4 = R from HR3.out)
        clear HR3
        have K3 := K2
        have B3 := B2
        clear K2 B2
        have k61 := K3.out.c 61 _ rfl
        go_wp2_with fail
        refine calls_gen (S := fun W => BW W w.heap.size (carL c) ∧ BW W w3.heap.size [.int .i64 (c.f 61)] ∧ Below w.heap.size w W) ⟨K3.out.alloc _, BW.new _ _ [.int .i64 (c.f 61)] _ rfl, B3.out.alloc B3.out.size _⟩ (fun wx hS => ?_)
        have K4 := Lib.hid hS.1
        have B4 := Lib.hid hS.2.2
        refine (X4.out _ _ _ hS.2.1).mono ?_
        clear hS K3 B3 X4
        rintro e w4 ⟨rfl, rfl⟩
        clear k61
        go_wp2_with fail
        refine (cRanged_any r4 _).mono ?_
        rintro e w4 ⟨rfl, rfl⟩
        go_wp2
        go_ret
        exact ⟨retI HR.out, B4.out⟩
end Go.Proofs.Ytbpmbdnhfkfkhaa
