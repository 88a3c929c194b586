/- The program's car: body, wheels, bars. -/
import Derived.Test.YtbpmbdnhfkfkhaaW1
namespace Go.Proofs.Ytbpmbdnhfkfkhaa
open Go.RowKit
set_option linter.unusedVariables false
set_option linter.unusedSimpArgs false

set_option maxRecDepth 100000 in
set_option maxHeartbeats 8000000 in
theorem cBody_any (c : Cr) (w : World) : Calls Try.prog 13 #[.agg (carL c).toArray] w fun e w' => e = .returned (.int .i64 (rngC (rCBodyB c))) ∧ Below w.heap.size w w' := by
  have HR : (rngC ((inC (274877906944) (35184372088832) (c.f 0)) && ((inC (68719476736) (281474976710656) (c.f 1) && (inC (68719476736) (281474976710656) (c.f 2) && (inC (68719476736) (281474976710656) (c.f 3)))) && ((inC (2147483648) (17179869184) (c.f 69)) && ((inC (0) (4294967296) (c.f 70) && (inC (0) (4294967296) (c.f 71)))))))) = rngC (rCBodyB c) := by unfold rCBodyB; simp only [Bool.and_assoc]
  obtain ⟨R, hR⟩ : ∃ R, rngC (rCBodyB c) = R := ⟨_, rfl⟩
  rw [hR] at HR ⊢
  have X1 := Lib.hid (fun b cap W (K : BW W b [.int .i64 (c.f 0)]) => cF1 (c.f 0) (274877906944) (35184372088832) b cap W K)
  have X2 := Lib.hid (fun b cap W (K : BW W b [.int .i64 (c.f 1), .int .i64 (c.f 2), .int .i64 (c.f 3)]) => cF3 (c.f 1) (c.f 2) (c.f 3) (68719476736) (281474976710656) b cap W K)
  have X3 := Lib.hid (fun b cap W (K : BW W b [.int .i64 (c.f 69)]) => cF1 (c.f 69) (2147483648) (17179869184) b cap W K)
  have X4 := Lib.hid (fun b cap W (K : BW W b [.int .i64 (c.f 70), .int .i64 (c.f 71)]) => cF2 (c.f 70) (c.f 71) (0) (4294967296) b cap W K)
  generalize (inC (274877906944) (35184372088832) (c.f 0)) = r1 at *
  generalize (inC (68719476736) (281474976710656) (c.f 1) && (inC (68719476736) (281474976710656) (c.f 2) && (inC (68719476736) (281474976710656) (c.f 3)))) = r2 at *
  generalize (inC (2147483648) (17179869184) (c.f 69)) = r3 at *
  generalize (inC (0) (4294967296) (c.f 70) && (inC (0) (4294967296) (c.f 71))) = r4 at *
  have HR := Lib.hid HR
  clear hR
  have K0 := Lib.hid (BW.new w _ (carL c) 37 rfl)
  have B0 := Lib.hid ((Below.refl w.heap.size w).alloc (Nat.le_refl _) (.cells (carL c).toArray 37))
  have k0 := K0.out.c 0 _ rfl
  go_enter Try.func13, Try.ntmps13
  go_wp2_with fail
  refine calls_gen (S := fun W => BW W w.heap.size (carL c) ∧ BW W (w.heap.size + 1) [.int .i64 (c.f 0)] ∧ Below w.heap.size w W) ⟨K0.out.alloc _, BW.new _ _ [.int .i64 (c.f 0)] _ (by simp), B0.out.alloc (by simp) _⟩ (fun wx hS => ?_)
  have K1 := Lib.hid hS.1
  have B1 := Lib.hid hS.2.2
  refine (X1.out _ _ _ hS.2.1).mono ?_
  clear hS K0 B0 X1
  rintro e w1 ⟨rfl, rfl⟩
  clear k0
  cases r1 with
  | false =>
    have E := Lib.hid (show rngC false = R from HR.out)
    go_wp2_with fail
    refine (cRanged_any false _).mono ?_
    rintro e w1 ⟨rfl, rfl⟩
    go_wp2
    go_ret
    exact ⟨retI E.out, B1.out⟩
  | true =>
    have HR := Lib.hid (show rngC (r2 && (r3 && (r4))) = R from HR.out)
    have k1 := K1.out.c 1 _ rfl
    have k2 := K1.out.c 2 _ rfl
    have k3 := K1.out.c 3 _ rfl
    go_wp2_with fail
    refine calls_gen (S := fun W => BW W w.heap.size (carL c) ∧ BW W w1.heap.size [.int .i64 (c.f 1), .int .i64 (c.f 2), .int .i64 (c.f 3)] ∧ Below w.heap.size w W) ⟨K1.out.alloc _, BW.new _ _ [.int .i64 (c.f 1), .int .i64 (c.f 2), .int .i64 (c.f 3)] _ rfl, B1.out.alloc B1.out.size _⟩ (fun wx hS => ?_)
    have K2 := Lib.hid hS.1
    have B2 := Lib.hid hS.2.2
    refine (X2.out _ _ _ hS.2.1).mono ?_
    clear hS K1 B1 X2
    rintro e w2 ⟨rfl, rfl⟩
    clear k1 k2 k3
    cases r2 with
    | false =>
      have E := Lib.hid (show rngC false = R from HR.out)
      go_wp2_with fail
      refine (cRanged_any false _).mono ?_
      rintro e w2 ⟨rfl, rfl⟩
      go_wp2
      go_ret
      exact ⟨retI E.out, B2.out⟩
    | true =>
      have HR := Lib.hid (show rngC (r3 && (r4)) = R from HR.out)
      have k69 := K2.out.c 69 _ rfl
      go_wp2_with fail
      refine calls_gen (S := fun W => BW W w.heap.size (carL c) ∧ BW W w2.heap.size [.int .i64 (c.f 69)] ∧ Below w.heap.size w W) ⟨K2.out.alloc _, BW.new _ _ [.int .i64 (c.f 69)] _ rfl, B2.out.alloc B2.out.size _⟩ (fun wx hS => ?_)
      have K3 := Lib.hid hS.1
      have B3 := Lib.hid hS.2.2
      refine (X3.out _ _ _ hS.2.1).mono ?_
      clear hS K2 B2 X3
      rintro e w3 ⟨rfl, rfl⟩
      clear k69
      cases r3 with
      | false =>
        have E := Lib.hid (show rngC false = R from HR.out)
        go_wp2_with fail
        refine (cRanged_any false _).mono ?_
        rintro e w3 ⟨rfl, rfl⟩
        go_wp2
        go_ret
        exact ⟨retI E.out, B3.out⟩
      | true =>
        have HR := Lib.hid (show rngC (r4) = R from HR.out)
        have k70 := K3.out.c 70 _ rfl
        have k71 := K3.out.c 71 _ rfl
        go_wp2_with fail
        refine calls_gen (S := fun W => BW W w.heap.size (carL c) ∧ BW W w3.heap.size [.int .i64 (c.f 70), .int .i64 (c.f 71)] ∧ Below w.heap.size w W) ⟨K3.out.alloc _, BW.new _ _ [.int .i64 (c.f 70), .int .i64 (c.f 71)] _ rfl, B3.out.alloc B3.out.size _⟩ (fun wx hS => ?_)
        have K4 := Lib.hid hS.1
        have B4 := Lib.hid hS.2.2
        refine (X4.out _ _ _ hS.2.1).mono ?_
        clear hS K3 B3 X4
        rintro e w4 ⟨rfl, rfl⟩
        clear k70 k71
        cases r4 with
        | false =>
          have E := Lib.hid (show rngC false = R from HR.out)
          go_wp2_with fail
          refine (cRanged_any false _).mono ?_
          rintro e w4 ⟨rfl, rfl⟩
          go_wp2
          go_ret
          exact ⟨retI E.out, B4.out⟩
        | true =>
          have HR := Lib.hid (show rngC (true) = R from HR.out)
          go_wp2_with fail
          refine (cRanged_any true _).mono ?_
          rintro e w4 ⟨rfl, rfl⟩
          go_wp2
          go_ret
          exact ⟨retI HR.out, B4.out⟩
set_option maxRecDepth 100000 in
set_option maxHeartbeats 8000000 in
theorem cWheel_any (f : Nat → Int) (p q : Bool) (w : World) : Calls Try.prog 14 #[.agg (wheelL f p q).toArray] w fun e w' => e = .returned (.int .i64 (rngC (wheelB f))) ∧ Below w.heap.size w w' := by
  have HR : (rngC ((inC (-17179869184) (17179869184) (f 0) && (inC (-17179869184) (17179869184) (f 1))) && ((inC (-8589934592) (8589934592) (f 2)) && ((inC (536870912) (4294967296) (f 3)) && ((inC (536870912) (274877906944) (f 4)) && ((inC (4398046511104) (1125899906842624) (f 5)) && ((inC (67108864) (2147483648) (f 6)) && ((inC (0) (4503599627370496) (f 7)))))))))) = rngC (wheelB f) := by unfold wheelB; simp only [Bool.and_assoc]
  obtain ⟨R, hR⟩ : ∃ R, rngC (wheelB f) = R := ⟨_, rfl⟩
  rw [hR] at HR ⊢
  have X1 := Lib.hid (fun b cap W (K : BW W b [.int .i64 (f 0), .int .i64 (f 1)]) => cF2 (f 0) (f 1) (-17179869184) (17179869184) b cap W K)
  have X2 := Lib.hid (fun b cap W (K : BW W b [.int .i64 (f 2)]) => cF1 (f 2) (-8589934592) (8589934592) b cap W K)
  have X3 := Lib.hid (fun b cap W (K : BW W b [.int .i64 (f 3)]) => cF1 (f 3) (536870912) (4294967296) b cap W K)
  have X4 := Lib.hid (fun b cap W (K : BW W b [.int .i64 (f 4)]) => cF1 (f 4) (536870912) (274877906944) b cap W K)
  have X5 := Lib.hid (fun b cap W (K : BW W b [.int .i64 (f 5)]) => cF1 (f 5) (4398046511104) (1125899906842624) b cap W K)
  have X6 := Lib.hid (fun b cap W (K : BW W b [.int .i64 (f 6)]) => cF1 (f 6) (67108864) (2147483648) b cap W K)
  have X7 := Lib.hid (fun b cap W (K : BW W b [.int .i64 (f 7)]) => cF1 (f 7) (0) (4503599627370496) b cap W K)
  generalize (inC (-17179869184) (17179869184) (f 0) && (inC (-17179869184) (17179869184) (f 1))) = r1 at *
  generalize (inC (-8589934592) (8589934592) (f 2)) = r2 at *
  generalize (inC (536870912) (4294967296) (f 3)) = r3 at *
  generalize (inC (536870912) (274877906944) (f 4)) = r4 at *
  generalize (inC (4398046511104) (1125899906842624) (f 5)) = r5 at *
  generalize (inC (67108864) (2147483648) (f 6)) = r6 at *
  generalize (inC (0) (4503599627370496) (f 7)) = r7 at *
  have HR := Lib.hid HR
  clear hR
  have K0 := Lib.hid (BW.new w _ (wheelL f p q) 26 rfl)
  have B0 := Lib.hid ((Below.refl w.heap.size w).alloc (Nat.le_refl _) (.cells (wheelL f p q).toArray 26))
  have k0 := K0.out.c 0 _ rfl
  have k1 := K0.out.c 1 _ rfl
  go_enter Try.func14, Try.ntmps14
  go_wp2_with fail
  refine calls_gen (S := fun W => BW W w.heap.size (wheelL f p q) ∧ BW W (w.heap.size + 1) [.int .i64 (f 0), .int .i64 (f 1)] ∧ Below w.heap.size w W) ⟨K0.out.alloc _, BW.new _ _ [.int .i64 (f 0), .int .i64 (f 1)] _ (by simp), B0.out.alloc (by simp) _⟩ (fun wx hS => ?_)
  have K1 := Lib.hid hS.1
  have B1 := Lib.hid hS.2.2
  refine (X1.out _ _ _ hS.2.1).mono ?_
  clear hS K0 B0 X1
  rintro e w1 ⟨rfl, rfl⟩
  clear k0 k1
  cases r1 with
  | false =>
    have E := Lib.hid (show rngC false = R from HR.out)
    go_wp2_with fail
    refine (cRanged_any false _).mono ?_
    rintro e w1 ⟨rfl, rfl⟩
    go_wp2
    go_ret
    exact ⟨retI E.out, B1.out⟩
  | true =>
    have HR := Lib.hid (show rngC (r2 && (r3 && (r4 && (r5 && (r6 && (r7)))))) = R from HR.out)
    have k2 := K1.out.c 2 _ rfl
    go_wp2_with fail
    refine calls_gen (S := fun W => BW W w.heap.size (wheelL f p q) ∧ BW W w1.heap.size [.int .i64 (f 2)] ∧ Below w.heap.size w W) ⟨K1.out.alloc _, BW.new _ _ [.int .i64 (f 2)] _ rfl, B1.out.alloc B1.out.size _⟩ (fun wx hS => ?_)
    have K2 := Lib.hid hS.1
    have B2 := Lib.hid hS.2.2
    refine (X2.out _ _ _ hS.2.1).mono ?_
    clear hS K1 B1 X2
    rintro e w2 ⟨rfl, rfl⟩
    clear k2
    cases r2 with
    | false =>
      have E := Lib.hid (show rngC false = R from HR.out)
      go_wp2_with fail
      refine (cRanged_any false _).mono ?_
      rintro e w2 ⟨rfl, rfl⟩
      go_wp2
      go_ret
      exact ⟨retI E.out, B2.out⟩
    | true =>
      have HR := Lib.hid (show rngC (r3 && (r4 && (r5 && (r6 && (r7))))) = R from HR.out)
      have k3 := K2.out.c 3 _ rfl
      go_wp2_with fail
      refine calls_gen (S := fun W => BW W w.heap.size (wheelL f p q) ∧ BW W w2.heap.size [.int .i64 (f 3)] ∧ Below w.heap.size w W) ⟨K2.out.alloc _, BW.new _ _ [.int .i64 (f 3)] _ rfl, B2.out.alloc B2.out.size _⟩ (fun wx hS => ?_)
      have K3 := Lib.hid hS.1
      have B3 := Lib.hid hS.2.2
      refine (X3.out _ _ _ hS.2.1).mono ?_
      clear hS K2 B2 X3
      rintro e w3 ⟨rfl, rfl⟩
      clear k3
      cases r3 with
      | false =>
        have E := Lib.hid (show rngC false = R from HR.out)
        go_wp2_with fail
        refine (cRanged_any false _).mono ?_
        rintro e w3 ⟨rfl, rfl⟩
        go_wp2
        go_ret
        exact ⟨retI E.out, B3.out⟩
      | true =>
        have HR := Lib.hid (show rngC (r4 && (r5 && (r6 && (r7)))) = R from HR.out)
        have k4 := K3.out.c 4 _ rfl
        go_wp2_with fail
        refine calls_gen (S := fun W => BW W w.heap.size (wheelL f p q) ∧ BW W w3.heap.size [.int .i64 (f 4)] ∧ Below w.heap.size w W) ⟨K3.out.alloc _, BW.new _ _ [.int .i64 (f 4)] _ rfl, B3.out.alloc B3.out.size _⟩ (fun wx hS => ?_)
        have K4 := Lib.hid hS.1
        have B4 := Lib.hid hS.2.2
        refine (X4.out _ _ _ hS.2.1).mono ?_
        clear hS K3 B3 X4
        rintro e w4 ⟨rfl, rfl⟩
        clear k4
        cases r4 with
        | false =>
          have E := Lib.hid (show rngC false = R from HR.out)
          go_wp2_with fail
          refine (cRanged_any false _).mono ?_
          rintro e w4 ⟨rfl, rfl⟩
          go_wp2
          go_ret
          exact ⟨retI E.out, B4.out⟩
        | true =>
          have HR := Lib.hid (show rngC (r5 && (r6 && (r7))) = R from HR.out)
          have k5 := K4.out.c 5 _ rfl
          go_wp2_with fail
          refine calls_gen (S := fun W => BW W w.heap.size (wheelL f p q) ∧ BW W w4.heap.size [.int .i64 (f 5)] ∧ Below w.heap.size w W) ⟨K4.out.alloc _, BW.new _ _ [.int .i64 (f 5)] _ rfl, B4.out.alloc B4.out.size _⟩ (fun wx hS => ?_)
          have K5 := Lib.hid hS.1
          have B5 := Lib.hid hS.2.2
          refine (X5.out _ _ _ hS.2.1).mono ?_
          clear hS K4 B4 X5
          rintro e w5 ⟨rfl, rfl⟩
          clear k5
          cases r5 with
          | false =>
            have E := Lib.hid (show rngC false = R from HR.out)
            go_wp2_with fail
            refine (cRanged_any false _).mono ?_
            rintro e w5 ⟨rfl, rfl⟩
            go_wp2
            go_ret
            exact ⟨retI E.out, B5.out⟩
          | true =>
            have HR := Lib.hid (show rngC (r6 && (r7)) = R from HR.out)
            have k6 := K5.out.c 6 _ rfl
            go_wp2_with fail
            refine calls_gen (S := fun W => BW W w.heap.size (wheelL f p q) ∧ BW W w5.heap.size [.int .i64 (f 6)] ∧ Below w.heap.size w W) ⟨K5.out.alloc _, BW.new _ _ [.int .i64 (f 6)] _ rfl, B5.out.alloc B5.out.size _⟩ (fun wx hS => ?_)
            have K6 := Lib.hid hS.1
            have B6 := Lib.hid hS.2.2
            refine (X6.out _ _ _ hS.2.1).mono ?_
            clear hS K5 B5 X6
            rintro e w6 ⟨rfl, rfl⟩
            clear k6
            cases r6 with
            | false =>
              have E := Lib.hid (show rngC false = R from HR.out)
              go_wp2_with fail
              refine (cRanged_any false _).mono ?_
              rintro e w6 ⟨rfl, rfl⟩
              go_wp2
              go_ret
              exact ⟨retI E.out, B6.out⟩
            | true =>
              have HR := Lib.hid (show rngC (r7) = R from HR.out)
              have k7 := K6.out.c 7 _ rfl
              go_wp2_with fail
              refine calls_gen (S := fun W => BW W w.heap.size (wheelL f p q) ∧ BW W w6.heap.size [.int .i64 (f 7)] ∧ Below w.heap.size w W) ⟨K6.out.alloc _, BW.new _ _ [.int .i64 (f 7)] _ rfl, B6.out.alloc B6.out.size _⟩ (fun wx hS => ?_)
              have K7 := Lib.hid hS.1
              have B7 := Lib.hid hS.2.2
              refine (X7.out _ _ _ hS.2.1).mono ?_
              clear hS K6 B6 X7
              rintro e w7 ⟨rfl, rfl⟩
              clear k7
              cases r7 with
              | false =>
                have E := Lib.hid (show rngC false = R from HR.out)
                go_wp2_with fail
                refine (cRanged_any false _).mono ?_
                rintro e w7 ⟨rfl, rfl⟩
                go_wp2
                go_ret
                exact ⟨retI E.out, B7.out⟩
              | true =>
                have HR := Lib.hid (show rngC (true) = R from HR.out)
                go_wp2_with fail
                refine (cRanged_any true _).mono ?_
                rintro e w7 ⟨rfl, rfl⟩
                go_wp2
                go_ret
                exact ⟨retI HR.out, B7.out⟩
set_option maxRecDepth 100000 in
set_option maxHeartbeats 8000000 in
theorem cBars_any (c : Cr) (w : World) : Calls Try.prog 15 #[.agg (carL c).toArray] w fun e w' => e = .returned (.int .i64 (rngC (inC 0 562949953421312 (c.f 44) && inC 0 562949953421312 (c.f 45)))) ∧ Below w.heap.size w w' := by
  have X1 := Lib.hid (fun W K => cF2at c 0 562949953421312 w.heap.size W K)
  generalize (inC 0 562949953421312 (c.f 44) && inC 0 562949953421312 (c.f 45)) = r1 at *
  go_enter Try.func15, Try.ntmps15
  go_wp2_with fail
  refine calls_gen (S := fun W => BW W w.heap.size (carL c) ∧ Below w.heap.size w W) ⟨BW.new w _ (carL c) 37 rfl, by repeat (first | exact Below.refl _ _ | assumption | refine Below.setCell ?_ (by first | omega | (simp; done) | (simp; omega)) _ | refine Below.alloc ?_ (by first | omega | (simp; done) | (simp; omega)) _ | refine below_drewN ?_ _ | refine Below.drew ?_ | refine Below.trans ?_ (Below.mono (by assumption) (by first | omega | (simp; done) | (simp; omega))))⟩ (fun w0 hS => ?_)
  have B0 := Lib.hid hS.2
  refine (X1.out _ hS.1).mono ?_
  clear hS
  rintro e w' ⟨rfl, rfl⟩
  go_wp2_with fail
  refine (cRanged_any r1 _).mono ?_
  rintro e w0 ⟨rfl, rfl⟩
  go_wp2
  go_ret
  exact ⟨retI rfl, B0.out⟩
end Go.Proofs.Ytbpmbdnhfkfkhaa
