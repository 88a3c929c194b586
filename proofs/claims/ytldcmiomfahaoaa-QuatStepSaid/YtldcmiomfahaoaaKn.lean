/- What the program's quat tells: QuatC. -/
import Derived.Test.YtldcmiomfahaoaaK1
import Derived.Test.YtldcmiomfahaoaaKw
import Derived.Test.YtldcmiomfahaoaaKh
import Derived.Test.YtldcmiomfahaoaaIi
namespace Go.Proofs.Ytldcmiomfahaoaa
open Go.RowKit
set_option linter.unusedVariables false
set_option linter.unusedSimpArgs false

theorem PB.far4 {W : World} {n b k r : Nat} (p : PB W n b k) (e : r ≠ n) (u0 u1 u2 u3 : Value) : PB ((((W.setCell ⟨r, 0, none⟩ u0).setCell ⟨r, 1, none⟩ u1).setCell ⟨r, 2, none⟩ u2).setCell ⟨r, 3, none⟩ u3) n b k := by
  have a : ∀ i, (⟨r, i, none⟩ : Addr) ≠ ⟨n, 0, none⟩ := fun i h => e (congrArg Addr.block h)
  exact ⟨(World.cell?_setCell_other _ _ _ _ (a 3)).trans ((World.cell?_setCell_other _ _ _ _ (a 2)).trans ((World.cell?_setCell_other _ _ _ _ (a 1)).trans ((World.cell?_setCell_other _ _ _ _ (a 0)).trans p.c))), by rw [set_size, set_size, set_size, set_size]; exact p.lt, p.ne⟩
set_option maxRecDepth 100000 in
set_option maxHeartbeats 4000000 in
theorem QUnit_any (qw qx qy qz n : Int) (b k : Nat) (o : Bool) (w : World) (hq : In4 qw qx qy qz) (hn : lenF (qw * qw + qx * qx + qy * qy + qz * qz) = n) (m : MAt w b k o) :
    Calls Try.prog 12 #[.pointer (some ⟨b, k, none⟩), .agg #[.int .i64 qw, .int .i64 qx, .int .i64 qy, .int .i64 qz]] w fun e w' => e = .returned (.agg #[.int .i64 (uW qw n), .int .i64 (uX qx n), .int .i64 (uX qy n), .int .i64 (uX qz n)]) ∧ FxW w.heap.size w b k (o || lenO (qw * qw + qx * qx + qy * qy + qz * qz) || uO qw qx qy qz n) w' := by
  have HQ := Lib.hid hq
  have HM := Lib.hid m
  have U := Lib.hid (fun (W : World) (m : MAt W b k o) => Len4_any qw qx qy qz b k o W hq.a.1 hq.a.2 hq.b.1 hq.b.2 hq.c.1 hq.c.2 hq.d.1 hq.d.2 m)
  have N := Lib.hid (lenF_in (qw * qw + qx * qx + qy * qy + qz * qz))
  rw [hn] at U N
  generalize lenO (qw * qw + qx * qx + qy * qy + qz * qz) = p at *
  clear hq hn m
  by_cases c : n = 0
  · subst c
    have E := Lib.hid (show (o || p || uO qw qx qy qz 0) = (o || p) by unfold uO; simp)
    rw [E.out]
    go_enter Try.func12, Try.ntmps12
    go_wp2_with fail
    refine calls_gen (S := fun W => BW W (w.heap.size + 1) [.int .i64 0, .int .i64 0, .int .i64 0, .int .i64 0] ∧ Below w.heap.size w W) ⟨BW.new _ _ [_, _, _, _] _ (by simp), by repeat (first | exact Below.refl _ _ | assumption | refine Below.setCell ?_ (by first | omega | (simp; done) | (simp; omega)) _ | refine Below.alloc ?_ (by first | omega | (simp; done) | (simp; omega)) _ | refine below_drewN ?_ _ | refine Below.drew ?_ | refine Below.trans ?_ (Below.mono (by assumption) (by first | omega | (simp; done) | (simp; omega))))⟩ (fun W0 hS => ?_)
    have R0 := Lib.hid hS.1
    have G0 := Lib.hid (Flag.start HM.out hS.2)
    clear hS HM
    refine (U.out _ G0.out.m).mono ?_
    rintro e w1 ⟨rfl, h⟩
    have G1 := Lib.hid (G0.out.fx h)
    have R1 := Lib.hid (R0.out.fx h (by have := G0.out.lt; omega))
    clear h G0 R0 U
    obtain ⟨r0, r1, r2, r3⟩ := R1.out.h4
    have rf := R1.out.f
    go_wp2
    exact bodyPost_ret (v := .agg #[.int .i64 (uW qw 0), .int .i64 (uX qx 0), .int .i64 (uX qy 0), .int .i64 (uX qz 0)]) (by simp [results, Try.results12, go_sem, r0, r1, r2, r3, uW, uX]) rfl ⟨rfl, G1.out.put4 (by omega) _ _ _ _⟩
  · have t : (n == 0) = false := by simp; exact c
    have E := Lib.hid (show (o || p || uO qw qx qy qz n) = (o || p || divO qw n || divO qx n || divO qy n || divO qz n) by unfold uO; rw [if_neg c]; simp only [← Bool.or_assoc])
    have V1 := Lib.hid (show divF qw n = uW qw n ∧ divF qx n = uX qx n ∧ divF qy n = uX qy n ∧ divF qz n = uX qz n by unfold uW uX; rw [if_neg c, if_neg c, if_neg c, if_neg c]; exact ⟨rfl, rfl, rfl, rfl⟩)
    rw [E.out, ← V1.out.1, ← V1.out.2.1, ← V1.out.2.2.1, ← V1.out.2.2.2]
    clear c V1
    go_enter Try.func12, Try.ntmps12
    go_wp2_with fail
    refine calls_gen (S := fun W => BW W w.heap.size [.int .i64 qw, .int .i64 qx, .int .i64 qy, .int .i64 qz] ∧ BW W (w.heap.size + 1) [.int .i64 0, .int .i64 0, .int .i64 0, .int .i64 0] ∧ Below w.heap.size w W) ⟨(BW.new w w.heap.size [_, _, _, _] _ rfl).alloc _, BW.new _ _ [_, _, _, _] _ (by simp), by repeat (first | exact Below.refl _ _ | assumption | refine Below.setCell ?_ (by first | omega | (simp; done) | (simp; omega)) _ | refine Below.alloc ?_ (by first | omega | (simp; done) | (simp; omega)) _ | refine below_drewN ?_ _ | refine Below.drew ?_ | refine Below.trans ?_ (Below.mono (by assumption) (by first | omega | (simp; done) | (simp; omega))))⟩ (fun W0 hS => ?_)
    have A0 := Lib.hid hS.1
    have R0 := Lib.hid hS.2.1
    have G0 := Lib.hid (Flag.start HM.out hS.2.2)
    clear hS HM
    refine (U.out _ G0.out.m).mono ?_
    rintro e w1 ⟨rfl, h⟩
    have G1 := Lib.hid ((G0.out.fx h).more ((Below.refl _ _).drew))
    have A1 := Lib.hid (A0.out.fx h (by have := G0.out.lt; omega)).drew
    have R1 := Lib.hid (R0.out.fx h (by have := G0.out.lt; omega)).drew
    clear h G0 R0 A0 U
    go_wp2_with fail
    refine wp_region_held_drew (S := fun W => W.cell? ⟨w.heap.size, 0, none⟩ = some (.int .i64 qw) ∧ W.cell? ⟨w.heap.size, 1, none⟩ = some (.int .i64 qx) ∧ W.cell? ⟨w.heap.size, 2, none⟩ = some (.int .i64 qy) ∧ W.cell? ⟨w.heap.size, 3, none⟩ = some (.int .i64 qz)) (by kernel_rfl) A1.out.h4 (fun hHeld => ?_)
    refine wpAnyH_takeD 0 19 (v := ?_) (by kernel_rfl) (by kernel_rfl) (by kernel_rfl) (by kernel_rfl) (by rfl) (fun _ _ _ h => h) ?_ hHeld ?_
    rotate_left 1
    (intro o ho W hSw; simp only [List.getElem?_toArray, List.getElem?_cons_succ, List.getElem?_cons_zero, Option.some.injEq] at ho; subst ho; (try dsimp only at hSw); go_simp; try with_reducible rfl)
    (try simp only [Act.put, List.setIfInBounds_toArray, List.set_cons_zero, List.set_cons_succ])
    refine wpAnyH_takeD 1 20 (v := ?_) (by kernel_rfl) (by kernel_rfl) (by kernel_rfl) (by kernel_rfl) (by rfl) (fun _ _ _ h => h) ?_ hHeld ?_
    rotate_left 1
    (intro o ho W hSw; simp only [List.getElem?_toArray, List.getElem?_cons_succ, List.getElem?_cons_zero, Option.some.injEq] at ho; subst ho; (try dsimp only at hSw); go_simp; try with_reducible rfl)
    (try simp only [Act.put, List.setIfInBounds_toArray, List.set_cons_zero, List.set_cons_succ])
    refine wpAnyH_takeD 2 21 (v := ?_) (by kernel_rfl) (by kernel_rfl) (by kernel_rfl) (by kernel_rfl) (by rfl) (fun _ _ _ h => h) ?_ hHeld ?_
    rotate_left 1
    (intro o ho W hSw; simp only [List.getElem?_toArray, List.getElem?_cons_succ, List.getElem?_cons_zero, Option.some.injEq] at ho; subst ho; (try dsimp only at hSw); go_simp; try with_reducible rfl)
    (try simp only [Act.put, List.setIfInBounds_toArray, List.set_cons_zero, List.set_cons_succ])
    refine wpAnyH_takeD 3 22 (v := ?_) (by kernel_rfl) (by kernel_rfl) (by kernel_rfl) (by kernel_rfl) (by rfl) (fun _ _ _ h => h) ?_ hHeld ?_
    rotate_left 1
    (intro o ho W hSw; simp only [List.getElem?_toArray, List.getElem?_cons_succ, List.getElem?_cons_zero, Option.some.injEq] at ho; subst ho; (try dsimp only at hSw); go_simp; try with_reducible rfl)
    (try simp only [Act.put, List.setIfInBounds_toArray, List.set_cons_zero, List.set_cons_succ])
    refine wpAnyH_takeD 5 24 (v := ?_) (by kernel_rfl) (by kernel_rfl) (by kernel_rfl) (by kernel_rfl) (by rfl) (fun _ _ _ h => h) ?_ hHeld ?_
    rotate_left 1
    (intro o ho W hSw; simp only [List.getElem?_toArray, List.getElem?_cons_succ, List.getElem?_cons_zero, Option.some.injEq] at ho; subst ho; (try dsimp only at hSw); go_simp; try with_reducible rfl)
    (try simp only [Act.put, List.setIfInBounds_toArray, List.set_cons_zero, List.set_cons_succ])
    refine wpAnyH_takeD 6 25 (v := ?_) (by kernel_rfl) (by kernel_rfl) (by kernel_rfl) (by kernel_rfl) (by rfl) (fun _ _ _ h => h) ?_ hHeld ?_
    rotate_left 1
    (intro o ho W hSw; simp only [List.getElem?_toArray, List.getElem?_cons_succ, List.getElem?_cons_zero, Option.some.injEq] at ho; subst ho; (try dsimp only at hSw); go_simp; try with_reducible rfl)
    (try simp only [Act.put, List.setIfInBounds_toArray, List.set_cons_zero, List.set_cons_succ])
    refine wpAnyH_takeD 7 26 (v := ?_) (by kernel_rfl) (by kernel_rfl) (by kernel_rfl) (by kernel_rfl) (by rfl) (fun _ _ _ h => h) ?_ hHeld ?_
    rotate_left 1
    (intro o ho W hSw; simp only [List.getElem?_toArray, List.getElem?_cons_succ, List.getElem?_cons_zero, Option.some.injEq] at ho; subst ho; (try dsimp only at hSw); go_simp; try with_reducible rfl)
    (try simp only [Act.put, List.setIfInBounds_toArray, List.set_cons_zero, List.set_cons_succ])
    refine wpAnyH_takeD 8 27 (v := ?_) (by kernel_rfl) (by kernel_rfl) (by kernel_rfl) (by kernel_rfl) (by rfl) (fun _ _ _ h => h) ?_ hHeld ?_
    rotate_left 1
    (intro o ho W hSw; simp only [List.getElem?_toArray, List.getElem?_cons_succ, List.getElem?_cons_zero, Option.some.injEq] at ho; subst ho; (try dsimp only at hSw); go_simp; try with_reducible rfl)
    (try simp only [Act.put, List.setIfInBounds_toArray, List.set_cons_zero, List.set_cons_succ])
    refine wpAnyH_takeD 10 29 (v := ?_) (by kernel_rfl) (by kernel_rfl) (by kernel_rfl) (by kernel_rfl) (by rfl) (fun _ _ _ h => h) ?_ hHeld ?_
    rotate_left 1
    (intro o ho W hSw; simp only [List.getElem?_toArray, List.getElem?_cons_succ, List.getElem?_cons_zero, Option.some.injEq] at ho; subst ho; (try dsimp only at hSw); go_simp; try with_reducible rfl)
    (try simp only [Act.put, List.setIfInBounds_toArray, List.set_cons_zero, List.set_cons_succ])
    refine wpAnyH_takeD 11 30 (v := ?_) (by kernel_rfl) (by kernel_rfl) (by kernel_rfl) (by kernel_rfl) (by rfl) (fun _ _ _ h => h) ?_ hHeld ?_
    rotate_left 1
    (intro o ho W hSw; simp only [List.getElem?_toArray, List.getElem?_cons_succ, List.getElem?_cons_zero, Option.some.injEq] at ho; subst ho; (try dsimp only at hSw); go_simp; try with_reducible rfl)
    (try simp only [Act.put, List.setIfInBounds_toArray, List.set_cons_zero, List.set_cons_succ])
    refine wpAnyH_takeD 12 31 (v := ?_) (by kernel_rfl) (by kernel_rfl) (by kernel_rfl) (by kernel_rfl) (by rfl) (fun _ _ _ h => h) ?_ hHeld ?_
    rotate_left 1
    (intro o ho W hSw; simp only [List.getElem?_toArray, List.getElem?_cons_succ, List.getElem?_cons_zero, Option.some.injEq] at ho; subst ho; (try dsimp only at hSw); go_simp; try with_reducible rfl)
    (try simp only [Act.put, List.setIfInBounds_toArray, List.set_cons_zero, List.set_cons_succ])
    refine wpAnyH_takeD 13 32 (v := ?_) (by kernel_rfl) (by kernel_rfl) (by kernel_rfl) (by kernel_rfl) (by rfl) (fun _ _ _ h => h) ?_ hHeld ?_
    rotate_left 1
    (intro o ho W hSw; simp only [List.getElem?_toArray, List.getElem?_cons_succ, List.getElem?_cons_zero, Option.some.injEq] at ho; subst ho; (try dsimp only at hSw); go_simp; try with_reducible rfl)
    (try simp only [Act.put, List.setIfInBounds_toArray, List.set_cons_zero, List.set_cons_succ])
    refine wpAnyH_takeD 15 34 (v := ?_) (by kernel_rfl) (by kernel_rfl) (by kernel_rfl) (by kernel_rfl) (by rfl) (fun _ _ _ h => h) ?_ hHeld ?_
    rotate_left 1
    (intro o ho W hSw; simp only [List.getElem?_toArray, List.getElem?_cons_succ, List.getElem?_cons_zero, Option.some.injEq] at ho; subst ho; (try dsimp only at hSw); go_simp; try with_reducible rfl)
    (try simp only [Act.put, List.setIfInBounds_toArray, List.set_cons_zero, List.set_cons_succ])
    refine wpAnyH_takeD 16 35 (v := ?_) (by kernel_rfl) (by kernel_rfl) (by kernel_rfl) (by kernel_rfl) (by rfl) (fun _ _ _ h => h) ?_ hHeld ?_
    rotate_left 1
    (intro o ho W hSw; simp only [List.getElem?_toArray, List.getElem?_cons_succ, List.getElem?_cons_zero, Option.some.injEq] at ho; subst ho; (try dsimp only at hSw); go_simp; try with_reducible rfl)
    (try simp only [Act.put, List.setIfInBounds_toArray, List.set_cons_zero, List.set_cons_succ])
    refine wpAnyH_takeD 17 36 (v := ?_) (by kernel_rfl) (by kernel_rfl) (by kernel_rfl) (by kernel_rfl) (by rfl) (fun _ _ _ h => h) ?_ hHeld ?_
    rotate_left 1
    (intro o ho W hSw; simp only [List.getElem?_toArray, List.getElem?_cons_succ, List.getElem?_cons_zero, Option.some.injEq] at ho; subst ho; (try dsimp only at hSw); go_simp; try with_reducible rfl)
    (try simp only [Act.put, List.setIfInBounds_toArray, List.set_cons_zero, List.set_cons_succ])
    refine wpAnyH_takeD 18 37 (v := ?_) (by kernel_rfl) (by kernel_rfl) (by kernel_rfl) (by kernel_rfl) (by rfl) (fun _ _ _ h => h) ?_ hHeld ?_
    rotate_left 1
    (intro o ho W hSw; simp only [List.getElem?_toArray, List.getElem?_cons_succ, List.getElem?_cons_zero, Option.some.injEq] at ho; subst ho; (try dsimp only at hSw); go_simp; try with_reducible rfl)
    (try simp only [Act.put, List.setIfInBounds_toArray, List.set_cons_zero, List.set_cons_succ])
    refine wpAnyH_onlyD 4 (by kernel_rfl) (fun o ho K hK => ?_) (by kernel_rfl)
    simp only [List.getElem?_toArray, List.getElem?_cons_succ, List.getElem?_cons_zero, Option.some.injEq] at ho
    subst ho
    go_simp
    refine (fxDiv_any qw n b k _ _ HQ.out.a.1 HQ.out.a.2 (by have := N.out; omega) (by have := N.out; omega) G1.out.m).mono ?_
    rintro e w2 ⟨rfl, h⟩
    have G2 := Lib.hid (G1.out.fx h)
    have A2 := Lib.hid (A1.out.fx h (by have := G1.out.lt; omega))
    (try have B2 := Lib.hid (B1.out.fx h (by have := G1.out.lt; omega)))
    (try have R2 := Lib.hid (R1.out.fx h (by have := G1.out.lt; omega)))
    (try have P2 := Lib.hid (P1.out.fx h))
    (try have I2 := Lib.hid (I1.out.fx h hbi))
    go_wp2_with fail
    refine hK.out _ _ (A2.out.h4) ?_
    clear hK K hHeld
    intro hHeld
    clear h G1 A1
    (try clear B1)
    (try clear R1)
    (try clear P1)
    (try clear I1)
    refine wpAnyH_onlyD 9 (by kernel_rfl) (fun o ho K hK => ?_) (by kernel_rfl)
    simp only [List.getElem?_toArray, List.getElem?_cons_succ, List.getElem?_cons_zero, Option.some.injEq] at ho
    subst ho
    go_simp
    refine (fxDiv_any qx n b k _ _ HQ.out.b.1 HQ.out.b.2 (by have := N.out; omega) (by have := N.out; omega) G2.out.m).mono ?_
    rintro e w3 ⟨rfl, h⟩
    have G3 := Lib.hid (G2.out.fx h)
    have A3 := Lib.hid (A2.out.fx h (by have := G2.out.lt; omega))
    (try have B3 := Lib.hid (B2.out.fx h (by have := G2.out.lt; omega)))
    (try have R3 := Lib.hid (R2.out.fx h (by have := G2.out.lt; omega)))
    (try have P3 := Lib.hid (P2.out.fx h))
    (try have I3 := Lib.hid (I2.out.fx h hbi))
    go_wp2_with fail
    refine hK.out _ _ (A3.out.h4) ?_
    clear hK K hHeld
    intro hHeld
    clear h G2 A2
    (try clear B2)
    (try clear R2)
    (try clear P2)
    (try clear I2)
    refine wpAnyH_onlyD 14 (by kernel_rfl) (fun o ho K hK => ?_) (by kernel_rfl)
    simp only [List.getElem?_toArray, List.getElem?_cons_succ, List.getElem?_cons_zero, Option.some.injEq] at ho
    subst ho
    go_simp
    refine (fxDiv_any qy n b k _ _ HQ.out.c.1 HQ.out.c.2 (by have := N.out; omega) (by have := N.out; omega) G3.out.m).mono ?_
    rintro e w4 ⟨rfl, h⟩
    have G4 := Lib.hid (G3.out.fx h)
    have A4 := Lib.hid (A3.out.fx h (by have := G3.out.lt; omega))
    (try have B4 := Lib.hid (B3.out.fx h (by have := G3.out.lt; omega)))
    (try have R4 := Lib.hid (R3.out.fx h (by have := G3.out.lt; omega)))
    (try have P4 := Lib.hid (P3.out.fx h))
    (try have I4 := Lib.hid (I3.out.fx h hbi))
    go_wp2_with fail
    refine hK.out _ _ (A4.out.h4) ?_
    clear hK K hHeld
    intro hHeld
    clear h G3 A3
    (try clear B3)
    (try clear R3)
    (try clear P3)
    (try clear I3)
    refine wpAnyH_onlyD 19 (by kernel_rfl) (fun o ho K hK => ?_) (by kernel_rfl)
    simp only [List.getElem?_toArray, List.getElem?_cons_succ, List.getElem?_cons_zero, Option.some.injEq] at ho
    subst ho
    go_simp
    refine (fxDiv_any qz n b k _ _ HQ.out.d.1 HQ.out.d.2 (by have := N.out; omega) (by have := N.out; omega) G4.out.m).mono ?_
    rintro e w5 ⟨rfl, h⟩
    have G5 := Lib.hid (G4.out.fx h)
    have A5 := Lib.hid (A4.out.fx h (by have := G4.out.lt; omega))
    (try have B5 := Lib.hid (B4.out.fx h (by have := G4.out.lt; omega)))
    (try have R5 := Lib.hid (R4.out.fx h (by have := G4.out.lt; omega)))
    (try have P5 := Lib.hid (P4.out.fx h))
    (try have I5 := Lib.hid (I4.out.fx h hbi))
    go_wp2_with fail
    refine hK.out _ _ (A5.out.h4) ?_
    clear hK K hHeld
    intro hHeld
    clear h G4 A4
    (try clear B4)
    (try clear R4)
    (try clear P4)
    (try clear I4)
    refine wpAnyH_takeD 20 39 (v := ?_) (by kernel_rfl) (by kernel_rfl) (by kernel_rfl) (by kernel_rfl) (by rfl) (fun _ _ _ h => h) ?_ hHeld ?_
    rotate_left 1
    (intro o ho W hSw; simp only [List.getElem?_toArray, List.getElem?_cons_succ, List.getElem?_cons_zero, Option.some.injEq] at ho; subst ho; (try dsimp only at hSw); go_simp; try with_reducible rfl)
    (try simp only [Act.put, List.setIfInBounds_toArray, List.set_cons_zero, List.set_cons_succ])
    obtain ⟨r0, r1, r2, r3⟩ := R5.out.h4
    have rf := R5.out.f
    refine wpAnyH_onlyD 21 (by kernel_rfl) (fun o ho K hK => ?_) (by kernel_rfl)
    simp only [List.getElem?_toArray, List.getElem?_cons_succ, List.getElem?_cons_zero, Option.some.injEq] at ho
    subst ho
    go_simp
    refine hK.out _ _ ((far4 A5.out (by omega) _ _ _ _).h4) ?_
    clear hK K hHeld
    intro hHeld
    refine wpAnyH_done (by kernel_rfl) ?_ _
    go_wp2
    exact bodyPost_ret (v := .agg #[.int .i64 (divF qw n), .int .i64 (divF qx n), .int .i64 (divF qy n), .int .i64 (divF qz n)]) (by simp [results, Try.results12, go_sem, r0, r1, r2, r3]) rfl ⟨rfl, G5.out.put4 (by omega) _ _ _ _⟩
theorem VDotO_any (a1 a2 a3 b1 b2 b3 : Int) (b k : Nat) (o : Bool) (w : World) (ha : In3 a1 a2 a3) (hb : In3 b1 b2 b3) (m : MAt w b k o) :
    Calls Try.prog 41 #[.pointer (some ⟨b, k, none⟩), .agg #[.int .i64 a1, .int .i64 a2, .int .i64 a3], .agg #[.int .i64 b1, .int .i64 b2, .int .i64 b3]] w fun e w' => e = .returned (.int .i64 (dotF a1 a2 a3 b1 b2 b3)) ∧ FxW w.heap.size w b k (o || dotO a1 a2 a3 b1 b2 b3) w' := by
  have E : (o || dotO a1 a2 a3 b1 b2 b3) = (o || mulO a1 b1 || mulO a2 b2 || addO (mulF a1 b1) (mulF a2 b2) || mulO a3 b3 || addO (addF (mulF a1 b1) (mulF a2 b2)) (mulF a3 b3)) := by unfold dotO; simp only [← Bool.or_assoc]
  rw [E]
  exact VDot_any a1 a2 a3 b1 b2 b3 b k o w ha hb m
set_option maxRecDepth 100000 in
set_option maxHeartbeats 4000000 in
theorem QApply_any (m1 m2 m3 m4 m5 m6 m7 m8 m9 x y z : Int) (b k : Nat) (o : Bool) (w : World) (hm : In9 m1 m2 m3 m4 m5 m6 m7 m8 m9) (hv : In3 x y z) (m : MAt w b k o) :
    Calls Try.prog 16 #[.pointer (some ⟨b, k, none⟩), .agg #[.int .i64 m1, .int .i64 m2, .int .i64 m3, .int .i64 m4, .int .i64 m5, .int .i64 m6, .int .i64 m7, .int .i64 m8, .int .i64 m9], .agg #[.int .i64 x, .int .i64 y, .int .i64 z]] w fun e w' => e = .returned (.agg #[.int .i64 (dotF m1 m2 m3 x y z), .int .i64 (dotF m4 m5 m6 x y z), .int .i64 (dotF m7 m8 m9 x y z)]) ∧ FxW w.heap.size w b k (o || dotO m1 m2 m3 x y z || dotO m4 m5 m6 x y z || dotO m7 m8 m9 x y z) w' := by
  have HN := Lib.hid hm
  have HV := Lib.hid hv
  have HM := Lib.hid m
  clear hm hv m
  go_enter Try.func16, Try.ntmps16
  go_wp2_with fail
  refine wp_gen (S := fun W => BW W w.heap.size [.int .i64 m1, .int .i64 m2, .int .i64 m3, .int .i64 m4, .int .i64 m5, .int .i64 m6, .int .i64 m7, .int .i64 m8, .int .i64 m9] ∧ VW W (w.heap.size + 1) x y z ∧ VW W (w.heap.size + 1 + 1) 0 0 0 ∧ Below w.heap.size w W) ⟨((BW.new w w.heap.size [_, _, _, _, _, _, _, _, _] _ rfl).alloc _).alloc _, (VW.new _ (w.heap.size + 1) x y z _ (by simp)).alloc _, VW.new _ _ 0 0 0 _ (by simp), by repeat (first | exact Below.refl _ _ | assumption | refine Below.setCell ?_ (by first | omega | (simp; done) | (simp; omega)) _ | refine Below.alloc ?_ (by first | omega | (simp; done) | (simp; omega)) _ | refine below_drewN ?_ _ | refine Below.drew ?_ | refine Below.trans ?_ (Below.mono (by assumption) (by first | omega | (simp; done) | (simp; omega))))⟩ (fun W0 hS => ?_)
  have A0 := Lib.hid hS.1.drew
  have B0 := Lib.hid hS.2.1.drew
  have R0 := Lib.hid hS.2.2.1.drew
  have G0 := Lib.hid ((Flag.start HM.out hS.2.2.2).more ((Below.refl _ _).drew))
  clear hS HM
  refine wp_region_held_drew (S := fun W => (W.cell? ⟨w.heap.size, 0, none⟩ = some (.int .i64 m1) ∧ W.cell? ⟨w.heap.size, 1, none⟩ = some (.int .i64 m2) ∧ W.cell? ⟨w.heap.size, 2, none⟩ = some (.int .i64 m3) ∧ W.cell? ⟨w.heap.size, 3, none⟩ = some (.int .i64 m4) ∧ W.cell? ⟨w.heap.size, 4, none⟩ = some (.int .i64 m5) ∧ W.cell? ⟨w.heap.size, 5, none⟩ = some (.int .i64 m6) ∧ W.cell? ⟨w.heap.size, 6, none⟩ = some (.int .i64 m7) ∧ W.cell? ⟨w.heap.size, 7, none⟩ = some (.int .i64 m8) ∧ W.cell? ⟨w.heap.size, 8, none⟩ = some (.int .i64 m9)) ∧ (W.cell? ⟨w.heap.size + 1, 0, none⟩ = some (.int .i64 (x)) ∧ W.cell? ⟨w.heap.size + 1, 1, none⟩ = some (.int .i64 (y)) ∧ W.cell? ⟨w.heap.size + 1, 2, none⟩ = some (.int .i64 (z)))) (by kernel_rfl) ⟨A0.out.h9, B0.out.held⟩ (fun hHeld => ?_)
  refine wpAnyH_takeD 0 7 (v := ?_) (by kernel_rfl) (by kernel_rfl) (by kernel_rfl) (by kernel_rfl) (by rfl) (fun _ _ _ h => h) ?_ hHeld ?_
  rotate_left 1
  (intro o ho W hSw; simp only [List.getElem?_toArray, List.getElem?_cons_succ, List.getElem?_cons_zero, Option.some.injEq] at ho; subst ho; (try dsimp only at hSw); go_simp; try with_reducible rfl)
  (try simp only [Act.put, List.setIfInBounds_toArray, List.set_cons_zero, List.set_cons_succ])
  refine wpAnyH_takeD 1 8 (v := ?_) (by kernel_rfl) (by kernel_rfl) (by kernel_rfl) (by kernel_rfl) (by rfl) (fun _ _ _ h => h) ?_ hHeld ?_
  rotate_left 1
  (intro o ho W hSw; simp only [List.getElem?_toArray, List.getElem?_cons_succ, List.getElem?_cons_zero, Option.some.injEq] at ho; subst ho; (try dsimp only at hSw); go_simp; try with_reducible rfl)
  (try simp only [Act.put, List.setIfInBounds_toArray, List.set_cons_zero, List.set_cons_succ])
  refine wpAnyH_takeD 2 9 (v := ?_) (by kernel_rfl) (by kernel_rfl) (by kernel_rfl) (by kernel_rfl) (by rfl) (fun _ _ _ h => h) ?_ hHeld ?_
  rotate_left 1
  (intro o ho W hSw; simp only [List.getElem?_toArray, List.getElem?_cons_succ, List.getElem?_cons_zero, Option.some.injEq] at ho; subst ho; (try dsimp only at hSw); go_simp; try with_reducible rfl)
  (try simp only [Act.put, List.setIfInBounds_toArray, List.set_cons_zero, List.set_cons_succ])
  refine wpAnyH_takeD 3 10 (v := ?_) (by kernel_rfl) (by kernel_rfl) (by kernel_rfl) (by kernel_rfl) (by rfl) (fun _ _ _ h => h) ?_ hHeld ?_
  rotate_left 1
  (intro o ho W hSw; simp only [List.getElem?_toArray, List.getElem?_cons_succ, List.getElem?_cons_zero, Option.some.injEq] at ho; subst ho; (try dsimp only at hSw); go_simp; try with_reducible rfl)
  (try simp only [Act.put, List.setIfInBounds_toArray, List.set_cons_zero, List.set_cons_succ])
  refine wpAnyH_takeD 5 12 (v := ?_) (by kernel_rfl) (by kernel_rfl) (by kernel_rfl) (by kernel_rfl) (by rfl) (fun _ _ _ h => h) ?_ hHeld ?_
  rotate_left 1
  (intro o ho W hSw; simp only [List.getElem?_toArray, List.getElem?_cons_succ, List.getElem?_cons_zero, Option.some.injEq] at ho; subst ho; (try dsimp only at hSw); go_simp; try with_reducible rfl)
  (try simp only [Act.put, List.setIfInBounds_toArray, List.set_cons_zero, List.set_cons_succ])
  refine wpAnyH_takeD 6 13 (v := ?_) (by kernel_rfl) (by kernel_rfl) (by kernel_rfl) (by kernel_rfl) (by rfl) (fun _ _ _ h => h) ?_ hHeld ?_
  rotate_left 1
  (intro o ho W hSw; simp only [List.getElem?_toArray, List.getElem?_cons_succ, List.getElem?_cons_zero, Option.some.injEq] at ho; subst ho; (try dsimp only at hSw); go_simp; try with_reducible rfl)
  (try simp only [Act.put, List.setIfInBounds_toArray, List.set_cons_zero, List.set_cons_succ])
  refine wpAnyH_takeD 7 14 (v := ?_) (by kernel_rfl) (by kernel_rfl) (by kernel_rfl) (by kernel_rfl) (by rfl) (fun _ _ _ h => h) ?_ hHeld ?_
  rotate_left 1
  (intro o ho W hSw; simp only [List.getElem?_toArray, List.getElem?_cons_succ, List.getElem?_cons_zero, Option.some.injEq] at ho; subst ho; (try dsimp only at hSw); go_simp; try with_reducible rfl)
  (try simp only [Act.put, List.setIfInBounds_toArray, List.set_cons_zero, List.set_cons_succ])
  refine wpAnyH_takeD 8 15 (v := ?_) (by kernel_rfl) (by kernel_rfl) (by kernel_rfl) (by kernel_rfl) (by rfl) (fun _ _ _ h => h) ?_ hHeld ?_
  rotate_left 1
  (intro o ho W hSw; simp only [List.getElem?_toArray, List.getElem?_cons_succ, List.getElem?_cons_zero, Option.some.injEq] at ho; subst ho; (try dsimp only at hSw); go_simp; try with_reducible rfl)
  (try simp only [Act.put, List.setIfInBounds_toArray, List.set_cons_zero, List.set_cons_succ])
  refine wpAnyH_takeD 10 17 (v := ?_) (by kernel_rfl) (by kernel_rfl) (by kernel_rfl) (by kernel_rfl) (by rfl) (fun _ _ _ h => h) ?_ hHeld ?_
  rotate_left 1
  (intro o ho W hSw; simp only [List.getElem?_toArray, List.getElem?_cons_succ, List.getElem?_cons_zero, Option.some.injEq] at ho; subst ho; (try dsimp only at hSw); go_simp; try with_reducible rfl)
  (try simp only [Act.put, List.setIfInBounds_toArray, List.set_cons_zero, List.set_cons_succ])
  refine wpAnyH_takeD 11 18 (v := ?_) (by kernel_rfl) (by kernel_rfl) (by kernel_rfl) (by kernel_rfl) (by rfl) (fun _ _ _ h => h) ?_ hHeld ?_
  rotate_left 1
  (intro o ho W hSw; simp only [List.getElem?_toArray, List.getElem?_cons_succ, List.getElem?_cons_zero, Option.some.injEq] at ho; subst ho; (try dsimp only at hSw); go_simp; try with_reducible rfl)
  (try simp only [Act.put, List.setIfInBounds_toArray, List.set_cons_zero, List.set_cons_succ])
  refine wpAnyH_takeD 12 19 (v := ?_) (by kernel_rfl) (by kernel_rfl) (by kernel_rfl) (by kernel_rfl) (by rfl) (fun _ _ _ h => h) ?_ hHeld ?_
  rotate_left 1
  (intro o ho W hSw; simp only [List.getElem?_toArray, List.getElem?_cons_succ, List.getElem?_cons_zero, Option.some.injEq] at ho; subst ho; (try dsimp only at hSw); go_simp; try with_reducible rfl)
  (try simp only [Act.put, List.setIfInBounds_toArray, List.set_cons_zero, List.set_cons_succ])
  refine wpAnyH_takeD 13 20 (v := ?_) (by kernel_rfl) (by kernel_rfl) (by kernel_rfl) (by kernel_rfl) (by rfl) (fun _ _ _ h => h) ?_ hHeld ?_
  rotate_left 1
  (intro o ho W hSw; simp only [List.getElem?_toArray, List.getElem?_cons_succ, List.getElem?_cons_zero, Option.some.injEq] at ho; subst ho; (try dsimp only at hSw); go_simp; try with_reducible rfl)
  (try simp only [Act.put, List.setIfInBounds_toArray, List.set_cons_zero, List.set_cons_succ])
  refine wpAnyH_onlyD 4 (by kernel_rfl) (fun o ho K hK => ?_) (by kernel_rfl)
  simp only [List.getElem?_toArray, List.getElem?_cons_succ, List.getElem?_cons_zero, Option.some.injEq] at ho
  subst ho
  go_simp
  refine (VDotO_any m1 m2 m3 x y z b k _ _ HN.out.a HV.out G0.out.m).mono ?_
  rintro e w1 ⟨rfl, h⟩
  have G1 := Lib.hid (G0.out.fx h)
  have A1 := Lib.hid (A0.out.fx h (by have := G0.out.lt; omega))
  (try have B1 := Lib.hid (B0.out.fx h (by have := G0.out.lt; omega)))
  (try have R1 := Lib.hid (R0.out.fx h (by have := G0.out.lt; omega)))
  (try have P1 := Lib.hid (P0.out.fx h))
  (try have I1 := Lib.hid (I0.out.fx h hbi))
  go_wp2_with fail
  refine hK.out _ _ (⟨A1.out.h9, B1.out.held⟩) ?_
  clear hK K hHeld
  intro hHeld
  clear h G0 A0
  (try clear B0)
  (try clear R0)
  (try clear P0)
  (try clear I0)
  refine wpAnyH_onlyD 9 (by kernel_rfl) (fun o ho K hK => ?_) (by kernel_rfl)
  simp only [List.getElem?_toArray, List.getElem?_cons_succ, List.getElem?_cons_zero, Option.some.injEq] at ho
  subst ho
  go_simp
  refine (VDotO_any m4 m5 m6 x y z b k _ _ HN.out.b HV.out G1.out.m).mono ?_
  rintro e w2 ⟨rfl, h⟩
  have G2 := Lib.hid (G1.out.fx h)
  have A2 := Lib.hid (A1.out.fx h (by have := G1.out.lt; omega))
  (try have B2 := Lib.hid (B1.out.fx h (by have := G1.out.lt; omega)))
  (try have R2 := Lib.hid (R1.out.fx h (by have := G1.out.lt; omega)))
  (try have P2 := Lib.hid (P1.out.fx h))
  (try have I2 := Lib.hid (I1.out.fx h hbi))
  go_wp2_with fail
  refine hK.out _ _ (⟨A2.out.h9, B2.out.held⟩) ?_
  clear hK K hHeld
  intro hHeld
  clear h G1 A1
  (try clear B1)
  (try clear R1)
  (try clear P1)
  (try clear I1)
  refine wpAnyH_onlyD 14 (by kernel_rfl) (fun o ho K hK => ?_) (by kernel_rfl)
  simp only [List.getElem?_toArray, List.getElem?_cons_succ, List.getElem?_cons_zero, Option.some.injEq] at ho
  subst ho
  go_simp
  refine (VDotO_any m7 m8 m9 x y z b k _ _ HN.out.c HV.out G2.out.m).mono ?_
  rintro e w3 ⟨rfl, h⟩
  have G3 := Lib.hid (G2.out.fx h)
  have A3 := Lib.hid (A2.out.fx h (by have := G2.out.lt; omega))
  (try have B3 := Lib.hid (B2.out.fx h (by have := G2.out.lt; omega)))
  (try have R3 := Lib.hid (R2.out.fx h (by have := G2.out.lt; omega)))
  (try have P3 := Lib.hid (P2.out.fx h))
  (try have I3 := Lib.hid (I2.out.fx h hbi))
  go_wp2_with fail
  refine hK.out _ _ (⟨A3.out.h9, B3.out.held⟩) ?_
  clear hK K hHeld
  intro hHeld
  clear h G2 A2
  (try clear B2)
  (try clear R2)
  (try clear P2)
  (try clear I2)
  refine wpAnyH_takeD 15 22 (v := ?_) (by kernel_rfl) (by kernel_rfl) (by kernel_rfl) (by kernel_rfl) (by rfl) (fun _ _ _ h => h) ?_ hHeld ?_
  rotate_left 1
  (intro o ho W hSw; simp only [List.getElem?_toArray, List.getElem?_cons_succ, List.getElem?_cons_zero, Option.some.injEq] at ho; subst ho; (try dsimp only at hSw); go_simp; try with_reducible rfl)
  (try simp only [Act.put, List.setIfInBounds_toArray, List.set_cons_zero, List.set_cons_succ])
  have r0 := R3.out.c0
  have r1 := R3.out.c1
  have r2 := R3.out.c2
  have rf := R3.out.f
  refine wpAnyH_onlyD 16 (by kernel_rfl) (fun o ho K hK => ?_) (by kernel_rfl)
  simp only [List.getElem?_toArray, List.getElem?_cons_succ, List.getElem?_cons_zero, Option.some.injEq] at ho
  subst ho
  go_simp
  refine hK.out _ _ (⟨(((A3.out.far (by omega) _ _).far (by omega) _ _).far (by omega) _ _).h9, (((B3.out.far (by omega) _ _).far (by omega) _ _).far (by omega) _ _).held⟩) ?_
  clear hK K hHeld
  intro hHeld
  refine wpAnyH_done (by kernel_rfl) ?_ _
  go_wp2
  exact bodyPost_ret (v := .agg #[.int .i64 (dotF m1 m2 m3 x y z), .int .i64 (dotF m4 m5 m6 x y z), .int .i64 (dotF m7 m8 m9 x y z)]) (by simp [results, Try.results16, go_sem, r0, r1, r2]) rfl ⟨rfl, G3.out.put3 (by omega) _ _ _⟩
set_option maxRecDepth 100000 in
set_option maxHeartbeats 4000000 in
theorem QBack_any (m1 m2 m3 m4 m5 m6 m7 m8 m9 x y z : Int) (b k : Nat) (o : Bool) (w : World) (hm : In9 m1 m2 m3 m4 m5 m6 m7 m8 m9) (hv : In3 x y z) (m : MAt w b k o) :
    Calls Try.prog 18 #[.pointer (some ⟨b, k, none⟩), .agg #[.int .i64 m1, .int .i64 m2, .int .i64 m3, .int .i64 m4, .int .i64 m5, .int .i64 m6, .int .i64 m7, .int .i64 m8, .int .i64 m9], .agg #[.int .i64 x, .int .i64 y, .int .i64 z]] w fun e w' => e = .returned (.agg #[.int .i64 (dotF m1 m4 m7 x y z), .int .i64 (dotF m2 m5 m8 x y z), .int .i64 (dotF m3 m6 m9 x y z)]) ∧ FxW w.heap.size w b k (o || dotO m1 m4 m7 x y z || dotO m2 m5 m8 x y z || dotO m3 m6 m9 x y z) w' := by
  have HN := Lib.hid hm
  have HV := Lib.hid hv
  have HM := Lib.hid m
  clear hm hv m
  go_enter Try.func18, Try.ntmps18
  go_wp2_with fail
  refine wp_gen (S := fun W => BW W w.heap.size [.int .i64 m1, .int .i64 m2, .int .i64 m3, .int .i64 m4, .int .i64 m5, .int .i64 m6, .int .i64 m7, .int .i64 m8, .int .i64 m9] ∧ VW W (w.heap.size + 1) x y z ∧ VW W (w.heap.size + 1 + 1) 0 0 0 ∧ Below w.heap.size w W) ⟨((BW.new w w.heap.size [_, _, _, _, _, _, _, _, _] _ rfl).alloc _).alloc _, (VW.new _ (w.heap.size + 1) x y z _ (by simp)).alloc _, VW.new _ _ 0 0 0 _ (by simp), by repeat (first | exact Below.refl _ _ | assumption | refine Below.setCell ?_ (by first | omega | (simp; done) | (simp; omega)) _ | refine Below.alloc ?_ (by first | omega | (simp; done) | (simp; omega)) _ | refine below_drewN ?_ _ | refine Below.drew ?_ | refine Below.trans ?_ (Below.mono (by assumption) (by first | omega | (simp; done) | (simp; omega))))⟩ (fun W0 hS => ?_)
  have A0 := Lib.hid hS.1.drew
  have B0 := Lib.hid hS.2.1.drew
  have R0 := Lib.hid hS.2.2.1.drew
  have G0 := Lib.hid ((Flag.start HM.out hS.2.2.2).more ((Below.refl _ _).drew))
  clear hS HM
  refine wp_region_held_drew (S := fun W => (W.cell? ⟨w.heap.size, 0, none⟩ = some (.int .i64 m1) ∧ W.cell? ⟨w.heap.size, 1, none⟩ = some (.int .i64 m2) ∧ W.cell? ⟨w.heap.size, 2, none⟩ = some (.int .i64 m3) ∧ W.cell? ⟨w.heap.size, 3, none⟩ = some (.int .i64 m4) ∧ W.cell? ⟨w.heap.size, 4, none⟩ = some (.int .i64 m5) ∧ W.cell? ⟨w.heap.size, 5, none⟩ = some (.int .i64 m6) ∧ W.cell? ⟨w.heap.size, 6, none⟩ = some (.int .i64 m7) ∧ W.cell? ⟨w.heap.size, 7, none⟩ = some (.int .i64 m8) ∧ W.cell? ⟨w.heap.size, 8, none⟩ = some (.int .i64 m9)) ∧ (W.cell? ⟨w.heap.size + 1, 0, none⟩ = some (.int .i64 (x)) ∧ W.cell? ⟨w.heap.size + 1, 1, none⟩ = some (.int .i64 (y)) ∧ W.cell? ⟨w.heap.size + 1, 2, none⟩ = some (.int .i64 (z)))) (by kernel_rfl) ⟨A0.out.h9, B0.out.held⟩ (fun hHeld => ?_)
  refine wpAnyH_takeD 0 7 (v := ?_) (by kernel_rfl) (by kernel_rfl) (by kernel_rfl) (by kernel_rfl) (by rfl) (fun _ _ _ h => h) ?_ hHeld ?_
  rotate_left 1
  (intro o ho W hSw; simp only [List.getElem?_toArray, List.getElem?_cons_succ, List.getElem?_cons_zero, Option.some.injEq] at ho; subst ho; (try dsimp only at hSw); go_simp; try with_reducible rfl)
  (try simp only [Act.put, List.setIfInBounds_toArray, List.set_cons_zero, List.set_cons_succ])
  refine wpAnyH_takeD 1 8 (v := ?_) (by kernel_rfl) (by kernel_rfl) (by kernel_rfl) (by kernel_rfl) (by rfl) (fun _ _ _ h => h) ?_ hHeld ?_
  rotate_left 1
  (intro o ho W hSw; simp only [List.getElem?_toArray, List.getElem?_cons_succ, List.getElem?_cons_zero, Option.some.injEq] at ho; subst ho; (try dsimp only at hSw); go_simp; try with_reducible rfl)
  (try simp only [Act.put, List.setIfInBounds_toArray, List.set_cons_zero, List.set_cons_succ])
  refine wpAnyH_takeD 3 10 (v := ?_) (by kernel_rfl) (by kernel_rfl) (by kernel_rfl) (by kernel_rfl) (by rfl) (fun _ _ _ h => h) ?_ hHeld ?_
  rotate_left 1
  (intro o ho W hSw; simp only [List.getElem?_toArray, List.getElem?_cons_succ, List.getElem?_cons_zero, Option.some.injEq] at ho; subst ho; (try dsimp only at hSw); go_simp; try with_reducible rfl)
  (try simp only [Act.put, List.setIfInBounds_toArray, List.set_cons_zero, List.set_cons_succ])
  refine wpAnyH_onlyD 2 (by kernel_rfl) (fun o ho K hK => ?_) (by kernel_rfl)
  simp only [List.getElem?_toArray, List.getElem?_cons_succ, List.getElem?_cons_zero, Option.some.injEq] at ho
  subst ho
  go_simp
  refine (columns_any m1 m2 m3 m4 m5 m6 m7 m8 m9 _).mono ?_
  rintro e w1 ⟨rfl, h⟩
  have G1 := Lib.hid (G0.out.more h)
  have A1 := Lib.hid (A0.out.below h A0.out.lt)
  have B1 := Lib.hid (B0.out.below h B0.out.lt)
  have R1 := Lib.hid (R0.out.below h R0.out.lt)
  go_wp2_with fail
  refine hK.out _ _ (⟨A1.out.h9, B1.out.held⟩) ?_
  clear hK K hHeld
  intro hHeld
  clear h G0 A0 B0 R0
  refine wpAnyH_onlyD 4 (by kernel_rfl) (fun o ho K hK => ?_) (by kernel_rfl)
  simp only [List.getElem?_toArray, List.getElem?_cons_succ, List.getElem?_cons_zero, Option.some.injEq] at ho
  subst ho
  go_simp
  refine (QApply_any m1 m4 m7 m2 m5 m8 m3 m6 m9 x y z b k _ _ HN.out.turned HV.out G1.out.m).mono ?_
  rintro e w2 ⟨rfl, h⟩
  have G2 := Lib.hid (G1.out.fx h)
  have A2 := Lib.hid (A1.out.fx h (by have := G1.out.lt; omega))
  (try have B2 := Lib.hid (B1.out.fx h (by have := G1.out.lt; omega)))
  (try have R2 := Lib.hid (R1.out.fx h (by have := G1.out.lt; omega)))
  (try have P2 := Lib.hid (P1.out.fx h))
  (try have I2 := Lib.hid (I1.out.fx h hbi))
  go_wp2_with fail
  refine hK.out _ _ (⟨A2.out.h9, B2.out.held⟩) ?_
  clear hK K hHeld
  intro hHeld
  clear h G1 A1
  (try clear B1)
  (try clear R1)
  (try clear P1)
  (try clear I1)
  have r0 := R2.out.c0
  have r1 := R2.out.c1
  have r2 := R2.out.c2
  have rf := R2.out.f
  refine wpAnyH_onlyD 5 (by kernel_rfl) (fun o ho K hK => ?_) (by kernel_rfl)
  simp only [List.getElem?_toArray, List.getElem?_cons_succ, List.getElem?_cons_zero, Option.some.injEq] at ho
  subst ho
  go_simp
  refine hK.out _ _ (⟨(((A2.out.far (by omega) _ _).far (by omega) _ _).far (by omega) _ _).h9, (((B2.out.far (by omega) _ _).far (by omega) _ _).far (by omega) _ _).held⟩) ?_
  clear hK K hHeld
  intro hHeld
  refine wpAnyH_done (by kernel_rfl) ?_ _
  go_wp2
  exact bodyPost_ret (v := .agg #[.int .i64 (dotF m1 m4 m7 x y z), .int .i64 (dotF m2 m5 m8 x y z), .int .i64 (dotF m3 m6 m9 x y z)]) (by simp [results, Try.results18, go_sem, r0, r1, r2]) rfl ⟨rfl, G2.out.put3 (by omega) _ _ _⟩
set_option maxHeartbeats 2000000 in
theorem cStep_any (c r dt : Int) (n j b k : Nat) (o : Bool) (w : World) (hc : In64 c) (hr : In64 r) (ht : In64 dt) (hbi : b ≠ j) (P : PB w n b k) (I : IB w j dt) (m : MAt w b k o) :
    Calls Try.prog 45 #[.int .i64 c, .int .i64 r, .pointer (some ⟨n, 0, none⟩), .pointer (some ⟨j, 0, none⟩)] w fun e w' => e = .returned (.int .i64 (stF c r dt)) ∧ FxW w.heap.size w b k (o || stO c r dt) w' := by
  rw [st_or]
  have P0 := Lib.hid P.drew
  have I0 := Lib.hid I.drew
  have G0 := Lib.hid ((Flag.start m (Below.refl _ _)).more ((Below.refl _ _).drew))
  clear P I m
  go_enter Try.func45, Try.ntmps45
  go_wp2_with fail
  refine wp_region_held_drew (S := fun W => W.cell? ⟨n, 0, none⟩ = some (.pointer (some ⟨b, k, none⟩)) ∧ W.cell? ⟨j, 0, none⟩ = some (.int .i64 dt)) (by kernel_rfl) ⟨P0.out.held, I0.out.c⟩ (fun hHeld => ?_)
  generalize w.drew = W0 at *
  refine wpAnyH_takeD 0 7 (v := ?_) (by kernel_rfl) (by kernel_rfl) (by kernel_rfl) (by kernel_rfl) (by rfl) (fun _ _ _ h => h) ?_ hHeld ?_
  rotate_left 1
  (intro o ho W hSw; simp only [List.getElem?_toArray, List.getElem?_cons_succ, List.getElem?_cons_zero, Option.some.injEq] at ho; subst ho; (try dsimp only at hSw); go_simp; try with_reducible rfl)
  (try simp only [Act.put, List.setIfInBounds_toArray, List.set_cons_zero, List.set_cons_succ])
  refine wpAnyH_takeD 1 8 (v := ?_) (by kernel_rfl) (by kernel_rfl) (by kernel_rfl) (by kernel_rfl) (by rfl) (fun _ _ _ h => h) ?_ hHeld ?_
  rotate_left 1
  (intro o ho W hSw; simp only [List.getElem?_toArray, List.getElem?_cons_succ, List.getElem?_cons_zero, Option.some.injEq] at ho; subst ho; (try dsimp only at hSw); go_simp; try with_reducible rfl)
  (try simp only [Act.put, List.setIfInBounds_toArray, List.set_cons_zero, List.set_cons_succ])
  refine wpAnyH_takeD 2 9 (v := ?_) (by kernel_rfl) (by kernel_rfl) (by kernel_rfl) (by kernel_rfl) (by rfl) (fun _ _ _ h => h) ?_ hHeld ?_
  rotate_left 1
  (intro o ho W hSw; simp only [List.getElem?_toArray, List.getElem?_cons_succ, List.getElem?_cons_zero, Option.some.injEq] at ho; subst ho; (try dsimp only at hSw); go_simp; try with_reducible rfl)
  (try simp only [Act.put, List.setIfInBounds_toArray, List.set_cons_zero, List.set_cons_succ])
  refine wpAnyH_takeD 3 10 (v := ?_) (by kernel_rfl) (by kernel_rfl) (by kernel_rfl) (by kernel_rfl) (by rfl) (fun _ _ _ h => h) ?_ hHeld ?_
  rotate_left 1
  (intro o ho W hSw; simp only [List.getElem?_toArray, List.getElem?_cons_succ, List.getElem?_cons_zero, Option.some.injEq] at ho; subst ho; (try dsimp only at hSw); go_simp; try with_reducible rfl)
  (try simp only [Act.put, List.setIfInBounds_toArray, List.set_cons_zero, List.set_cons_succ])
  refine wpAnyH_takeD 4 11 (v := ?_) (by kernel_rfl) (by kernel_rfl) (by kernel_rfl) (by kernel_rfl) (by rfl) (fun _ _ _ h => h) ?_ hHeld ?_
  rotate_left 1
  (intro o ho W hSw; simp only [List.getElem?_toArray, List.getElem?_cons_succ, List.getElem?_cons_zero, Option.some.injEq] at ho; subst ho; (try dsimp only at hSw); go_simp; try with_reducible rfl)
  (try simp only [Act.put, List.setIfInBounds_toArray, List.set_cons_zero, List.set_cons_succ])
  refine wpAnyH_takeD 5 12 (v := ?_) (by kernel_rfl) (by kernel_rfl) (by kernel_rfl) (by kernel_rfl) (by rfl) (fun _ _ _ h => h) ?_ hHeld ?_
  rotate_left 1
  (intro o ho W hSw; simp only [List.getElem?_toArray, List.getElem?_cons_succ, List.getElem?_cons_zero, Option.some.injEq] at ho; subst ho; (try dsimp only at hSw); go_simp; try with_reducible rfl)
  (try simp only [Act.put, List.setIfInBounds_toArray, List.set_cons_zero, List.set_cons_succ])
  refine wpAnyH_onlyD 6 (by kernel_rfl) (fun o ho K hK => ?_) (by kernel_rfl)
  simp only [List.getElem?_toArray, List.getElem?_cons_succ, List.getElem?_cons_zero, Option.some.injEq] at ho
  subst ho
  go_simp
  refine (fxMul_any r dt b k _ _ hr.1 hr.2 ht.1 ht.2 G0.out.m).mono ?_
  rintro e w1 ⟨rfl, h⟩
  have G1 := Lib.hid (G0.out.fx h)
  have P1 := Lib.hid (P0.out.fx h)
  have I1 := Lib.hid (I0.out.fx h hbi)
  go_wp2_with fail
  refine hK.out _ _ (⟨P1.out.held, I1.out.c⟩) ?_
  clear hK K hHeld
  intro hHeld
  clear h G0 P0 I0
  refine wpAnyH_onlyD 7 (by kernel_rfl) (fun o ho K hK => ?_) (by kernel_rfl)
  simp only [List.getElem?_toArray, List.getElem?_cons_succ, List.getElem?_cons_zero, Option.some.injEq] at ho
  subst ho
  go_simp
  refine (fxMul_any (mulF r dt) 2147483648 b k _ _ (mulF_in _ _).1 (mulF_in _ _).2 (by omega) (by omega) G1.out.m).mono ?_
  rintro e w2 ⟨rfl, h⟩
  have G2 := Lib.hid (G1.out.fx h)
  have P2 := Lib.hid (P1.out.fx h)
  have I2 := Lib.hid (I1.out.fx h hbi)
  go_wp2_with fail
  refine hK.out _ _ (⟨P2.out.held, I2.out.c⟩) ?_
  clear hK K hHeld
  intro hHeld
  clear h G1 P1 I1
  refine wpAnyH_onlyD 8 (by kernel_rfl) (fun o ho K hK => ?_) (by kernel_rfl)
  simp only [List.getElem?_toArray, List.getElem?_cons_succ, List.getElem?_cons_zero, Option.some.injEq] at ho
  subst ho
  go_simp
  refine (fxAdd_any c (mulF (mulF r dt) 2147483648) b k _ _ hc.1 hc.2 (mulF_in _ _).1 (mulF_in _ _).2 G2.out.m).mono ?_
  rintro e w3 ⟨rfl, h⟩
  have G3 := Lib.hid (G2.out.fx h)
  have P3 := Lib.hid (P2.out.fx h)
  have I3 := Lib.hid (I2.out.fx h hbi)
  go_wp2_with fail
  refine hK.out _ _ (⟨P3.out.held, I3.out.c⟩) ?_
  clear hK K hHeld
  intro hHeld
  clear h G2 P2 I2
  refine wpAnyH_takeD 9 6 (v := ?_) (by kernel_rfl) (by kernel_rfl) (by kernel_rfl) (by kernel_rfl) (by rfl) (fun _ _ _ h => h) ?_ hHeld ?_
  rotate_left 1
  (intro o ho W hSw; simp only [List.getElem?_toArray, List.getElem?_cons_succ, List.getElem?_cons_zero, Option.some.injEq] at ho; subst ho; (try dsimp only at hSw); go_simp; try with_reducible rfl)
  (try simp only [Act.put, List.setIfInBounds_toArray, List.set_cons_zero, List.set_cons_succ])
  refine wpAnyH_done (by kernel_rfl) ?_ _
  go_wp2
  go_ret
  exact ⟨rfl, G3.out.f⟩
set_option maxRecDepth 100000 in
set_option maxHeartbeats 8000000 in
theorem QStep_any (qw qx qy qz wx wy wz dt a b' c d n : Int) (b k : Nat) (o : Bool) (w : World) (hq : In4 qw qx qy qz) (hw : In3 wx wy wz) (ht : In64 dt) (N : StepN qw qx qy qz wx wy wz dt a b' c d) (hn : lenF (a * a + b' * b' + c * c + d * d) = n) (m : MAt w b k o) :
    Calls Try.prog 20 #[.pointer (some ⟨b, k, none⟩), .agg #[.int .i64 qw, .int .i64 qx, .int .i64 qy, .int .i64 qz], .agg #[.int .i64 wx, .int .i64 wy, .int .i64 wz], .int .i64 dt] w fun e w' => e = .returned (.agg #[.int .i64 (uW a n), .int .i64 (uX b' n), .int .i64 (uX c n), .int .i64 (uX d n)]) ∧ FxW w.heap.size w b k (o || stepO qw qx qy qz wx wy wz dt || lenO (a * a + b' * b' + c * c + d * d) || uO a b' c d n) w' := by
  have HQ := Lib.hid hq
  have HM := Lib.hid m
  have HT := Lib.hid ht
  have I4 : In4 a b' c d := ⟨by rw [← N.a]; exact stF_in _ _ _, by rw [← N.b]; exact stF_in _ _ _, by rw [← N.c]; exact stF_in _ _ _, by rw [← N.d]; exact stF_in _ _ _⟩
  have X := Lib.hid (fun (W : World) (m : MAt W b k o) => QMul_any qw qx qy qz 0 wx wy wz b k o W hq ⟨⟨by omega, by omega⟩, hw.q0.1, hw.q0.2.1, hw.q0.2.2⟩ m)
  have Y := Lib.hid (fun (o : Bool) (W : World) (m : MAt W b k o) => QUnit_any a b' c d n b k o W I4 hn m)
  have E := Lib.hid (show (o || stepO qw qx qy qz wx wy wz dt) = (o || qWo qw qx qy qz 0 wx wy wz || qXo qw qx qy qz 0 wx wy wz || qYo qw qx qy qz 0 wx wy wz || qZo qw qx qy qz 0 wx wy wz || stO qw (qW qw qx qy qz 0 wx wy wz) dt || stO qx (qX qw qx qy qz 0 wx wy wz) dt || stO qy (qY qw qx qy qz 0 wx wy wz) dt || stO qz (qZ qw qx qy qz 0 wx wy wz) dt) by unfold stepO; simp only [← Bool.or_assoc])
  have PI := Lib.hid (show In64 (qW qw qx qy qz 0 wx wy wz) ∧ In64 (qX qw qx qy qz 0 wx wy wz) ∧ In64 (qY qw qx qy qz 0 wx wy wz) ∧ In64 (qZ qw qx qy qz 0 wx wy wz) from ⟨qW_in _ _ _ _ _ _ _ _, qX_in _ _ _ _ _ _ _ _, qY_in _ _ _ _ _ _ _ _, qZ_in _ _ _ _ _ _ _ _⟩)
  have HN := Lib.hid (And.intro N.a (And.intro N.b (And.intro N.c N.d)))
  rw [E.out]
  rw [show (o || qWo qw qx qy qz 0 wx wy wz || qXo qw qx qy qz 0 wx wy wz || qYo qw qx qy qz 0 wx wy wz || qZo qw qx qy qz 0 wx wy wz || stO qw (qW qw qx qy qz 0 wx wy wz) dt || stO qx (qX qw qx qy qz 0 wx wy wz) dt || stO qy (qY qw qx qy qz 0 wx wy wz) dt || stO qz (qZ qw qx qy qz 0 wx wy wz) dt) = ((((o || qWo qw qx qy qz 0 wx wy wz || qXo qw qx qy qz 0 wx wy wz || qYo qw qx qy qz 0 wx wy wz || qZo qw qx qy qz 0 wx wy wz) || stO qw (qW qw qx qy qz 0 wx wy wz) dt) || stO qx (qX qw qx qy qz 0 wx wy wz) dt) || stO qy (qY qw qx qy qz 0 wx wy wz) dt || stO qz (qZ qw qx qy qz 0 wx wy wz) dt) from rfl]
  generalize (o || qWo qw qx qy qz 0 wx wy wz || qXo qw qx qy qz 0 wx wy wz || qYo qw qx qy qz 0 wx wy wz || qZo qw qx qy qz 0 wx wy wz) = o1 at *
  generalize qW qw qx qy qz 0 wx wy wz = pw at *
  generalize qX qw qx qy qz 0 wx wy wz = px at *
  generalize qY qw qx qy qz 0 wx wy wz = py at *
  generalize qZ qw qx qy qz 0 wx wy wz = pz at *
  clear hq hw ht N hn m I4 E
  have hmf : ∀ (fn : Fn) (first cap : Array Value) (w : World), (Instr.makeFunc fn first cap).run Try.prog w = .ok (.func fn first cap) w := fun _ _ _ _ => rfl
  go_enter Try.func20, Try.ntmps20
  go_wp2_with fail
  refine calls_gen (S := fun W => PB W w.heap.size b k ∧ BW W (w.heap.size + 1) [.int .i64 qw, .int .i64 qx, .int .i64 qy, .int .i64 qz] ∧ IB W (w.heap.size + 1 + 1 + 1) dt ∧ BW W (w.heap.size + 1 + 1 + 1 + 1) [.int .i64 0, .int .i64 0, .int .i64 0, .int .i64 0] ∧ Below w.heap.size w W) ⟨((((PB.new w b k _ HM.out.lt).alloc _).alloc _).alloc _).alloc _, (((BW.new _ (w.heap.size + 1) [_, _, _, _] _ (by simp)).alloc _).alloc _).alloc _, (IB.new _ (w.heap.size + 1 + 1 + 1) dt _ (by simp)).alloc _, BW.new _ _ [_, _, _, _] _ (by simp), by repeat (first | exact Below.refl _ _ | assumption | refine Below.setCell ?_ (by first | omega | (simp; done) | (simp; omega)) _ | refine Below.alloc ?_ (by first | omega | (simp; done) | (simp; omega)) _ | refine below_drewN ?_ _ | refine Below.drew ?_ | refine Below.trans ?_ (Below.mono (by assumption) (by first | omega | (simp; done) | (simp; omega))))⟩ (fun W0 hS => ?_)
  have P7 := Lib.hid hS.1
  have A7 := Lib.hid hS.2.1
  have I7 := Lib.hid hS.2.2.1
  have R7 := Lib.hid hS.2.2.2.1
  have G7 := Lib.hid (Flag.start HM.out hS.2.2.2.2)
  have hbi : b ≠ w.heap.size + 1 + 1 + 1 := by have := HM.out.lt; omega
  clear hS HM
  refine (X.out _ G7.out.m).mono ?_
  rintro e w1 ⟨rfl, h⟩
  have P8 := Lib.hid (P7.out.fx h)
  have G8 := Lib.hid (G7.out.fx h)
  have A8 := Lib.hid (A7.out.fx h (by have := G7.out.lt; omega))
  have R8 := Lib.hid (R7.out.fx h (by have := G7.out.lt; omega))
  have I8 := Lib.hid (I7.out.fx h hbi)
  clear h G7 A7 R7 P7 I7 X
  go_wp2_with fail
  refine wp_gen (S := fun W => PB W w.heap.size b k ∧ BW W (w.heap.size + 1) [.int .i64 qw, .int .i64 qx, .int .i64 qy, .int .i64 qz] ∧ IB W (w.heap.size + 1 + 1 + 1) dt ∧ BW W (w.heap.size + 1 + 1 + 1 + 1) [.int .i64 0, .int .i64 0, .int .i64 0, .int .i64 0] ∧ BW W w1.heap.size [.int .i64 pw, .int .i64 px, .int .i64 py, .int .i64 pz] ∧ Flag w W b k o1) ⟨P8.out.alloc _, A8.out.alloc _, I8.out.alloc _, R8.out.alloc _, BW.new w1 _ [_, _, _, _] _ rfl, G8.out.more ((Below.refl w1.heap.size w1).alloc (Nat.le_refl _) _)⟩ (fun W1 hS => ?_)
  have hz : w.heap.size + 1 + 1 + 1 + 1 < w1.heap.size := R8.out.lt
  clear A8 R8 G8 P8 I8
  generalize w1.heap.size = n1 at *
  have P0 := Lib.hid hS.1.drew
  have A0 := Lib.hid hS.2.1.drew
  have I0 := Lib.hid hS.2.2.1.drew
  have R0 := Lib.hid hS.2.2.2.1.drew
  have B0 := Lib.hid hS.2.2.2.2.1.drew
  have G0 := Lib.hid (hS.2.2.2.2.2.more ((Below.refl _ _).drew))
  clear hS
  refine wp_region_held_drew (S := fun W => W.cell? ⟨w.heap.size, 0, none⟩ = some (.pointer (some ⟨b, k, none⟩)) ∧ (W.cell? ⟨w.heap.size + 1, 0, none⟩ = some (.int .i64 qw) ∧ W.cell? ⟨w.heap.size + 1, 1, none⟩ = some (.int .i64 qx) ∧ W.cell? ⟨w.heap.size + 1, 2, none⟩ = some (.int .i64 qy) ∧ W.cell? ⟨w.heap.size + 1, 3, none⟩ = some (.int .i64 qz)) ∧ (W.cell? ⟨n1, 0, none⟩ = some (.int .i64 pw) ∧ W.cell? ⟨n1, 1, none⟩ = some (.int .i64 px) ∧ W.cell? ⟨n1, 2, none⟩ = some (.int .i64 py) ∧ W.cell? ⟨n1, 3, none⟩ = some (.int .i64 pz))) (by kernel_rfl) ⟨P0.out.held, A0.out.h4, B0.out.h4⟩ (fun hHeld => ?_)
  refine wpAnyH_takeD 0 22 (v := ?_) (by kernel_rfl) (by kernel_rfl) (by kernel_rfl) (by kernel_rfl) (by rfl) (fun _ _ _ h => h) ?_ hHeld ?_
  rotate_left 1
  (intro o ho W hSw; simp only [List.getElem?_toArray, List.getElem?_cons_succ, List.getElem?_cons_zero, Option.some.injEq] at ho; subst ho; (try dsimp only at hSw); go_simp; try with_reducible rfl)
  (try simp only [Act.put, List.setIfInBounds_toArray, List.set_cons_zero, List.set_cons_succ])
  refine wpAnyH_takeD 1 23 (v := ?_) (by kernel_rfl) (by kernel_rfl) (by kernel_rfl) (by kernel_rfl) (by rfl) (fun _ _ _ h => h) ?_ hHeld ?_
  rotate_left 1
  (intro o ho W hSw; simp only [List.getElem?_toArray, List.getElem?_cons_succ, List.getElem?_cons_zero, Option.some.injEq] at ho; subst ho; (try dsimp only at hSw); go_simp; try with_reducible rfl)
  (try simp only [Act.put, List.setIfInBounds_toArray, List.set_cons_zero, List.set_cons_succ])
  refine wpAnyH_takeD 2 24 (v := ?_) (by kernel_rfl) (by kernel_rfl) (by kernel_rfl) (by kernel_rfl) (by rfl) (fun _ _ _ h => h) ?_ hHeld ?_
  rotate_left 1
  (intro o ho W hSw; simp only [List.getElem?_toArray, List.getElem?_cons_succ, List.getElem?_cons_zero, Option.some.injEq] at ho; subst ho; (try dsimp only at hSw); go_simp; try with_reducible rfl)
  (try simp only [Act.put, List.setIfInBounds_toArray, List.set_cons_zero, List.set_cons_succ])
  refine wpAnyH_takeD 3 25 (v := ?_) (by kernel_rfl) (by kernel_rfl) (by kernel_rfl) (by kernel_rfl) (by rfl) (fun _ _ _ h => h) ?_ hHeld ?_
  rotate_left 1
  (intro o ho W hSw; simp only [List.getElem?_toArray, List.getElem?_cons_succ, List.getElem?_cons_zero, Option.some.injEq] at ho; subst ho; (try dsimp only at hSw); go_simp; try with_reducible rfl)
  (try simp only [Act.put, List.setIfInBounds_toArray, List.set_cons_zero, List.set_cons_succ])
  refine wpAnyH_takeD 4 26 (v := ?_) (by kernel_rfl) (by kernel_rfl) (by kernel_rfl) (by kernel_rfl) (by rfl) (fun _ _ _ h => h) ?_ hHeld ?_
  rotate_left 1
  (intro o ho W hSw; simp only [List.getElem?_toArray, List.getElem?_cons_succ, List.getElem?_cons_zero, Option.some.injEq] at ho; subst ho; (try dsimp only at hSw); go_simp; try with_reducible rfl)
  (try simp only [Act.put, List.setIfInBounds_toArray, List.set_cons_zero, List.set_cons_succ])
  refine wpAnyH_takeD 5 27 (v := ?_) (by kernel_rfl) (by kernel_rfl) (by kernel_rfl) (by kernel_rfl) (by rfl) (fun _ _ _ h => h) ?_ hHeld ?_
  rotate_left 1
  (intro o ho W hSw; simp only [List.getElem?_toArray, List.getElem?_cons_succ, List.getElem?_cons_zero, Option.some.injEq] at ho; subst ho; (try dsimp only at hSw); go_simp; try with_reducible rfl)
  (try simp only [Act.put, List.setIfInBounds_toArray, List.set_cons_zero, List.set_cons_succ])
  refine wpAnyH_takeD 7 29 (v := ?_) (by kernel_rfl) (by kernel_rfl) (by kernel_rfl) (by kernel_rfl) (by rfl) (fun _ _ _ h => h) ?_ hHeld ?_
  rotate_left 1
  (intro o ho W hSw; simp only [List.getElem?_toArray, List.getElem?_cons_succ, List.getElem?_cons_zero, Option.some.injEq] at ho; subst ho; (try dsimp only at hSw); go_simp; try with_reducible rfl)
  (try simp only [Act.put, List.setIfInBounds_toArray, List.set_cons_zero, List.set_cons_succ])
  refine wpAnyH_takeD 8 30 (v := ?_) (by kernel_rfl) (by kernel_rfl) (by kernel_rfl) (by kernel_rfl) (by rfl) (fun _ _ _ h => h) ?_ hHeld ?_
  rotate_left 1
  (intro o ho W hSw; simp only [List.getElem?_toArray, List.getElem?_cons_succ, List.getElem?_cons_zero, Option.some.injEq] at ho; subst ho; (try dsimp only at hSw); go_simp; try with_reducible rfl)
  (try simp only [Act.put, List.setIfInBounds_toArray, List.set_cons_zero, List.set_cons_succ])
  refine wpAnyH_takeD 9 31 (v := ?_) (by kernel_rfl) (by kernel_rfl) (by kernel_rfl) (by kernel_rfl) (by rfl) (fun _ _ _ h => h) ?_ hHeld ?_
  rotate_left 1
  (intro o ho W hSw; simp only [List.getElem?_toArray, List.getElem?_cons_succ, List.getElem?_cons_zero, Option.some.injEq] at ho; subst ho; (try dsimp only at hSw); go_simp; try with_reducible rfl)
  (try simp only [Act.put, List.setIfInBounds_toArray, List.set_cons_zero, List.set_cons_succ])
  refine wpAnyH_takeD 10 32 (v := ?_) (by kernel_rfl) (by kernel_rfl) (by kernel_rfl) (by kernel_rfl) (by rfl) (fun _ _ _ h => h) ?_ hHeld ?_
  rotate_left 1
  (intro o ho W hSw; simp only [List.getElem?_toArray, List.getElem?_cons_succ, List.getElem?_cons_zero, Option.some.injEq] at ho; subst ho; (try dsimp only at hSw); go_simp; try with_reducible rfl)
  (try simp only [Act.put, List.setIfInBounds_toArray, List.set_cons_zero, List.set_cons_succ])
  refine wpAnyH_takeD 11 33 (v := ?_) (by kernel_rfl) (by kernel_rfl) (by kernel_rfl) (by kernel_rfl) (by rfl) (fun _ _ _ h => h) ?_ hHeld ?_
  rotate_left 1
  (intro o ho W hSw; simp only [List.getElem?_toArray, List.getElem?_cons_succ, List.getElem?_cons_zero, Option.some.injEq] at ho; subst ho; (try dsimp only at hSw); go_simp; try with_reducible rfl)
  (try simp only [Act.put, List.setIfInBounds_toArray, List.set_cons_zero, List.set_cons_succ])
  refine wpAnyH_takeD 13 35 (v := ?_) (by kernel_rfl) (by kernel_rfl) (by kernel_rfl) (by kernel_rfl) (by rfl) (fun _ _ _ h => h) ?_ hHeld ?_
  rotate_left 1
  (intro o ho W hSw; simp only [List.getElem?_toArray, List.getElem?_cons_succ, List.getElem?_cons_zero, Option.some.injEq] at ho; subst ho; (try dsimp only at hSw); go_simp; try with_reducible rfl)
  (try simp only [Act.put, List.setIfInBounds_toArray, List.set_cons_zero, List.set_cons_succ])
  refine wpAnyH_takeD 14 36 (v := ?_) (by kernel_rfl) (by kernel_rfl) (by kernel_rfl) (by kernel_rfl) (by rfl) (fun _ _ _ h => h) ?_ hHeld ?_
  rotate_left 1
  (intro o ho W hSw; simp only [List.getElem?_toArray, List.getElem?_cons_succ, List.getElem?_cons_zero, Option.some.injEq] at ho; subst ho; (try dsimp only at hSw); go_simp; try with_reducible rfl)
  (try simp only [Act.put, List.setIfInBounds_toArray, List.set_cons_zero, List.set_cons_succ])
  refine wpAnyH_takeD 15 37 (v := ?_) (by kernel_rfl) (by kernel_rfl) (by kernel_rfl) (by kernel_rfl) (by rfl) (fun _ _ _ h => h) ?_ hHeld ?_
  rotate_left 1
  (intro o ho W hSw; simp only [List.getElem?_toArray, List.getElem?_cons_succ, List.getElem?_cons_zero, Option.some.injEq] at ho; subst ho; (try dsimp only at hSw); go_simp; try with_reducible rfl)
  (try simp only [Act.put, List.setIfInBounds_toArray, List.set_cons_zero, List.set_cons_succ])
  refine wpAnyH_takeD 16 38 (v := ?_) (by kernel_rfl) (by kernel_rfl) (by kernel_rfl) (by kernel_rfl) (by rfl) (fun _ _ _ h => h) ?_ hHeld ?_
  rotate_left 1
  (intro o ho W hSw; simp only [List.getElem?_toArray, List.getElem?_cons_succ, List.getElem?_cons_zero, Option.some.injEq] at ho; subst ho; (try dsimp only at hSw); go_simp; try with_reducible rfl)
  (try simp only [Act.put, List.setIfInBounds_toArray, List.set_cons_zero, List.set_cons_succ])
  refine wpAnyH_takeD 17 39 (v := ?_) (by kernel_rfl) (by kernel_rfl) (by kernel_rfl) (by kernel_rfl) (by rfl) (fun _ _ _ h => h) ?_ hHeld ?_
  rotate_left 1
  (intro o ho W hSw; simp only [List.getElem?_toArray, List.getElem?_cons_succ, List.getElem?_cons_zero, Option.some.injEq] at ho; subst ho; (try dsimp only at hSw); go_simp; try with_reducible rfl)
  (try simp only [Act.put, List.setIfInBounds_toArray, List.set_cons_zero, List.set_cons_succ])
  refine wpAnyH_takeD 19 41 (v := ?_) (by kernel_rfl) (by kernel_rfl) (by kernel_rfl) (by kernel_rfl) (by rfl) (fun _ _ _ h => h) ?_ hHeld ?_
  rotate_left 1
  (intro o ho W hSw; simp only [List.getElem?_toArray, List.getElem?_cons_succ, List.getElem?_cons_zero, Option.some.injEq] at ho; subst ho; (try dsimp only at hSw); go_simp; try with_reducible rfl)
  (try simp only [Act.put, List.setIfInBounds_toArray, List.set_cons_zero, List.set_cons_succ])
  refine wpAnyH_takeD 20 42 (v := ?_) (by kernel_rfl) (by kernel_rfl) (by kernel_rfl) (by kernel_rfl) (by rfl) (fun _ _ _ h => h) ?_ hHeld ?_
  rotate_left 1
  (intro o ho W hSw; simp only [List.getElem?_toArray, List.getElem?_cons_succ, List.getElem?_cons_zero, Option.some.injEq] at ho; subst ho; (try dsimp only at hSw); go_simp; try with_reducible rfl)
  (try simp only [Act.put, List.setIfInBounds_toArray, List.set_cons_zero, List.set_cons_succ])
  refine wpAnyH_takeD 21 43 (v := ?_) (by kernel_rfl) (by kernel_rfl) (by kernel_rfl) (by kernel_rfl) (by rfl) (fun _ _ _ h => h) ?_ hHeld ?_
  rotate_left 1
  (intro o ho W hSw; simp only [List.getElem?_toArray, List.getElem?_cons_succ, List.getElem?_cons_zero, Option.some.injEq] at ho; subst ho; (try dsimp only at hSw); go_simp; try with_reducible rfl)
  (try simp only [Act.put, List.setIfInBounds_toArray, List.set_cons_zero, List.set_cons_succ])
  refine wpAnyH_takeD 22 44 (v := ?_) (by kernel_rfl) (by kernel_rfl) (by kernel_rfl) (by kernel_rfl) (by rfl) (fun _ _ _ h => h) ?_ hHeld ?_
  rotate_left 1
  (intro o ho W hSw; simp only [List.getElem?_toArray, List.getElem?_cons_succ, List.getElem?_cons_zero, Option.some.injEq] at ho; subst ho; (try dsimp only at hSw); go_simp; try with_reducible rfl)
  (try simp only [Act.put, List.setIfInBounds_toArray, List.set_cons_zero, List.set_cons_succ])
  refine wpAnyH_takeD 23 45 (v := ?_) (by kernel_rfl) (by kernel_rfl) (by kernel_rfl) (by kernel_rfl) (by rfl) (fun _ _ _ h => h) ?_ hHeld ?_
  rotate_left 1
  (intro o ho W hSw; simp only [List.getElem?_toArray, List.getElem?_cons_succ, List.getElem?_cons_zero, Option.some.injEq] at ho; subst ho; (try dsimp only at hSw); go_simp; try with_reducible rfl)
  (try simp only [Act.put, List.setIfInBounds_toArray, List.set_cons_zero, List.set_cons_succ])
  refine wpAnyH_onlyD 6 (by kernel_rfl) (fun o ho K hK => ?_) (by kernel_rfl)
  simp only [List.getElem?_toArray, List.getElem?_cons_succ, List.getElem?_cons_zero, Option.some.injEq] at ho
  subst ho
  go_simp
  refine (cStep_any qw pw dt _ _ b k _ _ HQ.out.a PI.out.1 HT.out hbi P0.out I0.out G0.out.m).mono ?_
  rintro e w1 ⟨rfl, h⟩
  have G1 := Lib.hid (G0.out.fx h)
  have A1 := Lib.hid (A0.out.fx h (by have := G0.out.lt; omega))
  (try have B1 := Lib.hid (B0.out.fx h (by have := G0.out.lt; omega)))
  (try have R1 := Lib.hid (R0.out.fx h (by have := G0.out.lt; omega)))
  (try have P1 := Lib.hid (P0.out.fx h))
  (try have I1 := Lib.hid (I0.out.fx h hbi))
  go_wp2_with fail
  refine hK.out _ _ (⟨P1.out.held, A1.out.h4, B1.out.h4⟩) ?_
  clear hK K hHeld
  intro hHeld
  clear h G0 A0
  (try clear B0)
  (try clear R0)
  (try clear P0)
  (try clear I0)
  refine wpAnyH_onlyD 12 (by kernel_rfl) (fun o ho K hK => ?_) (by kernel_rfl)
  simp only [List.getElem?_toArray, List.getElem?_cons_succ, List.getElem?_cons_zero, Option.some.injEq] at ho
  subst ho
  go_simp
  refine (cStep_any qx px dt _ _ b k _ _ HQ.out.b PI.out.2.1 HT.out hbi P1.out I1.out G1.out.m).mono ?_
  rintro e w2 ⟨rfl, h⟩
  have G2 := Lib.hid (G1.out.fx h)
  have A2 := Lib.hid (A1.out.fx h (by have := G1.out.lt; omega))
  (try have B2 := Lib.hid (B1.out.fx h (by have := G1.out.lt; omega)))
  (try have R2 := Lib.hid (R1.out.fx h (by have := G1.out.lt; omega)))
  (try have P2 := Lib.hid (P1.out.fx h))
  (try have I2 := Lib.hid (I1.out.fx h hbi))
  go_wp2_with fail
  refine hK.out _ _ (⟨P2.out.held, A2.out.h4, B2.out.h4⟩) ?_
  clear hK K hHeld
  intro hHeld
  clear h G1 A1
  (try clear B1)
  (try clear R1)
  (try clear P1)
  (try clear I1)
  refine wpAnyH_onlyD 18 (by kernel_rfl) (fun o ho K hK => ?_) (by kernel_rfl)
  simp only [List.getElem?_toArray, List.getElem?_cons_succ, List.getElem?_cons_zero, Option.some.injEq] at ho
  subst ho
  go_simp
  refine (cStep_any qy py dt _ _ b k _ _ HQ.out.c PI.out.2.2.1 HT.out hbi P2.out I2.out G2.out.m).mono ?_
  rintro e w3 ⟨rfl, h⟩
  have G3 := Lib.hid (G2.out.fx h)
  have A3 := Lib.hid (A2.out.fx h (by have := G2.out.lt; omega))
  (try have B3 := Lib.hid (B2.out.fx h (by have := G2.out.lt; omega)))
  (try have R3 := Lib.hid (R2.out.fx h (by have := G2.out.lt; omega)))
  (try have P3 := Lib.hid (P2.out.fx h))
  (try have I3 := Lib.hid (I2.out.fx h hbi))
  go_wp2_with fail
  refine hK.out _ _ (⟨P3.out.held, A3.out.h4, B3.out.h4⟩) ?_
  clear hK K hHeld
  intro hHeld
  clear h G2 A2
  (try clear B2)
  (try clear R2)
  (try clear P2)
  (try clear I2)
  refine wpAnyH_onlyD 24 (by kernel_rfl) (fun o ho K hK => ?_) (by kernel_rfl)
  simp only [List.getElem?_toArray, List.getElem?_cons_succ, List.getElem?_cons_zero, Option.some.injEq] at ho
  subst ho
  go_simp
  refine (cStep_any qz pz dt _ _ b k _ _ HQ.out.d PI.out.2.2.2 HT.out hbi P3.out I3.out G3.out.m).mono ?_
  rintro e w4 ⟨rfl, h⟩
  have G4 := Lib.hid (G3.out.fx h)
  have A4 := Lib.hid (A3.out.fx h (by have := G3.out.lt; omega))
  (try have B4 := Lib.hid (B3.out.fx h (by have := G3.out.lt; omega)))
  (try have R4 := Lib.hid (R3.out.fx h (by have := G3.out.lt; omega)))
  (try have P4 := Lib.hid (P3.out.fx h))
  (try have I4 := Lib.hid (I3.out.fx h hbi))
  go_wp2_with fail
  refine hK.out _ _ (⟨P4.out.held, A4.out.h4, B4.out.h4⟩) ?_
  clear hK K hHeld
  intro hHeld
  clear h G3 A3
  (try clear B3)
  (try clear R3)
  (try clear P3)
  (try clear I3)
  refine wpAnyH_takeD 25 47 (v := ?_) (by kernel_rfl) (by kernel_rfl) (by kernel_rfl) (by kernel_rfl) (by rfl) (fun _ _ _ h => h) ?_ hHeld ?_
  rotate_left 1
  (intro o ho W hSw; simp only [List.getElem?_toArray, List.getElem?_cons_succ, List.getElem?_cons_zero, Option.some.injEq] at ho; subst ho; (try dsimp only at hSw); go_simp; try with_reducible rfl)
  (try simp only [Act.put, List.setIfInBounds_toArray, List.set_cons_zero, List.set_cons_succ])
  rw [show stF qw pw dt = a from HN.out.1, show stF qx px dt = b' from HN.out.2.1, show stF qy py dt = c from HN.out.2.2.1, show stF qz pz dt = d from HN.out.2.2.2]
  refine wpAnyH_onlyD 26 (by kernel_rfl) (fun o ho K hK => ?_) (by kernel_rfl)
  simp only [List.getElem?_toArray, List.getElem?_cons_succ, List.getElem?_cons_zero, Option.some.injEq] at ho
  subst ho
  go_simp
  refine (Y.out _ _ G4.out.m).mono ?_
  rintro e w5 ⟨rfl, h⟩
  have G5 := Lib.hid (G4.out.fx h)
  have A5 := Lib.hid (A4.out.fx h (by have := G4.out.lt; omega))
  (try have B5 := Lib.hid (B4.out.fx h (by have := G4.out.lt; omega)))
  (try have R5 := Lib.hid (R4.out.fx h (by have := G4.out.lt; omega)))
  (try have P5 := Lib.hid (P4.out.fx h))
  (try have I5 := Lib.hid (I4.out.fx h hbi))
  go_wp2_with fail
  refine hK.out _ _ (⟨P5.out.held, A5.out.h4, B5.out.h4⟩) ?_
  clear hK K hHeld
  intro hHeld
  clear h G4 A4
  (try clear B4)
  (try clear R4)
  (try clear P4)
  (try clear I4)
  obtain ⟨r0, r1, r2, r3⟩ := R5.out.h4
  have rf := R5.out.f
  refine wpAnyH_onlyD 27 (by kernel_rfl) (fun o ho K hK => ?_) (by kernel_rfl)
  simp only [List.getElem?_toArray, List.getElem?_cons_succ, List.getElem?_cons_zero, Option.some.injEq] at ho
  subst ho
  go_simp
  refine hK.out _ _ (⟨(P5.out.far4 (by omega) _ _ _ _).held, (far4 A5.out (by omega) _ _ _ _).h4, (far4 B5.out (by omega) _ _ _ _).h4⟩) ?_
  clear hK K hHeld
  intro hHeld
  refine wpAnyH_done (by kernel_rfl) ?_ _
  go_wp2
  exact bodyPost_ret (v := .agg #[.int .i64 (uW a n), .int .i64 (uX b' n), .int .i64 (uX c n), .int .i64 (uX d n)]) (by simp [results, Try.results20, go_sem, r0, r1, r2, r3]) rfl ⟨rfl, G5.out.put4 (by omega) _ _ _ _⟩
set_option maxHeartbeats 1000000 in
theorem QAbout_any (t : Int) (b k : Nat) (o : Bool) (w : World) (t0 : 0 ≤ t) (t1 : t ≤ 4294967295) (m : MAt w b k o) :
    Calls Try.prog 22 #[.pointer (some ⟨b, k, none⟩), .int .u32 t] w fun e w' => e = .returned (.agg #[.int .i64 (cosF (t / 2)), .int .i64 0, .int .i64 0, .int .i64 (sinF (t / 2))]) ∧ FxW w.heap.size w b k o w' := by
  have M := Lib.hid m
  clear m
  go_enter Try.func22, Try.ntmps22
  go_wp2_with fail
  refine calls_gen (S := fun W => BW W w.heap.size [.int .i64 0, .int .i64 0, .int .i64 0, .int .i64 0] ∧ Below w.heap.size w W) ⟨BW.new _ _ [_, _, _, _] _ rfl, by repeat (first | exact Below.refl _ _ | assumption | refine Below.setCell ?_ (by first | omega | (simp; done) | (simp; omega)) _ | refine Below.alloc ?_ (by first | omega | (simp; done) | (simp; omega)) _ | refine below_drewN ?_ _ | refine Below.drew ?_ | refine Below.trans ?_ (Below.mono (by assumption) (by first | omega | (simp; done) | (simp; omega))))⟩ (fun W0 hS => ?_)
  have R0 := Lib.hid hS.1
  have L0 := Lib.hid hS.2
  clear hS
  refine (Cos_any (t / 2) _ (by omega) (by omega)).mono ?_
  rintro e w1 ⟨rfl, h⟩
  have R1 := Lib.hid (R0.out.below h R0.out.lt)
  have L1 := Lib.hid (L0.out.trans (h.mono L0.out.size))
  clear h R0 L0
  go_wp2_with fail
  refine (Sin_any (t / 2) _ (by omega) (by omega)).mono ?_
  rintro e w2 ⟨rfl, h⟩
  have R2 := Lib.hid (R1.out.below h R1.out.lt)
  have L2 := Lib.hid (L1.out.trans (h.mono L1.out.size))
  clear h R1 L1
  obtain ⟨r0, r1, r2, r3⟩ := R2.out.h4
  have rf := R2.out.f
  go_wp2
  exact bodyPost_ret (v := .agg #[.int .i64 (cosF (t / 2)), .int .i64 0, .int .i64 0, .int .i64 (sinF (t / 2))]) (by simp [results, Try.results22, go_sem, r0, r1, r2, r3]) rfl ⟨rfl, (Flag.start M.out ((((L2.out.setCell (p := ⟨w.heap.size, 0, none⟩) (by simp) _).setCell (p := ⟨w.heap.size, 1, none⟩) (by simp) _).setCell (p := ⟨w.heap.size, 2, none⟩) (by simp) _).setCell (p := ⟨w.heap.size, 3, none⟩) (by simp) _)).f⟩
theorem quatC : QuatC where
  mul := QMul_any
  unit := QUnit_any
  mat := QMatrix_any
  app := QApply_any
  back := QBack_any
  step := QStep_any
  about := QAbout_any
end Go.Proofs.Ytldcmiomfahaoaa
