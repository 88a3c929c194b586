/- The walks of QuatTurns and QuatStep, whatever the program's own quat does as long as it tells what QuatC says. -/
import Derived.Test.YtldcmiomfahaoaaKh
namespace Go.Proofs.Ytldcmiomfahaoaa
open Go.RowKit
set_option linter.unusedVariables false
set_option linter.unusedSimpArgs false

/-- an attitude, a vector, a matrix and both receivers -/
def TurnCut (w : World) (n1 : Nat) (lq : List Value) (x y z : Int) (lm : List Value) (p : Bool) (t : Value) (W : World) : Prop :=
  t = .bool false ∧ BW W w.heap.size lq ∧ VW W (w.heap.size + 1) x y z ∧ BW W n1 lm ∧ Two w W (w.heap.size + 1 + 1) (w.heap.size + 1 + 1 + 1) p p
set_option maxRecDepth 100000 in
set_option maxHeartbeats 8000000 in
theorem qturns_walk (C : QuatC) (qw qx qy qz x y z : Int) (w : World) (hq : In4 qw qx qy qz) (hv : In3 x y z) :
    Calls Try.prog 5 #[.agg #[.int .i64 qw, .int .i64 qx, .int .i64 qy, .int .i64 qz], .agg #[.int .i64 x, .int .i64 y, .int .i64 z]] w fun e w' => e = .returned (.bool true) ∧ Below w.heap.size w w' := by
  have X1 := Lib.hid (fun (b : Nat) (W : World) (m : MAt W b 0 false) => C.mat qw qx qy qz b 0 false W hq m)
  have Y1 := Lib.hid (fun (b : Nat) (W : World) (m : MAt W b 0 false) => rQMatrix_any qw qx qy qz b 0 false W hq m)
  have I9 := mat_in9 qw qx qy qz
  generalize (false || matO qw qx qy qz) = p at *
  generalize diagF qy qz = m1 at *
  generalize offF qx qy qw qz = m2 at *
  generalize onF qx qz qw qy = m3 at *
  generalize onF qx qy qw qz = m4 at *
  generalize diagF qx qz = m5 at *
  generalize offF qy qz qw qx = m6 at *
  generalize offF qx qz qw qy = m7 at *
  generalize onF qy qz qw qx = m8 at *
  generalize diagF qx qy = m9 at *
  have X2 := Lib.hid (fun (b : Nat) (W : World) (m : MAt W b 0 p) => C.app m1 m2 m3 m4 m5 m6 m7 m8 m9 x y z b 0 p W I9 hv m)
  have Y2 := Lib.hid (fun (b : Nat) (W : World) (m : MAt W b 0 p) => rQApply_any m1 m2 m3 m4 m5 m6 m7 m8 m9 x y z b 0 p W I9 hv m)
  generalize (p || dotO m1 m2 m3 x y z || dotO m4 m5 m6 x y z || dotO m7 m8 m9 x y z) = p2 at *
  have X3 := Lib.hid (fun (b : Nat) (W : World) (m : MAt W b 0 p2) => C.back m1 m2 m3 m4 m5 m6 m7 m8 m9 x y z b 0 p2 W I9 hv m)
  have Y3 := Lib.hid (fun (b : Nat) (W : World) (m : MAt W b 0 p2) => rQBack_any m1 m2 m3 m4 m5 m6 m7 m8 m9 x y z b 0 p2 W I9 hv m)
  generalize (p2 || dotO m1 m4 m7 x y z || dotO m2 m5 m8 x y z || dotO m3 m6 m9 x y z) = p3 at *
  generalize dotF m1 m2 m3 x y z = u1 at *
  generalize dotF m4 m5 m6 x y z = u2 at *
  generalize dotF m7 m8 m9 x y z = u3 at *
  generalize dotF m1 m4 m7 x y z = v1 at *
  generalize dotF m2 m5 m8 x y z = v2 at *
  generalize dotF m3 m6 m9 x y z = v3 at *
  have HC := Lib.hid C
  clear hq hv C I9
  go_enter Try.func5, Try.ntmps5
  go_wp2_with fail
  refine calls_gen (S := fun W => BW W w.heap.size [.int .i64 qw, .int .i64 qx, .int .i64 qy, .int .i64 qz] ∧ VW W (w.heap.size + 1) x y z ∧ Two w W (w.heap.size + 1 + 1) (w.heap.size + 1 + 1 + 1) false false)
    ⟨(((BW.new w w.heap.size [_, _, _, _] _ rfl).alloc _).alloc _).alloc _, ((VW.new _ (w.heap.size + 1) x y z _ (by simp)).alloc _).alloc _, two_at6 (((Below.refl w.heap.size w).alloc (Nat.le_refl _) _).alloc (by simp) _) (by simp) (by simp) _ _⟩ (fun W0 hS => ?_)
  have A0 := Lib.hid hS.1
  have B0 := Lib.hid hS.2.1
  have T0 := Lib.hid hS.2.2
  clear hS
  refine (X1.out _ _ T0.out.a).mono ?_
  rintro e w1 ⟨rfl, h⟩
  have T1 := Lib.hid (T0.out.fst h)
  have A1 := Lib.hid (A0.out.fx h (by omega))
  have B1 := Lib.hid (B0.out.fx h (by omega))
  clear h A0 B0 T0 X1
  go_wp2_with fail
  refine wp_gen (S := fun W => BW W w.heap.size [.int .i64 qw, .int .i64 qx, .int .i64 qy, .int .i64 qz] ∧ VW W (w.heap.size + 1) x y z ∧ BW W w1.heap.size [.int .i64 m1, .int .i64 m2, .int .i64 m3, .int .i64 m4, .int .i64 m5, .int .i64 m6, .int .i64 m7, .int .i64 m8, .int .i64 m9] ∧ Two w W (w.heap.size + 1 + 1) (w.heap.size + 1 + 1 + 1) p false)
    ⟨A1.out.alloc _, B1.out.alloc _, BW.new w1 _ [_, _, _, _, _, _, _, _, _] _ rfl, T1.out.more ((Below.refl w1.heap.size w1).alloc (Nat.le_refl _) _)⟩ (fun W1 hS => ?_)
  have hz1 : w.heap.size + 1 + 1 + 1 < w1.heap.size := T1.out.b.lt
  clear A1 B1 T1
  generalize w1.heap.size = n1 at *
  have A0 := Lib.hid hS.1.drew
  have B0 := Lib.hid hS.2.1.drew
  have U0 := Lib.hid hS.2.2.1.drew
  have T0 := Lib.hid hS.2.2.2.drew
  clear hS
  go_cut [30] (fun t W => TurnCut w n1 [.int .i64 qw, .int .i64 qx, .int .i64 qy, .int .i64 qz] x y z [.int .i64 m1, .int .i64 m2, .int .i64 m3, .int .i64 m4, .int .i64 m5, .int .i64 m6, .int .i64 m7, .int .i64 m8, .int .i64 m9] p t W)
  case first =>
    refine wp_region_held_drew (S := fun W => ((W.cell? ⟨w.heap.size, 0, none⟩ = some (.int .i64 qw) ∧ W.cell? ⟨w.heap.size, 1, none⟩ = some (.int .i64 qx) ∧ W.cell? ⟨w.heap.size, 2, none⟩ = some (.int .i64 qy) ∧ W.cell? ⟨w.heap.size, 3, none⟩ = some (.int .i64 qz)) ∧ (W.cell? ⟨w.heap.size + 1, 0, none⟩ = some (.int .i64 (x)) ∧ W.cell? ⟨w.heap.size + 1, 1, none⟩ = some (.int .i64 (y)) ∧ W.cell? ⟨w.heap.size + 1, 2, none⟩ = some (.int .i64 (z))) ∧ (W.cell? ⟨n1, 0, none⟩ = some (.int .i64 m1) ∧ W.cell? ⟨n1, 1, none⟩ = some (.int .i64 m2) ∧ W.cell? ⟨n1, 2, none⟩ = some (.int .i64 m3) ∧ W.cell? ⟨n1, 3, none⟩ = some (.int .i64 m4) ∧ W.cell? ⟨n1, 4, none⟩ = some (.int .i64 m5) ∧ W.cell? ⟨n1, 5, none⟩ = some (.int .i64 m6) ∧ W.cell? ⟨n1, 6, none⟩ = some (.int .i64 m7) ∧ W.cell? ⟨n1, 7, none⟩ = some (.int .i64 m8) ∧ W.cell? ⟨n1, 8, none⟩ = some (.int .i64 m9)))) (by kernel_rfl) ⟨A0.out.h4, B0.out.held, U0.out.h9⟩ (fun hHeld => ?_)
    refine wpAnyH_takeD 0 15 (v := ?_) (by kernel_rfl) (by kernel_rfl) (by kernel_rfl) (by kernel_rfl) (by rfl) (fun _ _ _ h => h) ?_ hHeld ?_
    rotate_left 1
    (intro o ho W hSw; simp only [List.getElem?_toArray, List.getElem?_cons_succ, List.getElem?_cons_zero, Option.some.injEq] at ho; subst ho; (try dsimp only at hSw); go_simp; try with_reducible rfl)
    (try simp only [Act.put, List.setIfInBounds_toArray, List.set_cons_zero, List.set_cons_succ])
    refine wpAnyH_takeD 1 16 (v := ?_) (by kernel_rfl) (by kernel_rfl) (by kernel_rfl) (by kernel_rfl) (by rfl) (fun _ _ _ h => h) ?_ hHeld ?_
    rotate_left 1
    (intro o ho W hSw; simp only [List.getElem?_toArray, List.getElem?_cons_succ, List.getElem?_cons_zero, Option.some.injEq] at ho; subst ho; (try dsimp only at hSw); go_simp; try with_reducible rfl)
    (try simp only [Act.put, List.setIfInBounds_toArray, List.set_cons_zero, List.set_cons_succ])
    refine wpAnyH_takeD 2 17 (v := ?_) (by kernel_rfl) (by kernel_rfl) (by kernel_rfl) (by kernel_rfl) (by rfl) (fun _ _ _ h => h) ?_ hHeld ?_
    rotate_left 1
    (intro o ho W hSw; simp only [List.getElem?_toArray, List.getElem?_cons_succ, List.getElem?_cons_zero, Option.some.injEq] at ho; subst ho; (try dsimp only at hSw); go_simp; try with_reducible rfl)
    (try simp only [Act.put, List.setIfInBounds_toArray, List.set_cons_zero, List.set_cons_succ])
    refine wpAnyH_onlyD 3 (by kernel_rfl) (fun o ho K hK => ?_) (by kernel_rfl)
    simp only [List.getElem?_toArray, List.getElem?_cons_succ, List.getElem?_cons_zero, Option.some.injEq] at ho
    subst ho
    go_simp
    refine (Y1.out _ _ T0.out.b).mono ?_
    rintro e w1 ⟨rfl, h⟩
    have T1 := Lib.hid (T0.out.snd h)
    have A1 := Lib.hid (A0.out.fx h (by omega))
    (try have B1 := Lib.hid (B0.out.fx h (by omega)))
    (try have U1 := Lib.hid (U0.out.fx h (by omega)))
    (try have V1 := Lib.hid (V0.out.fx h (by omega)))
    go_wp2_with fail
    refine hK.out _ _ (⟨A1.out.h4, B1.out.held, U1.out.h9⟩) ?_
    clear hK K hHeld
    intro hHeld
    clear h T0 A0
    (try clear B0)
    (try clear U0)
    (try clear V0)
    refine wpAnyH_grow (fun W => ((W.cell? ⟨w.heap.size, 0, none⟩ = some (.int .i64 qw) ∧ W.cell? ⟨w.heap.size, 1, none⟩ = some (.int .i64 qx) ∧ W.cell? ⟨w.heap.size, 2, none⟩ = some (.int .i64 qy) ∧ W.cell? ⟨w.heap.size, 3, none⟩ = some (.int .i64 qz)) ∧ (W.cell? ⟨w.heap.size + 1, 0, none⟩ = some (.int .i64 (x)) ∧ W.cell? ⟨w.heap.size + 1, 1, none⟩ = some (.int .i64 (y)) ∧ W.cell? ⟨w.heap.size + 1, 2, none⟩ = some (.int .i64 (z))) ∧ (W.cell? ⟨n1, 0, none⟩ = some (.int .i64 m1) ∧ W.cell? ⟨n1, 1, none⟩ = some (.int .i64 m2) ∧ W.cell? ⟨n1, 2, none⟩ = some (.int .i64 m3) ∧ W.cell? ⟨n1, 3, none⟩ = some (.int .i64 m4) ∧ W.cell? ⟨n1, 4, none⟩ = some (.int .i64 m5) ∧ W.cell? ⟨n1, 5, none⟩ = some (.int .i64 m6) ∧ W.cell? ⟨n1, 6, none⟩ = some (.int .i64 m7) ∧ W.cell? ⟨n1, 7, none⟩ = some (.int .i64 m8) ∧ W.cell? ⟨n1, 8, none⟩ = some (.int .i64 m9))) ∧ W.cell? ⟨w.heap.size + 1 + 1, 0, none⟩ = some (.bool p) ∧ W.cell? ⟨w.heap.size + 1 + 1 + 1, 0, none⟩ = some (.bool p)) (fun _ h => h.1) ⟨hHeld, T1.out.a.c, T1.out.b.c⟩ (fun hHeld => ?_)
    refine wpAnyH_takeD 4 19 (v := ?_) (by kernel_rfl) (by kernel_rfl) (by kernel_rfl) (by kernel_rfl) (by rfl) (fun _ _ _ h => h) ?_ hHeld ?_
    rotate_left 1
    (intro o ho W hSw; simp only [List.getElem?_toArray, List.getElem?_cons_succ, List.getElem?_cons_zero, Option.some.injEq] at ho; subst ho; (try dsimp only at hSw); go_simp; try with_reducible rfl)
    (try simp only [Act.put, List.setIfInBounds_toArray, List.set_cons_zero, List.set_cons_succ])
    refine wpAnyH_takeD 5 20 (v := ?_) (by kernel_rfl) (by kernel_rfl) (by kernel_rfl) (by kernel_rfl) (by rfl) (fun _ _ _ h => h) ?_ hHeld ?_
    rotate_left 1
    (intro o ho W hSw; simp only [List.getElem?_toArray, List.getElem?_cons_succ, List.getElem?_cons_zero, Option.some.injEq] at ho; subst ho; (try dsimp only at hSw); go_simp; try with_reducible rfl)
    (try simp only [Act.put, List.setIfInBounds_toArray, List.set_cons_zero, List.set_cons_succ])
    refine wpAnyH_takeD 6 21 (v := ?_) (by kernel_rfl) (by kernel_rfl) (by kernel_rfl) (by kernel_rfl) (by rfl) (fun _ _ _ h => h) ?_ hHeld ?_
    rotate_left 1
    (intro o ho W hSw; simp only [List.getElem?_toArray, List.getElem?_cons_succ, List.getElem?_cons_zero, Option.some.injEq] at ho; subst ho; (try dsimp only at hSw); go_simp; try with_reducible rfl)
    (try simp only [Act.put, List.setIfInBounds_toArray, List.set_cons_zero, List.set_cons_succ])
    refine wpAnyH_takeD 7 22 (v := ?_) (by kernel_rfl) (by kernel_rfl) (by kernel_rfl) (by kernel_rfl) (by rfl) (fun _ _ _ h => h) ?_ hHeld ?_
    rotate_left 1
    (intro o ho W hSw; simp only [List.getElem?_toArray, List.getElem?_cons_succ, List.getElem?_cons_zero, Option.some.injEq] at ho; subst ho; (try dsimp only at hSw); go_simp; try with_reducible rfl)
    (try simp only [Act.put, List.setIfInBounds_toArray, List.set_cons_zero, List.set_cons_succ])
    refine wpAnyH_takeD 8 23 (v := ?_) (by kernel_rfl) (by kernel_rfl) (by kernel_rfl) (by kernel_rfl) (by rfl) (fun _ _ _ h => h) ?_ hHeld ?_
    rotate_left 1
    (intro o ho W hSw; simp only [List.getElem?_toArray, List.getElem?_cons_succ, List.getElem?_cons_zero, Option.some.injEq] at ho; subst ho; (try dsimp only at hSw); go_simp; try with_reducible rfl)
    (try simp only [Act.put, List.setIfInBounds_toArray, List.set_cons_zero, List.set_cons_succ])
    refine wpAnyH_takeD 9 24 (v := ?_) (by kernel_rfl) (by kernel_rfl) (by kernel_rfl) (by kernel_rfl) (by rfl) (fun _ _ _ h => h) ?_ hHeld ?_
    rotate_left 1
    (intro o ho W hSw; simp only [List.getElem?_toArray, List.getElem?_cons_succ, List.getElem?_cons_zero, Option.some.injEq] at ho; subst ho; (try dsimp only at hSw); go_simp; try with_reducible rfl)
    (try simp only [Act.put, List.setIfInBounds_toArray, List.set_cons_zero, List.set_cons_succ])
    refine wpAnyH_takeD 10 25 (v := ?_) (by kernel_rfl) (by kernel_rfl) (by kernel_rfl) (by kernel_rfl) (by rfl) (fun _ _ _ h => h) ?_ hHeld ?_
    rotate_left 1
    (intro o ho W hSw; simp only [List.getElem?_toArray, List.getElem?_cons_succ, List.getElem?_cons_zero, Option.some.injEq] at ho; subst ho; (try dsimp only at hSw); go_simp; try with_reducible rfl)
    (try simp only [Act.put, List.setIfInBounds_toArray, List.set_cons_zero, List.set_cons_succ])
    refine wpAnyH_takeD 11 26 (v := ?_) (by kernel_rfl) (by kernel_rfl) (by kernel_rfl) (by kernel_rfl) (by rfl) (fun _ _ _ h => h) ?_ hHeld ?_
    rotate_left 1
    (intro o ho W hSw; simp only [List.getElem?_toArray, List.getElem?_cons_succ, List.getElem?_cons_zero, Option.some.injEq] at ho; subst ho; (try dsimp only at hSw); go_simp; try with_reducible rfl)
    (try simp only [Act.put, List.setIfInBounds_toArray, List.set_cons_zero, List.set_cons_succ])
    refine wpAnyH_takeD 12 27 (v := ?_) (by kernel_rfl) (by kernel_rfl) (by kernel_rfl) (by kernel_rfl) (by rfl) (fun _ _ _ h => h) ?_ hHeld ?_
    rotate_left 1
    (intro o ho W hSw; simp only [List.getElem?_toArray, List.getElem?_cons_succ, List.getElem?_cons_zero, Option.some.injEq] at ho; subst ho; (try dsimp only at hSw); go_simp; try with_reducible rfl)
    (try simp only [Act.put, List.setIfInBounds_toArray, List.set_cons_zero, List.set_cons_succ])
    refine wpAnyH_takeD 13 28 (v := ?_) (by kernel_rfl) (by kernel_rfl) (by kernel_rfl) (by kernel_rfl) (by rfl) (fun _ _ _ h => h) ?_ hHeld ?_
    rotate_left 1
    (intro o ho W hSw; simp only [List.getElem?_toArray, List.getElem?_cons_succ, List.getElem?_cons_zero, Option.some.injEq] at ho; subst ho; (try dsimp only at hSw); go_simp; try with_reducible rfl)
    (try simp only [Act.put, List.setIfInBounds_toArray, List.set_cons_zero, List.set_cons_succ])
    refine wpAnyH_takeD 14 29 (v := ?_) (by kernel_rfl) (by kernel_rfl) (by kernel_rfl) (by kernel_rfl) (by rfl) (fun _ _ _ h => h) ?_ hHeld ?_
    rotate_left 1
    (intro o ho W hSw; simp only [List.getElem?_toArray, List.getElem?_cons_succ, List.getElem?_cons_zero, Option.some.injEq] at ho; subst ho; (try dsimp only at hSw); go_simp; try with_reducible rfl)
    (try simp only [Act.put, List.setIfInBounds_toArray, List.set_cons_zero, List.set_cons_succ])
    refine wpAnyH_takeD 15 30 (v := ?_) (by kernel_rfl) (by kernel_rfl) (by kernel_rfl) (by kernel_rfl) (by rfl) (fun _ _ _ h => h) ?_ hHeld ?_
    rotate_left 1
    (intro o ho W hSw; simp only [List.getElem?_toArray, List.getElem?_cons_succ, List.getElem?_cons_zero, Option.some.injEq] at ho; subst ho; (try dsimp only at hSw); go_simp; try with_reducible rfl)
    (try simp only [Act.put, List.setIfInBounds_toArray, List.set_cons_zero, List.set_cons_succ])
    refine wpAnyH_done (by kernel_rfl) ?_ _
    go_wp2_with fail
    go_meet
    exact ⟨rfl, A1.out, B1.out, U1.out, T1.out⟩
  case rest =>
    obtain ⟨rfl, HA, HB, HU, HT⟩ := hcut
    clear A0 B0 U0 T0 Y1
    have A0 := Lib.hid HA.drew
    have B0 := Lib.hid HB.drew
    have U0 := Lib.hid HU.drew
    have T0 := Lib.hid HT.drew
    clear HA HB HU HT
    go_wp2_with fail
    refine wp_region_held_drew (S := fun W => ((W.cell? ⟨w.heap.size, 0, none⟩ = some (.int .i64 qw) ∧ W.cell? ⟨w.heap.size, 1, none⟩ = some (.int .i64 qx) ∧ W.cell? ⟨w.heap.size, 2, none⟩ = some (.int .i64 qy) ∧ W.cell? ⟨w.heap.size, 3, none⟩ = some (.int .i64 qz)) ∧ (W.cell? ⟨w.heap.size + 1, 0, none⟩ = some (.int .i64 (x)) ∧ W.cell? ⟨w.heap.size + 1, 1, none⟩ = some (.int .i64 (y)) ∧ W.cell? ⟨w.heap.size + 1, 2, none⟩ = some (.int .i64 (z))) ∧ (W.cell? ⟨n1, 0, none⟩ = some (.int .i64 m1) ∧ W.cell? ⟨n1, 1, none⟩ = some (.int .i64 m2) ∧ W.cell? ⟨n1, 2, none⟩ = some (.int .i64 m3) ∧ W.cell? ⟨n1, 3, none⟩ = some (.int .i64 m4) ∧ W.cell? ⟨n1, 4, none⟩ = some (.int .i64 m5) ∧ W.cell? ⟨n1, 5, none⟩ = some (.int .i64 m6) ∧ W.cell? ⟨n1, 6, none⟩ = some (.int .i64 m7) ∧ W.cell? ⟨n1, 7, none⟩ = some (.int .i64 m8) ∧ W.cell? ⟨n1, 8, none⟩ = some (.int .i64 m9)))) (by kernel_rfl) ⟨A0.out.h4, B0.out.held, U0.out.h9⟩ (fun hHeld => ?_)
    refine wpAnyH_takeD 0 31 (v := ?_) (by kernel_rfl) (by kernel_rfl) (by kernel_rfl) (by kernel_rfl) (by rfl) (fun _ _ _ h => h) ?_ hHeld ?_
    rotate_left 1
    (intro o ho W hSw; simp only [List.getElem?_toArray, List.getElem?_cons_succ, List.getElem?_cons_zero, Option.some.injEq] at ho; subst ho; (try dsimp only at hSw); go_simp; try with_reducible rfl)
    (try simp only [Act.put, List.setIfInBounds_toArray, List.set_cons_zero, List.set_cons_succ])
    refine wpAnyH_takeD 1 32 (v := ?_) (by kernel_rfl) (by kernel_rfl) (by kernel_rfl) (by kernel_rfl) (by rfl) (fun _ _ _ h => h) ?_ hHeld ?_
    rotate_left 1
    (intro o ho W hSw; simp only [List.getElem?_toArray, List.getElem?_cons_succ, List.getElem?_cons_zero, Option.some.injEq] at ho; subst ho; (try dsimp only at hSw); go_simp; try with_reducible rfl)
    (try simp only [Act.put, List.setIfInBounds_toArray, List.set_cons_zero, List.set_cons_succ])
    refine wpAnyH_takeD 2 33 (v := ?_) (by kernel_rfl) (by kernel_rfl) (by kernel_rfl) (by kernel_rfl) (by rfl) (fun _ _ _ h => h) ?_ hHeld ?_
    rotate_left 1
    (intro o ho W hSw; simp only [List.getElem?_toArray, List.getElem?_cons_succ, List.getElem?_cons_zero, Option.some.injEq] at ho; subst ho; (try dsimp only at hSw); go_simp; try with_reducible rfl)
    (try simp only [Act.put, List.setIfInBounds_toArray, List.set_cons_zero, List.set_cons_succ])
    refine wpAnyH_takeD 4 35 (v := ?_) (by kernel_rfl) (by kernel_rfl) (by kernel_rfl) (by kernel_rfl) (by rfl) (fun _ _ _ h => h) ?_ hHeld ?_
    rotate_left 1
    (intro o ho W hSw; simp only [List.getElem?_toArray, List.getElem?_cons_succ, List.getElem?_cons_zero, Option.some.injEq] at ho; subst ho; (try dsimp only at hSw); go_simp; try with_reducible rfl)
    (try simp only [Act.put, List.setIfInBounds_toArray, List.set_cons_zero, List.set_cons_succ])
    refine wpAnyH_takeD 5 36 (v := ?_) (by kernel_rfl) (by kernel_rfl) (by kernel_rfl) (by kernel_rfl) (by rfl) (fun _ _ _ h => h) ?_ hHeld ?_
    rotate_left 1
    (intro o ho W hSw; simp only [List.getElem?_toArray, List.getElem?_cons_succ, List.getElem?_cons_zero, Option.some.injEq] at ho; subst ho; (try dsimp only at hSw); go_simp; try with_reducible rfl)
    (try simp only [Act.put, List.setIfInBounds_toArray, List.set_cons_zero, List.set_cons_succ])
    refine wpAnyH_takeD 6 37 (v := ?_) (by kernel_rfl) (by kernel_rfl) (by kernel_rfl) (by kernel_rfl) (by rfl) (fun _ _ _ h => h) ?_ hHeld ?_
    rotate_left 1
    (intro o ho W hSw; simp only [List.getElem?_toArray, List.getElem?_cons_succ, List.getElem?_cons_zero, Option.some.injEq] at ho; subst ho; (try dsimp only at hSw); go_simp; try with_reducible rfl)
    (try simp only [Act.put, List.setIfInBounds_toArray, List.set_cons_zero, List.set_cons_succ])
    refine wpAnyH_onlyD 3 (by kernel_rfl) (fun o ho K hK => ?_) (by kernel_rfl)
    simp only [List.getElem?_toArray, List.getElem?_cons_succ, List.getElem?_cons_zero, Option.some.injEq] at ho
    subst ho
    go_simp
    refine (X2.out _ _ T0.out.a).mono ?_
    rintro e w1 ⟨rfl, h⟩
    have T1 := Lib.hid (T0.out.fst h)
    have A1 := Lib.hid (A0.out.fx h (by omega))
    (try have B1 := Lib.hid (B0.out.fx h (by omega)))
    (try have U1 := Lib.hid (U0.out.fx h (by omega)))
    (try have V1 := Lib.hid (V0.out.fx h (by omega)))
    go_wp2_with fail
    refine hK.out _ _ (⟨A1.out.h4, B1.out.held, U1.out.h9⟩) ?_
    clear hK K hHeld
    intro hHeld
    clear h T0 A0
    (try clear B0)
    (try clear U0)
    (try clear V0)
    refine wpAnyH_onlyD 7 (by kernel_rfl) (fun o ho K hK => ?_) (by kernel_rfl)
    simp only [List.getElem?_toArray, List.getElem?_cons_succ, List.getElem?_cons_zero, Option.some.injEq] at ho
    subst ho
    go_simp
    refine (Y2.out _ _ T1.out.b).mono ?_
    rintro e w2 ⟨rfl, h⟩
    have T2 := Lib.hid (T1.out.snd h)
    have A2 := Lib.hid (A1.out.fx h (by omega))
    (try have B2 := Lib.hid (B1.out.fx h (by omega)))
    (try have U2 := Lib.hid (U1.out.fx h (by omega)))
    (try have V2 := Lib.hid (V1.out.fx h (by omega)))
    go_wp2_with fail
    refine hK.out _ _ (⟨A2.out.h4, B2.out.held, U2.out.h9⟩) ?_
    clear hK K hHeld
    intro hHeld
    clear h T1 A1
    (try clear B1)
    (try clear U1)
    (try clear V1)
    refine wpAnyH_takeD 8 39 (v := ?_) (by kernel_rfl) (by kernel_rfl) (by kernel_rfl) (by kernel_rfl) (by rfl) (fun _ _ _ h => h) ?_ hHeld ?_
    rotate_left 1
    (intro o ho W hSw; simp only [List.getElem?_toArray, List.getElem?_cons_succ, List.getElem?_cons_zero, Option.some.injEq] at ho; subst ho; (try dsimp only at hSw); go_simp; try with_reducible rfl)
    (try simp only [Act.put, List.setIfInBounds_toArray, List.set_cons_zero, List.set_cons_succ])
    refine wpAnyH_takeD 9 40 (v := ?_) (by kernel_rfl) (by kernel_rfl) (by kernel_rfl) (by kernel_rfl) (by rfl) (fun _ _ _ h => h) ?_ hHeld ?_
    rotate_left 1
    (intro o ho W hSw; simp only [List.getElem?_toArray, List.getElem?_cons_succ, List.getElem?_cons_zero, Option.some.injEq] at ho; subst ho; (try dsimp only at hSw); go_simp; try with_reducible rfl)
    (try simp only [Act.put, List.setIfInBounds_toArray, List.set_cons_zero, List.set_cons_succ])
    refine wpAnyH_takeD 10 41 (v := ?_) (by kernel_rfl) (by kernel_rfl) (by kernel_rfl) (by kernel_rfl) (by rfl) (fun _ _ _ h => h) ?_ hHeld ?_
    rotate_left 1
    (intro o ho W hSw; simp only [List.getElem?_toArray, List.getElem?_cons_succ, List.getElem?_cons_zero, Option.some.injEq] at ho; subst ho; (try dsimp only at hSw); go_simp; try with_reducible rfl)
    (try simp only [Act.put, List.setIfInBounds_toArray, List.set_cons_zero, List.set_cons_succ])
    refine wpAnyH_takeD 11 42 (v := ?_) (by kernel_rfl) (by kernel_rfl) (by kernel_rfl) (by kernel_rfl) (by rfl) (fun _ _ _ h => h) ?_ hHeld ?_
    rotate_left 1
    (intro o ho W hSw; simp only [List.getElem?_toArray, List.getElem?_cons_succ, List.getElem?_cons_zero, Option.some.injEq] at ho; subst ho; (try dsimp only at hSw); go_simp; try with_reducible rfl)
    (try simp only [Act.put, List.setIfInBounds_toArray, List.set_cons_zero, List.set_cons_succ])
    refine wpAnyH_takeD 12 43 (v := ?_) (by kernel_rfl) (by kernel_rfl) (by kernel_rfl) (by kernel_rfl) (by rfl) (fun _ _ _ h => h) ?_ hHeld ?_
    rotate_left 1
    (intro o ho W hSw; simp only [List.getElem?_toArray, List.getElem?_cons_succ, List.getElem?_cons_zero, Option.some.injEq] at ho; subst ho; (try dsimp only at hSw); go_simp; try with_reducible rfl)
    (try simp only [Act.put, List.setIfInBounds_toArray, List.set_cons_zero, List.set_cons_succ])
    refine wpAnyH_takeD 14 45 (v := ?_) (by kernel_rfl) (by kernel_rfl) (by kernel_rfl) (by kernel_rfl) (by rfl) (fun _ _ _ h => h) ?_ hHeld ?_
    rotate_left 1
    (intro o ho W hSw; simp only [List.getElem?_toArray, List.getElem?_cons_succ, List.getElem?_cons_zero, Option.some.injEq] at ho; subst ho; (try dsimp only at hSw); go_simp; try with_reducible rfl)
    (try simp only [Act.put, List.setIfInBounds_toArray, List.set_cons_zero, List.set_cons_succ])
    refine wpAnyH_takeD 15 46 (v := ?_) (by kernel_rfl) (by kernel_rfl) (by kernel_rfl) (by kernel_rfl) (by rfl) (fun _ _ _ h => h) ?_ hHeld ?_
    rotate_left 1
    (intro o ho W hSw; simp only [List.getElem?_toArray, List.getElem?_cons_succ, List.getElem?_cons_zero, Option.some.injEq] at ho; subst ho; (try dsimp only at hSw); go_simp; try with_reducible rfl)
    (try simp only [Act.put, List.setIfInBounds_toArray, List.set_cons_zero, List.set_cons_succ])
    refine wpAnyH_takeD 16 47 (v := ?_) (by kernel_rfl) (by kernel_rfl) (by kernel_rfl) (by kernel_rfl) (by rfl) (fun _ _ _ h => h) ?_ hHeld ?_
    rotate_left 1
    (intro o ho W hSw; simp only [List.getElem?_toArray, List.getElem?_cons_succ, List.getElem?_cons_zero, Option.some.injEq] at ho; subst ho; (try dsimp only at hSw); go_simp; try with_reducible rfl)
    (try simp only [Act.put, List.setIfInBounds_toArray, List.set_cons_zero, List.set_cons_succ])
    refine wpAnyH_onlyD 13 (by kernel_rfl) (fun o ho K hK => ?_) (by kernel_rfl)
    simp only [List.getElem?_toArray, List.getElem?_cons_succ, List.getElem?_cons_zero, Option.some.injEq] at ho
    subst ho
    go_simp
    refine (X3.out _ _ T2.out.a).mono ?_
    rintro e w3 ⟨rfl, h⟩
    have T3 := Lib.hid (T2.out.fst h)
    have A3 := Lib.hid (A2.out.fx h (by omega))
    (try have B3 := Lib.hid (B2.out.fx h (by omega)))
    (try have U3 := Lib.hid (U2.out.fx h (by omega)))
    (try have V3 := Lib.hid (V2.out.fx h (by omega)))
    go_wp2_with fail
    refine hK.out _ _ (⟨A3.out.h4, B3.out.held, U3.out.h9⟩) ?_
    clear hK K hHeld
    intro hHeld
    clear h T2 A2
    (try clear B2)
    (try clear U2)
    (try clear V2)
    refine wpAnyH_onlyD 17 (by kernel_rfl) (fun o ho K hK => ?_) (by kernel_rfl)
    simp only [List.getElem?_toArray, List.getElem?_cons_succ, List.getElem?_cons_zero, Option.some.injEq] at ho
    subst ho
    go_simp
    refine (Y3.out _ _ T3.out.b).mono ?_
    rintro e w4 ⟨rfl, h⟩
    have T4 := Lib.hid (T3.out.snd h)
    have A4 := Lib.hid (A3.out.fx h (by omega))
    (try have B4 := Lib.hid (B3.out.fx h (by omega)))
    (try have U4 := Lib.hid (U3.out.fx h (by omega)))
    (try have V4 := Lib.hid (V3.out.fx h (by omega)))
    go_wp2_with fail
    refine hK.out _ _ (⟨A4.out.h4, B4.out.held, U4.out.h9⟩) ?_
    clear hK K hHeld
    intro hHeld
    clear h T3 A3
    (try clear B3)
    (try clear U3)
    (try clear V3)
    refine wpAnyH_grow (fun W => ((W.cell? ⟨w.heap.size, 0, none⟩ = some (.int .i64 qw) ∧ W.cell? ⟨w.heap.size, 1, none⟩ = some (.int .i64 qx) ∧ W.cell? ⟨w.heap.size, 2, none⟩ = some (.int .i64 qy) ∧ W.cell? ⟨w.heap.size, 3, none⟩ = some (.int .i64 qz)) ∧ (W.cell? ⟨w.heap.size + 1, 0, none⟩ = some (.int .i64 (x)) ∧ W.cell? ⟨w.heap.size + 1, 1, none⟩ = some (.int .i64 (y)) ∧ W.cell? ⟨w.heap.size + 1, 2, none⟩ = some (.int .i64 (z))) ∧ (W.cell? ⟨n1, 0, none⟩ = some (.int .i64 m1) ∧ W.cell? ⟨n1, 1, none⟩ = some (.int .i64 m2) ∧ W.cell? ⟨n1, 2, none⟩ = some (.int .i64 m3) ∧ W.cell? ⟨n1, 3, none⟩ = some (.int .i64 m4) ∧ W.cell? ⟨n1, 4, none⟩ = some (.int .i64 m5) ∧ W.cell? ⟨n1, 5, none⟩ = some (.int .i64 m6) ∧ W.cell? ⟨n1, 6, none⟩ = some (.int .i64 m7) ∧ W.cell? ⟨n1, 7, none⟩ = some (.int .i64 m8) ∧ W.cell? ⟨n1, 8, none⟩ = some (.int .i64 m9))) ∧ W.cell? ⟨w.heap.size + 1 + 1, 0, none⟩ = some (.bool p3) ∧ W.cell? ⟨w.heap.size + 1 + 1 + 1, 0, none⟩ = some (.bool p3)) (fun _ h => h.1) ⟨hHeld, T4.out.a.c, T4.out.b.c⟩ (fun hHeld => ?_)
    refine wpAnyH_takeD 18 49 (v := ?_) (by kernel_rfl) (by kernel_rfl) (by kernel_rfl) (by kernel_rfl) (by rfl) (fun _ _ _ h => h) ?_ hHeld ?_
    rotate_left 1
    (intro o ho W hSw; simp only [List.getElem?_toArray, List.getElem?_cons_succ, List.getElem?_cons_zero, Option.some.injEq] at ho; subst ho; (try dsimp only at hSw); go_simp; try with_reducible rfl)
    (try simp only [Act.put, List.setIfInBounds_toArray, List.set_cons_zero, List.set_cons_succ])
    refine wpAnyH_takeD 19 50 (v := ?_) (by kernel_rfl) (by kernel_rfl) (by kernel_rfl) (by kernel_rfl) (by rfl) (fun _ _ _ h => h) ?_ hHeld ?_
    rotate_left 1
    (intro o ho W hSw; simp only [List.getElem?_toArray, List.getElem?_cons_succ, List.getElem?_cons_zero, Option.some.injEq] at ho; subst ho; (try dsimp only at hSw); go_simp; try with_reducible rfl)
    (try simp only [Act.put, List.setIfInBounds_toArray, List.set_cons_zero, List.set_cons_succ])
    refine wpAnyH_takeD 20 51 (v := ?_) (by kernel_rfl) (by kernel_rfl) (by kernel_rfl) (by kernel_rfl) (by rfl) (fun _ _ _ h => h) ?_ hHeld ?_
    rotate_left 1
    (intro o ho W hSw; simp only [List.getElem?_toArray, List.getElem?_cons_succ, List.getElem?_cons_zero, Option.some.injEq] at ho; subst ho; (try dsimp only at hSw); go_simp; try with_reducible rfl)
    (try simp only [Act.put, List.setIfInBounds_toArray, List.set_cons_zero, List.set_cons_succ])
    refine wpAnyH_takeD 21 52 (v := ?_) (by kernel_rfl) (by kernel_rfl) (by kernel_rfl) (by kernel_rfl) (by rfl) (fun _ _ _ h => h) ?_ hHeld ?_
    rotate_left 1
    (intro o ho W hSw; simp only [List.getElem?_toArray, List.getElem?_cons_succ, List.getElem?_cons_zero, Option.some.injEq] at ho; subst ho; (try dsimp only at hSw); go_simp; try with_reducible rfl)
    (try simp only [Act.put, List.setIfInBounds_toArray, List.set_cons_zero, List.set_cons_succ])
    refine wpAnyH_takeD 22 53 (v := ?_) (by kernel_rfl) (by kernel_rfl) (by kernel_rfl) (by kernel_rfl) (by rfl) (fun _ _ _ h => h) ?_ hHeld ?_
    rotate_left 1
    (intro o ho W hSw; simp only [List.getElem?_toArray, List.getElem?_cons_succ, List.getElem?_cons_zero, Option.some.injEq] at ho; subst ho; (try dsimp only at hSw); go_simp; try with_reducible rfl)
    (try simp only [Act.put, List.setIfInBounds_toArray, List.set_cons_zero, List.set_cons_succ])
    refine wpAnyH_takeD 23 54 (v := ?_) (by kernel_rfl) (by kernel_rfl) (by kernel_rfl) (by kernel_rfl) (by rfl) (fun _ _ _ h => h) ?_ hHeld ?_
    rotate_left 1
    (intro o ho W hSw; simp only [List.getElem?_toArray, List.getElem?_cons_succ, List.getElem?_cons_zero, Option.some.injEq] at ho; subst ho; (try dsimp only at hSw); go_simp; try with_reducible rfl)
    (try simp only [Act.put, List.setIfInBounds_toArray, List.set_cons_zero, List.set_cons_succ])
    refine wpAnyH_takeD 24 55 (v := ?_) (by kernel_rfl) (by kernel_rfl) (by kernel_rfl) (by kernel_rfl) (by rfl) (fun _ _ _ h => h) ?_ hHeld ?_
    rotate_left 1
    (intro o ho W hSw; simp only [List.getElem?_toArray, List.getElem?_cons_succ, List.getElem?_cons_zero, Option.some.injEq] at ho; subst ho; (try dsimp only at hSw); go_simp; try with_reducible rfl)
    (try simp only [Act.put, List.setIfInBounds_toArray, List.set_cons_zero, List.set_cons_succ])
    refine wpAnyH_takeD 25 56 (v := ?_) (by kernel_rfl) (by kernel_rfl) (by kernel_rfl) (by kernel_rfl) (by rfl) (fun _ _ _ h => h) ?_ hHeld ?_
    rotate_left 1
    (intro o ho W hSw; simp only [List.getElem?_toArray, List.getElem?_cons_succ, List.getElem?_cons_zero, Option.some.injEq] at ho; subst ho; (try dsimp only at hSw); go_simp; try with_reducible rfl)
    (try simp only [Act.put, List.setIfInBounds_toArray, List.set_cons_zero, List.set_cons_succ])
    refine wpAnyH_takeD 26 57 (v := ?_) (by kernel_rfl) (by kernel_rfl) (by kernel_rfl) (by kernel_rfl) (by rfl) (fun _ _ _ h => h) ?_ hHeld ?_
    rotate_left 1
    (intro o ho W hSw; simp only [List.getElem?_toArray, List.getElem?_cons_succ, List.getElem?_cons_zero, Option.some.injEq] at ho; subst ho; (try dsimp only at hSw); go_simp; try with_reducible rfl)
    (try simp only [Act.put, List.setIfInBounds_toArray, List.set_cons_zero, List.set_cons_succ])
    refine wpAnyH_takeD 27 58 (v := ?_) (by kernel_rfl) (by kernel_rfl) (by kernel_rfl) (by kernel_rfl) (by rfl) (fun _ _ _ h => h) ?_ hHeld ?_
    rotate_left 1
    (intro o ho W hSw; simp only [List.getElem?_toArray, List.getElem?_cons_succ, List.getElem?_cons_zero, Option.some.injEq] at ho; subst ho; (try dsimp only at hSw); go_simp; try with_reducible rfl)
    (try simp only [Act.put, List.setIfInBounds_toArray, List.set_cons_zero, List.set_cons_succ])
    refine wpAnyH_takeD 28 59 (v := ?_) (by kernel_rfl) (by kernel_rfl) (by kernel_rfl) (by kernel_rfl) (by rfl) (fun _ _ _ h => h) ?_ hHeld ?_
    rotate_left 1
    (intro o ho W hSw; simp only [List.getElem?_toArray, List.getElem?_cons_succ, List.getElem?_cons_zero, Option.some.injEq] at ho; subst ho; (try dsimp only at hSw); go_simp; try with_reducible rfl)
    (try simp only [Act.put, List.setIfInBounds_toArray, List.set_cons_zero, List.set_cons_succ])
    refine wpAnyH_takeD 29 60 (v := ?_) (by kernel_rfl) (by kernel_rfl) (by kernel_rfl) (by kernel_rfl) (by rfl) (fun _ _ _ h => h) ?_ hHeld ?_
    rotate_left 1
    (intro o ho W hSw; simp only [List.getElem?_toArray, List.getElem?_cons_succ, List.getElem?_cons_zero, Option.some.injEq] at ho; subst ho; (try dsimp only at hSw); go_simp; try with_reducible rfl)
    (try simp only [Act.put, List.setIfInBounds_toArray, List.set_cons_zero, List.set_cons_succ])
    refine wpAnyH_takeD 30 61 (v := ?_) (by kernel_rfl) (by kernel_rfl) (by kernel_rfl) (by kernel_rfl) (by rfl) (fun _ _ _ h => h) ?_ hHeld ?_
    rotate_left 1
    (intro o ho W hSw; simp only [List.getElem?_toArray, List.getElem?_cons_succ, List.getElem?_cons_zero, Option.some.injEq] at ho; subst ho; (try dsimp only at hSw); go_simp; try with_reducible rfl)
    (try simp only [Act.put, List.setIfInBounds_toArray, List.set_cons_zero, List.set_cons_succ])
    refine wpAnyH_takeD 31 62 (v := ?_) (by kernel_rfl) (by kernel_rfl) (by kernel_rfl) (by kernel_rfl) (by rfl) (fun _ _ _ h => h) ?_ hHeld ?_
    rotate_left 1
    (intro o ho W hSw; simp only [List.getElem?_toArray, List.getElem?_cons_succ, List.getElem?_cons_zero, Option.some.injEq] at ho; subst ho; (try dsimp only at hSw); go_simp; try with_reducible rfl)
    (try simp only [Act.put, List.setIfInBounds_toArray, List.set_cons_zero, List.set_cons_succ])
    refine wpAnyH_onlyD 32 (by kernel_rfl) (fun o ho K hK => ?_) (by kernel_rfl)
    simp only [List.getElem?_toArray, List.getElem?_cons_succ, List.getElem?_cons_zero, Option.some.injEq] at ho
    subst ho
    go_simp
    refine (quatAwake_any HC.out _).mono ?_
    rintro e w5 ⟨rfl, h⟩
    have T5 := Lib.hid (T4.out.more h)
    have A5 := Lib.hid (A4.out.below h A4.out.lt)
    (try have B5 := Lib.hid (B4.out.below h B4.out.lt))
    (try have U5 := Lib.hid (U4.out.below h U4.out.lt))
    (try have V5 := Lib.hid (V4.out.below h V4.out.lt))
    go_wp2_with fail
    refine hK.out _ _ (⟨⟨A5.out.h4, B5.out.held, U5.out.h9⟩, T5.out.a.c, T5.out.b.c⟩) ?_
    clear hK K hHeld
    intro hHeld
    clear h T4 A4
    (try clear B4)
    (try clear U4)
    (try clear V4)
    refine wpAnyH_takeD 33 64 (v := ?_) (by kernel_rfl) (by kernel_rfl) (by kernel_rfl) (by kernel_rfl) (by rfl) (fun _ _ _ h => h) ?_ hHeld ?_
    rotate_left 1
    (intro o ho W hSw; simp only [List.getElem?_toArray, List.getElem?_cons_succ, List.getElem?_cons_zero, Option.some.injEq] at ho; subst ho; (try dsimp only at hSw); go_simp; try with_reducible rfl)
    (try simp only [Act.put, List.setIfInBounds_toArray, List.set_cons_zero, List.set_cons_succ])
    refine wpAnyH_takeD 34 4 (v := ?_) (by kernel_rfl) (by kernel_rfl) (by kernel_rfl) (by kernel_rfl) (by rfl) (fun _ _ _ h => h) ?_ hHeld ?_
    rotate_left 1
    (intro o ho W hSw; simp only [List.getElem?_toArray, List.getElem?_cons_succ, List.getElem?_cons_zero, Option.some.injEq] at ho; subst ho; (try dsimp only at hSw); go_simp; try with_reducible rfl)
    (try simp only [Act.put, List.setIfInBounds_toArray, List.set_cons_zero, List.set_cons_succ])
    refine wpAnyH_done (by kernel_rfl) ?_ _
    go_wp2
    go_ret
    exact ⟨rfl, T5.out.bl⟩
end Go.Proofs.Ytldcmiomfahaoaa
