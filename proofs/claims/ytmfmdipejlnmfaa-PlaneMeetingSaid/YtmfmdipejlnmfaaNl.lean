/- The walks of stage 7's statements, whatever the program's own plane does as long as it tells what is told here: awake, PlaneSide, PlaneCrosses, PlaneMeets, PlaneBeyond, PlaneTurns, PlaneMeeting. -/
import Derived.Test.YtmfmdipejlnmfaaNj
import Derived.Test.YtmfmdipejlnmfaaNk
namespace Go.Proofs.Ytmfmdipejlnmfaa
open Go.RowKit
set_option linter.unusedVariables false
set_option linter.unusedSimpArgs false

/-- what package plane tells -/
structure PlaneC : Prop where
  side : ∀ (ax ay bx by' px py : Int) (w : World), Calls Try.prog 10 #[.agg #[.int .i64 ax, .int .i64 ay], .agg #[.int .i64 bx, .int .i64 by'], .agg #[.int .i64 px, .int .i64 py]] w fun e w' => e = .returned (.int .i64 (sideP ⟨ax, ay⟩ ⟨bx, by'⟩ ⟨px, py⟩)) ∧ Below w.heap.size w w'
  cross : ∀ (ax ay bx by' px py qx qy : Int) (w : World), Calls Try.prog 13 #[.agg #[.int .i64 ax, .int .i64 ay], .agg #[.int .i64 bx, .int .i64 by'], .agg #[.int .i64 px, .int .i64 py], .agg #[.int .i64 qx, .int .i64 qy]] w fun e w' => e = .returned (.tuple #[.int .u32 (crossN ⟨ax, ay⟩ ⟨bx, by'⟩ ⟨px, py⟩ ⟨qx, qy⟩), .bool (crossP ⟨ax, ay⟩ ⟨bx, by'⟩ ⟨px, py⟩ ⟨qx, qy⟩)]) ∧ Below w.heap.size w w'
  meets : ∀ (ax ay bx by' px py qx qy : Int) (w : World), Calls Try.prog 15 #[.agg #[.int .i64 ax, .int .i64 ay], .agg #[.int .i64 bx, .int .i64 by'], .agg #[.int .i64 px, .int .i64 py], .agg #[.int .i64 qx, .int .i64 qy]] w fun e w' => e = .returned (.bool (meetsP ⟨ax, ay⟩ ⟨bx, by'⟩ ⟨px, py⟩ ⟨qx, qy⟩)) ∧ Below w.heap.size w w'
  beyond : ∀ (ax ay bx by' px py : Int) (w : World), Calls Try.prog 17 #[.agg #[.int .i64 ax, .int .i64 ay], .agg #[.int .i64 bx, .int .i64 by'], .agg #[.int .i64 px, .int .i64 py]] w fun e w' => e = .returned (.int .i64 (beyondN ⟨ax, ay⟩ ⟨bx, by'⟩ ⟨px, py⟩)) ∧ Below w.heap.size w w'
theorem plAt_any (x y X Y : Int) (w : World) (hx : -1000 ≤ x ∧ x ≤ 1000) (hy : -1000 ≤ y ∧ y ≤ 1000) (hX : x * 4294967296 = X) (hY : y * 4294967296 = Y) :
    Calls Try.prog 25 #[.int .i64 x, .int .i64 y] w fun e w' => e = .returned (.agg #[.int .i64 X, .int .i64 Y]) ∧ Below w.heap.size w w' := by
  have u1 : IntKind.i64.wrap (x * 4294967296) = X := by rw [hX]; exact IntWalk.i64_in _ (by omega)
  have u2 : IntKind.i64.wrap (y * 4294967296) = Y := by rw [hY]; exact IntWalk.i64_in _ (by omega)
  have u3 : wrap64 (x * 4294967296) = X := by rw [hX]; unfold wrap64; omega
  have u4 : wrap64 (y * 4294967296) = Y := by rw [hY]; unfold wrap64; omega
  clear hX hY
  go_enter Try.func25, Try.ntmps25
  go_wp2
  exact bodyPost_ret (v := .agg #[.int .i64 X, .int .i64 Y]) (by simp [results, Try.results25, go_sem]) rfl ⟨rfl, by repeat (first | exact Below.refl _ _ | assumption | refine Below.setCell ?_ (by first | omega | (simp; done) | (simp; omega)) _ | refine Below.alloc ?_ (by first | omega | (simp; done) | (simp; omega)) _ | refine below_drewN ?_ _ | refine Below.drew ?_ | refine Below.trans ?_ (Below.mono (by assumption) (by first | omega | (simp; done) | (simp; omega))))⟩
theorem pl_ev1 : crossP ⟨-4294967296, 0⟩ ⟨4294967296, 0⟩ ⟨0, -4294967296⟩ ⟨0, 12884901888⟩ = true ∧ crossP ⟨-4294967296, 0⟩ ⟨4294967296, 0⟩ ⟨0, 12884901888⟩ ⟨0, -4294967296⟩ = false ∧ sideP ⟨0, 0⟩ ⟨4294967296, 0⟩ ⟨0, 4294967296⟩ = 1 := by decide +kernel
theorem pl_ev2 : crossN ⟨-4294967296, 0⟩ ⟨4294967296, 0⟩ ⟨0, -4294967296⟩ ⟨0, 12884901888⟩ = 1073741824 := by
  rw [cross_yes pl_ev1.1]; decide +kernel
theorem pl_ev3 : beyondN ⟨-4294967296, 0⟩ ⟨4294967296, 0⟩ ⟨0, -8589934592⟩ = 8589934592 := by
  have e : rootI (sqP ⟨-4294967296, 0⟩ ⟨4294967296, 0⟩) = 8589934592 := rootI_eq ⟨by decide +kernel, by decide +kernel, by decide +kernel⟩
  unfold beyondN
  rw [e, if_pos (by decide +kernel)]
  decide +kernel
set_option maxHeartbeats 2000000 in
theorem planeAwake_any (C : PlaneC) (w : World) :
    Calls Try.prog 12 #[] w fun e w' => e = .returned (.bool true) ∧ Below w.heap.size w w' := by
  have X1 := Lib.hid (fun (W : World) => C.cross (-4294967296) 0 4294967296 0 0 (-4294967296) 0 12884901888 W)
  rw [pl_ev1.1, pl_ev2] at X1
  have X2 := Lib.hid (fun (W : World) => C.cross (-4294967296) 0 4294967296 0 0 12884901888 0 (-4294967296) W)
  rw [pl_ev1.2.1] at X2
  have X3 := Lib.hid (fun (W : World) => C.side 0 0 4294967296 0 0 4294967296 W)
  rw [pl_ev1.2.2] at X3
  have X4 := Lib.hid (fun (W : World) => C.beyond (-4294967296) 0 4294967296 0 0 (-8589934592) W)
  rw [pl_ev3] at X4
  generalize crossN ⟨-4294967296, 0⟩ ⟨4294967296, 0⟩ ⟨0, 12884901888⟩ ⟨0, -4294967296⟩ = r at *
  have L0 := Lib.hid (Below.refl w.heap.size w)
  clear C
  go_enter Try.func12, Try.ntmps12
  go_wp2_with fail
  refine (plAt_any (-1) (0) (-4294967296) (0) _ (by omega) (by omega) (by omega) (by omega)).mono ?_
  rintro e w1 ⟨rfl, h⟩
  have L1 := Lib.hid (L0.out.trans (h.mono L0.out.size))
  clear h L0
  go_wp2_with fail
  refine (plAt_any (1) (0) (4294967296) (0) _ (by omega) (by omega) (by omega) (by omega)).mono ?_
  rintro e w2 ⟨rfl, h⟩
  have L2 := Lib.hid (L1.out.trans (h.mono L1.out.size))
  clear h L1
  go_wp2_with fail
  refine (plAt_any (0) (-1) (0) (-4294967296) _ (by omega) (by omega) (by omega) (by omega)).mono ?_
  rintro e w3 ⟨rfl, h⟩
  have L3 := Lib.hid (L2.out.trans (h.mono L2.out.size))
  clear h L2
  go_wp2_with fail
  refine (plAt_any (0) (3) (0) (12884901888) _ (by omega) (by omega) (by omega) (by omega)).mono ?_
  rintro e w4 ⟨rfl, h⟩
  have L4 := Lib.hid (L3.out.trans (h.mono L3.out.size))
  clear h L3
  go_wp2_with fail
  refine (X1.out _).mono ?_
  rintro e w5 ⟨rfl, h⟩
  have L5 := Lib.hid (L4.out.trans (h.mono L4.out.size))
  clear h L4
  go_wp2_with fail
  refine (plAt_any (-1) (0) (-4294967296) (0) _ (by omega) (by omega) (by omega) (by omega)).mono ?_
  rintro e w6 ⟨rfl, h⟩
  have L6 := Lib.hid (L5.out.trans (h.mono L5.out.size))
  clear h L5
  go_wp2_with fail
  refine (plAt_any (1) (0) (4294967296) (0) _ (by omega) (by omega) (by omega) (by omega)).mono ?_
  rintro e w7 ⟨rfl, h⟩
  have L7 := Lib.hid (L6.out.trans (h.mono L6.out.size))
  clear h L6
  go_wp2_with fail
  refine (plAt_any (0) (3) (0) (12884901888) _ (by omega) (by omega) (by omega) (by omega)).mono ?_
  rintro e w8 ⟨rfl, h⟩
  have L8 := Lib.hid (L7.out.trans (h.mono L7.out.size))
  clear h L7
  go_wp2_with fail
  refine (plAt_any (0) (-1) (0) (-4294967296) _ (by omega) (by omega) (by omega) (by omega)).mono ?_
  rintro e w9 ⟨rfl, h⟩
  have L9 := Lib.hid (L8.out.trans (h.mono L8.out.size))
  clear h L8
  go_wp2_with fail
  refine (X2.out _).mono ?_
  rintro e w10 ⟨rfl, h⟩
  have L10 := Lib.hid (L9.out.trans (h.mono L9.out.size))
  clear h L9
  go_wp2_with fail
  refine (plAt_any (0) (0) (0) (0) _ (by omega) (by omega) (by omega) (by omega)).mono ?_
  rintro e w11 ⟨rfl, h⟩
  have L11 := Lib.hid (L10.out.trans (h.mono L10.out.size))
  clear h L10
  go_wp2_with fail
  refine (plAt_any (1) (0) (4294967296) (0) _ (by omega) (by omega) (by omega) (by omega)).mono ?_
  rintro e w12 ⟨rfl, h⟩
  have L12 := Lib.hid (L11.out.trans (h.mono L11.out.size))
  clear h L11
  go_wp2_with fail
  refine (plAt_any (0) (1) (0) (4294967296) _ (by omega) (by omega) (by omega) (by omega)).mono ?_
  rintro e w13 ⟨rfl, h⟩
  have L13 := Lib.hid (L12.out.trans (h.mono L12.out.size))
  clear h L12
  go_wp2_with fail
  refine (X3.out _).mono ?_
  rintro e w14 ⟨rfl, h⟩
  have L14 := Lib.hid (L13.out.trans (h.mono L13.out.size))
  clear h L13
  go_wp2_with fail
  refine (plAt_any (-1) (0) (-4294967296) (0) _ (by omega) (by omega) (by omega) (by omega)).mono ?_
  rintro e w15 ⟨rfl, h⟩
  have L15 := Lib.hid (L14.out.trans (h.mono L14.out.size))
  clear h L14
  go_wp2_with fail
  refine (plAt_any (1) (0) (4294967296) (0) _ (by omega) (by omega) (by omega) (by omega)).mono ?_
  rintro e w16 ⟨rfl, h⟩
  have L16 := Lib.hid (L15.out.trans (h.mono L15.out.size))
  clear h L15
  go_wp2_with fail
  refine (plAt_any (0) (-2) (0) (-8589934592) _ (by omega) (by omega) (by omega) (by omega)).mono ?_
  rintro e w17 ⟨rfl, h⟩
  have L17 := Lib.hid (L16.out.trans (h.mono L16.out.size))
  clear h L16
  go_wp2_with fail
  refine (X4.out _).mono ?_
  rintro e w18 ⟨rfl, h⟩
  have L18 := Lib.hid (L17.out.trans (h.mono L17.out.size))
  clear h L17
  go_wp2
  go_ret
  exact ⟨rfl, L18.out⟩
theorem BW.h6 {W : World} {n : Nat} {a b c d e f : Value} (k : BW W n [a, b, c, d, e, f]) : W.cell? ⟨n, 0, none⟩ = some a ∧ W.cell? ⟨n, 1, none⟩ = some b ∧ W.cell? ⟨n, 2, none⟩ = some c ∧ W.cell? ⟨n, 3, none⟩ = some d ∧ W.cell? ⟨n, 4, none⟩ = some e ∧ W.cell? ⟨n, 5, none⟩ = some f := ⟨k.c 0 _ rfl, k.c 1 _ rfl, k.c 2 _ rfl, k.c 3 _ rfl, k.c 4 _ rfl, k.c 5 _ rfl⟩
theorem BW.h8 {W : World} {n : Nat} {a b c d e f g i : Value} (k : BW W n [a, b, c, d, e, f, g, i]) : W.cell? ⟨n, 0, none⟩ = some a ∧ W.cell? ⟨n, 1, none⟩ = some b ∧ W.cell? ⟨n, 2, none⟩ = some c ∧ W.cell? ⟨n, 3, none⟩ = some d ∧ W.cell? ⟨n, 4, none⟩ = some e ∧ W.cell? ⟨n, 5, none⟩ = some f ∧ W.cell? ⟨n, 6, none⟩ = some g ∧ W.cell? ⟨n, 7, none⟩ = some i := ⟨k.c 0 _ rfl, k.c 1 _ rfl, k.c 2 _ rfl, k.c 3 _ rfl, k.c 4 _ rfl, k.c 5 _ rfl, k.c 6 _ rfl, k.c 7 _ rfl⟩
set_option maxRecDepth 100000 in
set_option maxHeartbeats 4000000 in
theorem pside_walk (C : PlaneC) (ax ay bx by' px py : Int) (w : World) :
    Calls Try.prog 3 #[.agg #[.int .i64 ax, .int .i64 ay, .int .i64 bx, .int .i64 by', .int .i64 px, .int .i64 py]] w fun e w' => e = .returned (.bool true) ∧ Below w.heap.size w w' := by
  have X1 := Lib.hid (fun (W : World) => C.side ax ay bx by' px py W)
  have Y1 := Lib.hid (fun (W : World) => rSide_any ax ay bx by' px py W)
  generalize sideP ⟨ax, ay⟩ ⟨bx, by'⟩ ⟨px, py⟩ = r at *
  have HC := Lib.hid C
  clear C
  go_enter Try.func3, Try.ntmps3
  go_wp2_with fail
  refine wp_gen (S := fun W => BW W w.heap.size [.int .i64 ax, .int .i64 ay, .int .i64 bx, .int .i64 by', .int .i64 px, .int .i64 py] ∧ Below w.heap.size w W) ⟨BW.new w w.heap.size [_, _, _, _, _, _] _ rfl, by repeat (first | exact Below.refl _ _ | assumption | refine Below.setCell ?_ (by first | omega | (simp; done) | (simp; omega)) _ | refine Below.alloc ?_ (by first | omega | (simp; done) | (simp; omega)) _ | refine below_drewN ?_ _ | refine Below.drew ?_ | refine Below.trans ?_ (Below.mono (by assumption) (by first | omega | (simp; done) | (simp; omega))))⟩ (fun W0 hS => ?_)
  have K0 := Lib.hid hS.1.drew
  have L0 := Lib.hid hS.2.drew
  clear hS
  refine wp_region_held_drew (S := fun W => W.cell? ⟨w.heap.size, 0, none⟩ = some (.int .i64 ax) ∧ W.cell? ⟨w.heap.size, 1, none⟩ = some (.int .i64 ay) ∧ W.cell? ⟨w.heap.size, 2, none⟩ = some (.int .i64 bx) ∧ W.cell? ⟨w.heap.size, 3, none⟩ = some (.int .i64 by') ∧ W.cell? ⟨w.heap.size, 4, none⟩ = some (.int .i64 px) ∧ W.cell? ⟨w.heap.size, 5, none⟩ = some (.int .i64 py)) (by kernel_rfl) K0.out.h6 (fun hHeld => ?_)
  generalize W0.drew = w0 at *
  refine wpAnyH_takeD 0 3 (v := ?_) (by kernel_rfl) (by kernel_rfl) (by kernel_rfl) (by kernel_rfl) (by rfl) (fun _ _ _ h => h) ?_ hHeld ?_
  rotate_left 1
  (intro o ho W hSw; simp only [List.getElem?_toArray, List.getElem?_cons_succ, List.getElem?_cons_zero, Option.some.injEq] at ho; subst ho; (try dsimp only at hSw); go_simp; try with_reducible rfl)
  (try simp only [Act.put, List.setIfInBounds_toArray, List.set_cons_zero, List.set_cons_succ])
  refine wpAnyH_takeD 1 4 (v := ?_) (by kernel_rfl) (by kernel_rfl) (by kernel_rfl) (by kernel_rfl) (by rfl) (fun _ _ _ h => h) ?_ hHeld ?_
  rotate_left 1
  (intro o ho W hSw; simp only [List.getElem?_toArray, List.getElem?_cons_succ, List.getElem?_cons_zero, Option.some.injEq] at ho; subst ho; (try dsimp only at hSw); go_simp; try with_reducible rfl)
  (try simp only [Act.put, List.setIfInBounds_toArray, List.set_cons_zero, List.set_cons_succ])
  refine wpAnyH_takeD 2 5 (v := ?_) (by kernel_rfl) (by kernel_rfl) (by kernel_rfl) (by kernel_rfl) (by rfl) (fun _ _ _ h => h) ?_ hHeld ?_
  rotate_left 1
  (intro o ho W hSw; simp only [List.getElem?_toArray, List.getElem?_cons_succ, List.getElem?_cons_zero, Option.some.injEq] at ho; subst ho; (try dsimp only at hSw); go_simp; try with_reducible rfl)
  (try simp only [Act.put, List.setIfInBounds_toArray, List.set_cons_zero, List.set_cons_succ])
  refine wpAnyH_takeD 3 6 (v := ?_) (by kernel_rfl) (by kernel_rfl) (by kernel_rfl) (by kernel_rfl) (by rfl) (fun _ _ _ h => h) ?_ hHeld ?_
  rotate_left 1
  (intro o ho W hSw; simp only [List.getElem?_toArray, List.getElem?_cons_succ, List.getElem?_cons_zero, Option.some.injEq] at ho; subst ho; (try dsimp only at hSw); go_simp; try with_reducible rfl)
  (try simp only [Act.put, List.setIfInBounds_toArray, List.set_cons_zero, List.set_cons_succ])
  refine wpAnyH_takeD 4 7 (v := ?_) (by kernel_rfl) (by kernel_rfl) (by kernel_rfl) (by kernel_rfl) (by rfl) (fun _ _ _ h => h) ?_ hHeld ?_
  rotate_left 1
  (intro o ho W hSw; simp only [List.getElem?_toArray, List.getElem?_cons_succ, List.getElem?_cons_zero, Option.some.injEq] at ho; subst ho; (try dsimp only at hSw); go_simp; try with_reducible rfl)
  (try simp only [Act.put, List.setIfInBounds_toArray, List.set_cons_zero, List.set_cons_succ])
  refine wpAnyH_takeD 5 8 (v := ?_) (by kernel_rfl) (by kernel_rfl) (by kernel_rfl) (by kernel_rfl) (by rfl) (fun _ _ _ h => h) ?_ hHeld ?_
  rotate_left 1
  (intro o ho W hSw; simp only [List.getElem?_toArray, List.getElem?_cons_succ, List.getElem?_cons_zero, Option.some.injEq] at ho; subst ho; (try dsimp only at hSw); go_simp; try with_reducible rfl)
  (try simp only [Act.put, List.setIfInBounds_toArray, List.set_cons_zero, List.set_cons_succ])
  refine wpAnyH_takeD 7 10 (v := ?_) (by kernel_rfl) (by kernel_rfl) (by kernel_rfl) (by kernel_rfl) (by rfl) (fun _ _ _ h => h) ?_ hHeld ?_
  rotate_left 1
  (intro o ho W hSw; simp only [List.getElem?_toArray, List.getElem?_cons_succ, List.getElem?_cons_zero, Option.some.injEq] at ho; subst ho; (try dsimp only at hSw); go_simp; try with_reducible rfl)
  (try simp only [Act.put, List.setIfInBounds_toArray, List.set_cons_zero, List.set_cons_succ])
  refine wpAnyH_takeD 8 11 (v := ?_) (by kernel_rfl) (by kernel_rfl) (by kernel_rfl) (by kernel_rfl) (by rfl) (fun _ _ _ h => h) ?_ hHeld ?_
  rotate_left 1
  (intro o ho W hSw; simp only [List.getElem?_toArray, List.getElem?_cons_succ, List.getElem?_cons_zero, Option.some.injEq] at ho; subst ho; (try dsimp only at hSw); go_simp; try with_reducible rfl)
  (try simp only [Act.put, List.setIfInBounds_toArray, List.set_cons_zero, List.set_cons_succ])
  refine wpAnyH_takeD 9 12 (v := ?_) (by kernel_rfl) (by kernel_rfl) (by kernel_rfl) (by kernel_rfl) (by rfl) (fun _ _ _ h => h) ?_ hHeld ?_
  rotate_left 1
  (intro o ho W hSw; simp only [List.getElem?_toArray, List.getElem?_cons_succ, List.getElem?_cons_zero, Option.some.injEq] at ho; subst ho; (try dsimp only at hSw); go_simp; try with_reducible rfl)
  (try simp only [Act.put, List.setIfInBounds_toArray, List.set_cons_zero, List.set_cons_succ])
  refine wpAnyH_takeD 10 13 (v := ?_) (by kernel_rfl) (by kernel_rfl) (by kernel_rfl) (by kernel_rfl) (by rfl) (fun _ _ _ h => h) ?_ hHeld ?_
  rotate_left 1
  (intro o ho W hSw; simp only [List.getElem?_toArray, List.getElem?_cons_succ, List.getElem?_cons_zero, Option.some.injEq] at ho; subst ho; (try dsimp only at hSw); go_simp; try with_reducible rfl)
  (try simp only [Act.put, List.setIfInBounds_toArray, List.set_cons_zero, List.set_cons_succ])
  refine wpAnyH_takeD 11 14 (v := ?_) (by kernel_rfl) (by kernel_rfl) (by kernel_rfl) (by kernel_rfl) (by rfl) (fun _ _ _ h => h) ?_ hHeld ?_
  rotate_left 1
  (intro o ho W hSw; simp only [List.getElem?_toArray, List.getElem?_cons_succ, List.getElem?_cons_zero, Option.some.injEq] at ho; subst ho; (try dsimp only at hSw); go_simp; try with_reducible rfl)
  (try simp only [Act.put, List.setIfInBounds_toArray, List.set_cons_zero, List.set_cons_succ])
  refine wpAnyH_takeD 12 15 (v := ?_) (by kernel_rfl) (by kernel_rfl) (by kernel_rfl) (by kernel_rfl) (by rfl) (fun _ _ _ h => h) ?_ hHeld ?_
  rotate_left 1
  (intro o ho W hSw; simp only [List.getElem?_toArray, List.getElem?_cons_succ, List.getElem?_cons_zero, Option.some.injEq] at ho; subst ho; (try dsimp only at hSw); go_simp; try with_reducible rfl)
  (try simp only [Act.put, List.setIfInBounds_toArray, List.set_cons_zero, List.set_cons_succ])
  refine wpAnyH_onlyD 6 (by kernel_rfl) (fun o ho K hK => ?_) (by kernel_rfl)
  simp only [List.getElem?_toArray, List.getElem?_cons_succ, List.getElem?_cons_zero, Option.some.injEq] at ho
  subst ho
  go_simp
  refine (X1.out _).mono ?_
  rintro e w1 ⟨rfl, h⟩
  have K1 := Lib.hid (K0.out.below h K0.out.lt)
  have L1 := Lib.hid (L0.out.trans (h.mono L0.out.size))
  go_wp2_with fail
  refine hK.out _ _ (K1.out.h6) ?_
  clear hK K hHeld
  intro hHeld
  clear h K0 L0
  refine wpAnyH_onlyD 13 (by kernel_rfl) (fun o ho K hK => ?_) (by kernel_rfl)
  simp only [List.getElem?_toArray, List.getElem?_cons_succ, List.getElem?_cons_zero, Option.some.injEq] at ho
  subst ho
  go_simp
  refine (Y1.out _).mono ?_
  rintro e w2 ⟨rfl, h⟩
  have K2 := Lib.hid (K1.out.below h K1.out.lt)
  have L2 := Lib.hid (L1.out.trans (h.mono L1.out.size))
  go_wp2_with fail
  refine hK.out _ _ (K2.out.h6) ?_
  clear hK K hHeld
  intro hHeld
  clear h K1 L1
  refine wpAnyH_takeD 14 17 (v := ?_) (by kernel_rfl) (by kernel_rfl) (by kernel_rfl) (by kernel_rfl) (by rfl) (fun _ _ _ h => h) ?_ hHeld ?_
  rotate_left 1
  (intro o ho W hSw; simp only [List.getElem?_toArray, List.getElem?_cons_succ, List.getElem?_cons_zero, Option.some.injEq] at ho; subst ho; (try dsimp only at hSw); go_simp; try with_reducible rfl)
  (try simp only [Act.put, List.setIfInBounds_toArray, List.set_cons_zero, List.set_cons_succ])
  refine wpAnyH_takeD 15 18 (v := ?_) (by kernel_rfl) (by kernel_rfl) (by kernel_rfl) (by kernel_rfl) (by rfl) (fun _ _ _ h => h) ?_ hHeld ?_
  rotate_left 1
  (intro o ho W hSw; simp only [List.getElem?_toArray, List.getElem?_cons_succ, List.getElem?_cons_zero, Option.some.injEq] at ho; subst ho; (try dsimp only at hSw); go_simp; try with_reducible rfl)
  (try simp only [Act.put, List.setIfInBounds_toArray, List.set_cons_zero, List.set_cons_succ])
  refine wpAnyH_onlyD 16 (by kernel_rfl) (fun o ho K hK => ?_) (by kernel_rfl)
  simp only [List.getElem?_toArray, List.getElem?_cons_succ, List.getElem?_cons_zero, Option.some.injEq] at ho
  subst ho
  go_simp
  refine (planeAwake_any HC.out _).mono ?_
  rintro e w3 ⟨rfl, h⟩
  have K3 := Lib.hid (K2.out.below h K2.out.lt)
  have L3 := Lib.hid (L2.out.trans (h.mono L2.out.size))
  go_wp2_with fail
  refine hK.out _ _ (K3.out.h6) ?_
  clear hK K hHeld
  intro hHeld
  clear h K2 L2
  refine wpAnyH_takeD 17 20 (v := ?_) (by kernel_rfl) (by kernel_rfl) (by kernel_rfl) (by kernel_rfl) (by rfl) (fun _ _ _ h => h) ?_ hHeld ?_
  rotate_left 1
  (intro o ho W hSw; simp only [List.getElem?_toArray, List.getElem?_cons_succ, List.getElem?_cons_zero, Option.some.injEq] at ho; subst ho; (try dsimp only at hSw); go_simp; try with_reducible rfl)
  (try simp only [Act.put, List.setIfInBounds_toArray, List.set_cons_zero, List.set_cons_succ])
  refine wpAnyH_takeD 18 2 (v := ?_) (by kernel_rfl) (by kernel_rfl) (by kernel_rfl) (by kernel_rfl) (by rfl) (fun _ _ _ h => h) ?_ hHeld ?_
  rotate_left 1
  (intro o ho W hSw; simp only [List.getElem?_toArray, List.getElem?_cons_succ, List.getElem?_cons_zero, Option.some.injEq] at ho; subst ho; (try dsimp only at hSw); go_simp; try with_reducible rfl)
  (try simp only [Act.put, List.setIfInBounds_toArray, List.set_cons_zero, List.set_cons_succ])
  refine wpAnyH_done (by kernel_rfl) ?_ _
  go_wp2
  go_ret
  exact ⟨by simp, L3.out⟩
set_option maxRecDepth 100000 in
set_option maxHeartbeats 4000000 in
theorem pmeets_walk (C : PlaneC) (ax ay bx by' px py qx qy : Int) (w : World) :
    Calls Try.prog 5 #[.agg #[.int .i64 ax, .int .i64 ay, .int .i64 bx, .int .i64 by', .int .i64 px, .int .i64 py, .int .i64 qx, .int .i64 qy]] w fun e w' => e = .returned (.bool true) ∧ Below w.heap.size w w' := by
  have X1 := Lib.hid (fun (W : World) => C.meets ax ay bx by' px py qx qy W)
  have Y1 := Lib.hid (fun (W : World) => rMeets_any ax ay bx by' px py qx qy W)
  generalize meetsP ⟨ax, ay⟩ ⟨bx, by'⟩ ⟨px, py⟩ ⟨qx, qy⟩ = r at *
  have HC := Lib.hid C
  clear C
  go_enter Try.func5, Try.ntmps5
  go_wp2_with fail
  refine wp_gen (S := fun W => BW W w.heap.size [.int .i64 ax, .int .i64 ay, .int .i64 bx, .int .i64 by', .int .i64 px, .int .i64 py, .int .i64 qx, .int .i64 qy] ∧ Below w.heap.size w W) ⟨BW.new w w.heap.size [_, _, _, _, _, _, _, _] _ rfl, by repeat (first | exact Below.refl _ _ | assumption | refine Below.setCell ?_ (by first | omega | (simp; done) | (simp; omega)) _ | refine Below.alloc ?_ (by first | omega | (simp; done) | (simp; omega)) _ | refine below_drewN ?_ _ | refine Below.drew ?_ | refine Below.trans ?_ (Below.mono (by assumption) (by first | omega | (simp; done) | (simp; omega))))⟩ (fun W0 hS => ?_)
  have K0 := Lib.hid hS.1.drew
  have L0 := Lib.hid hS.2.drew
  clear hS
  refine wp_region_held_drew (S := fun W => W.cell? ⟨w.heap.size, 0, none⟩ = some (.int .i64 ax) ∧ W.cell? ⟨w.heap.size, 1, none⟩ = some (.int .i64 ay) ∧ W.cell? ⟨w.heap.size, 2, none⟩ = some (.int .i64 bx) ∧ W.cell? ⟨w.heap.size, 3, none⟩ = some (.int .i64 by') ∧ W.cell? ⟨w.heap.size, 4, none⟩ = some (.int .i64 px) ∧ W.cell? ⟨w.heap.size, 5, none⟩ = some (.int .i64 py) ∧ W.cell? ⟨w.heap.size, 6, none⟩ = some (.int .i64 qx) ∧ W.cell? ⟨w.heap.size, 7, none⟩ = some (.int .i64 qy)) (by kernel_rfl) K0.out.h8 (fun hHeld => ?_)
  generalize W0.drew = w0 at *
  refine wpAnyH_takeD 0 3 (v := ?_) (by kernel_rfl) (by kernel_rfl) (by kernel_rfl) (by kernel_rfl) (by rfl) (fun _ _ _ h => h) ?_ hHeld ?_
  rotate_left 1
  (intro o ho W hSw; simp only [List.getElem?_toArray, List.getElem?_cons_succ, List.getElem?_cons_zero, Option.some.injEq] at ho; subst ho; (try dsimp only at hSw); go_simp; try with_reducible rfl)
  (try simp only [Act.put, List.setIfInBounds_toArray, List.set_cons_zero, List.set_cons_succ])
  refine wpAnyH_takeD 1 4 (v := ?_) (by kernel_rfl) (by kernel_rfl) (by kernel_rfl) (by kernel_rfl) (by rfl) (fun _ _ _ h => h) ?_ hHeld ?_
  rotate_left 1
  (intro o ho W hSw; simp only [List.getElem?_toArray, List.getElem?_cons_succ, List.getElem?_cons_zero, Option.some.injEq] at ho; subst ho; (try dsimp only at hSw); go_simp; try with_reducible rfl)
  (try simp only [Act.put, List.setIfInBounds_toArray, List.set_cons_zero, List.set_cons_succ])
  refine wpAnyH_takeD 2 5 (v := ?_) (by kernel_rfl) (by kernel_rfl) (by kernel_rfl) (by kernel_rfl) (by rfl) (fun _ _ _ h => h) ?_ hHeld ?_
  rotate_left 1
  (intro o ho W hSw; simp only [List.getElem?_toArray, List.getElem?_cons_succ, List.getElem?_cons_zero, Option.some.injEq] at ho; subst ho; (try dsimp only at hSw); go_simp; try with_reducible rfl)
  (try simp only [Act.put, List.setIfInBounds_toArray, List.set_cons_zero, List.set_cons_succ])
  refine wpAnyH_takeD 3 6 (v := ?_) (by kernel_rfl) (by kernel_rfl) (by kernel_rfl) (by kernel_rfl) (by rfl) (fun _ _ _ h => h) ?_ hHeld ?_
  rotate_left 1
  (intro o ho W hSw; simp only [List.getElem?_toArray, List.getElem?_cons_succ, List.getElem?_cons_zero, Option.some.injEq] at ho; subst ho; (try dsimp only at hSw); go_simp; try with_reducible rfl)
  (try simp only [Act.put, List.setIfInBounds_toArray, List.set_cons_zero, List.set_cons_succ])
  refine wpAnyH_takeD 4 7 (v := ?_) (by kernel_rfl) (by kernel_rfl) (by kernel_rfl) (by kernel_rfl) (by rfl) (fun _ _ _ h => h) ?_ hHeld ?_
  rotate_left 1
  (intro o ho W hSw; simp only [List.getElem?_toArray, List.getElem?_cons_succ, List.getElem?_cons_zero, Option.some.injEq] at ho; subst ho; (try dsimp only at hSw); go_simp; try with_reducible rfl)
  (try simp only [Act.put, List.setIfInBounds_toArray, List.set_cons_zero, List.set_cons_succ])
  refine wpAnyH_takeD 5 8 (v := ?_) (by kernel_rfl) (by kernel_rfl) (by kernel_rfl) (by kernel_rfl) (by rfl) (fun _ _ _ h => h) ?_ hHeld ?_
  rotate_left 1
  (intro o ho W hSw; simp only [List.getElem?_toArray, List.getElem?_cons_succ, List.getElem?_cons_zero, Option.some.injEq] at ho; subst ho; (try dsimp only at hSw); go_simp; try with_reducible rfl)
  (try simp only [Act.put, List.setIfInBounds_toArray, List.set_cons_zero, List.set_cons_succ])
  refine wpAnyH_takeD 6 9 (v := ?_) (by kernel_rfl) (by kernel_rfl) (by kernel_rfl) (by kernel_rfl) (by rfl) (fun _ _ _ h => h) ?_ hHeld ?_
  rotate_left 1
  (intro o ho W hSw; simp only [List.getElem?_toArray, List.getElem?_cons_succ, List.getElem?_cons_zero, Option.some.injEq] at ho; subst ho; (try dsimp only at hSw); go_simp; try with_reducible rfl)
  (try simp only [Act.put, List.setIfInBounds_toArray, List.set_cons_zero, List.set_cons_succ])
  refine wpAnyH_takeD 7 10 (v := ?_) (by kernel_rfl) (by kernel_rfl) (by kernel_rfl) (by kernel_rfl) (by rfl) (fun _ _ _ h => h) ?_ hHeld ?_
  rotate_left 1
  (intro o ho W hSw; simp only [List.getElem?_toArray, List.getElem?_cons_succ, List.getElem?_cons_zero, Option.some.injEq] at ho; subst ho; (try dsimp only at hSw); go_simp; try with_reducible rfl)
  (try simp only [Act.put, List.setIfInBounds_toArray, List.set_cons_zero, List.set_cons_succ])
  refine wpAnyH_takeD 9 12 (v := ?_) (by kernel_rfl) (by kernel_rfl) (by kernel_rfl) (by kernel_rfl) (by rfl) (fun _ _ _ h => h) ?_ hHeld ?_
  rotate_left 1
  (intro o ho W hSw; simp only [List.getElem?_toArray, List.getElem?_cons_succ, List.getElem?_cons_zero, Option.some.injEq] at ho; subst ho; (try dsimp only at hSw); go_simp; try with_reducible rfl)
  (try simp only [Act.put, List.setIfInBounds_toArray, List.set_cons_zero, List.set_cons_succ])
  refine wpAnyH_takeD 10 13 (v := ?_) (by kernel_rfl) (by kernel_rfl) (by kernel_rfl) (by kernel_rfl) (by rfl) (fun _ _ _ h => h) ?_ hHeld ?_
  rotate_left 1
  (intro o ho W hSw; simp only [List.getElem?_toArray, List.getElem?_cons_succ, List.getElem?_cons_zero, Option.some.injEq] at ho; subst ho; (try dsimp only at hSw); go_simp; try with_reducible rfl)
  (try simp only [Act.put, List.setIfInBounds_toArray, List.set_cons_zero, List.set_cons_succ])
  refine wpAnyH_takeD 11 14 (v := ?_) (by kernel_rfl) (by kernel_rfl) (by kernel_rfl) (by kernel_rfl) (by rfl) (fun _ _ _ h => h) ?_ hHeld ?_
  rotate_left 1
  (intro o ho W hSw; simp only [List.getElem?_toArray, List.getElem?_cons_succ, List.getElem?_cons_zero, Option.some.injEq] at ho; subst ho; (try dsimp only at hSw); go_simp; try with_reducible rfl)
  (try simp only [Act.put, List.setIfInBounds_toArray, List.set_cons_zero, List.set_cons_succ])
  refine wpAnyH_takeD 12 15 (v := ?_) (by kernel_rfl) (by kernel_rfl) (by kernel_rfl) (by kernel_rfl) (by rfl) (fun _ _ _ h => h) ?_ hHeld ?_
  rotate_left 1
  (intro o ho W hSw; simp only [List.getElem?_toArray, List.getElem?_cons_succ, List.getElem?_cons_zero, Option.some.injEq] at ho; subst ho; (try dsimp only at hSw); go_simp; try with_reducible rfl)
  (try simp only [Act.put, List.setIfInBounds_toArray, List.set_cons_zero, List.set_cons_succ])
  refine wpAnyH_takeD 13 16 (v := ?_) (by kernel_rfl) (by kernel_rfl) (by kernel_rfl) (by kernel_rfl) (by rfl) (fun _ _ _ h => h) ?_ hHeld ?_
  rotate_left 1
  (intro o ho W hSw; simp only [List.getElem?_toArray, List.getElem?_cons_succ, List.getElem?_cons_zero, Option.some.injEq] at ho; subst ho; (try dsimp only at hSw); go_simp; try with_reducible rfl)
  (try simp only [Act.put, List.setIfInBounds_toArray, List.set_cons_zero, List.set_cons_succ])
  refine wpAnyH_takeD 14 17 (v := ?_) (by kernel_rfl) (by kernel_rfl) (by kernel_rfl) (by kernel_rfl) (by rfl) (fun _ _ _ h => h) ?_ hHeld ?_
  rotate_left 1
  (intro o ho W hSw; simp only [List.getElem?_toArray, List.getElem?_cons_succ, List.getElem?_cons_zero, Option.some.injEq] at ho; subst ho; (try dsimp only at hSw); go_simp; try with_reducible rfl)
  (try simp only [Act.put, List.setIfInBounds_toArray, List.set_cons_zero, List.set_cons_succ])
  refine wpAnyH_takeD 15 18 (v := ?_) (by kernel_rfl) (by kernel_rfl) (by kernel_rfl) (by kernel_rfl) (by rfl) (fun _ _ _ h => h) ?_ hHeld ?_
  rotate_left 1
  (intro o ho W hSw; simp only [List.getElem?_toArray, List.getElem?_cons_succ, List.getElem?_cons_zero, Option.some.injEq] at ho; subst ho; (try dsimp only at hSw); go_simp; try with_reducible rfl)
  (try simp only [Act.put, List.setIfInBounds_toArray, List.set_cons_zero, List.set_cons_succ])
  refine wpAnyH_takeD 16 19 (v := ?_) (by kernel_rfl) (by kernel_rfl) (by kernel_rfl) (by kernel_rfl) (by rfl) (fun _ _ _ h => h) ?_ hHeld ?_
  rotate_left 1
  (intro o ho W hSw; simp only [List.getElem?_toArray, List.getElem?_cons_succ, List.getElem?_cons_zero, Option.some.injEq] at ho; subst ho; (try dsimp only at hSw); go_simp; try with_reducible rfl)
  (try simp only [Act.put, List.setIfInBounds_toArray, List.set_cons_zero, List.set_cons_succ])
  refine wpAnyH_onlyD 8 (by kernel_rfl) (fun o ho K hK => ?_) (by kernel_rfl)
  simp only [List.getElem?_toArray, List.getElem?_cons_succ, List.getElem?_cons_zero, Option.some.injEq] at ho
  subst ho
  go_simp
  refine (X1.out _).mono ?_
  rintro e w1 ⟨rfl, h⟩
  have K1 := Lib.hid (K0.out.below h K0.out.lt)
  have L1 := Lib.hid (L0.out.trans (h.mono L0.out.size))
  go_wp2_with fail
  refine hK.out _ _ (K1.out.h8) ?_
  clear hK K hHeld
  intro hHeld
  clear h K0 L0
  refine wpAnyH_onlyD 17 (by kernel_rfl) (fun o ho K hK => ?_) (by kernel_rfl)
  simp only [List.getElem?_toArray, List.getElem?_cons_succ, List.getElem?_cons_zero, Option.some.injEq] at ho
  subst ho
  go_simp
  refine (Y1.out _).mono ?_
  rintro e w2 ⟨rfl, h⟩
  have K2 := Lib.hid (K1.out.below h K1.out.lt)
  have L2 := Lib.hid (L1.out.trans (h.mono L1.out.size))
  go_wp2_with fail
  refine hK.out _ _ (K2.out.h8) ?_
  clear hK K hHeld
  intro hHeld
  clear h K1 L1
  refine wpAnyH_takeD 18 21 (v := ?_) (by kernel_rfl) (by kernel_rfl) (by kernel_rfl) (by kernel_rfl) (by rfl) (fun _ _ _ h => h) ?_ hHeld ?_
  rotate_left 1
  (intro o ho W hSw; simp only [List.getElem?_toArray, List.getElem?_cons_succ, List.getElem?_cons_zero, Option.some.injEq] at ho; subst ho; (try dsimp only at hSw); go_simp; try with_reducible rfl)
  (try simp only [Act.put, List.setIfInBounds_toArray, List.set_cons_zero, List.set_cons_succ])
  refine wpAnyH_takeD 19 22 (v := ?_) (by kernel_rfl) (by kernel_rfl) (by kernel_rfl) (by kernel_rfl) (by rfl) (fun _ _ _ h => h) ?_ hHeld ?_
  rotate_left 1
  (intro o ho W hSw; simp only [List.getElem?_toArray, List.getElem?_cons_succ, List.getElem?_cons_zero, Option.some.injEq] at ho; subst ho; (try dsimp only at hSw); go_simp; try with_reducible rfl)
  (try simp only [Act.put, List.setIfInBounds_toArray, List.set_cons_zero, List.set_cons_succ])
  refine wpAnyH_onlyD 20 (by kernel_rfl) (fun o ho K hK => ?_) (by kernel_rfl)
  simp only [List.getElem?_toArray, List.getElem?_cons_succ, List.getElem?_cons_zero, Option.some.injEq] at ho
  subst ho
  go_simp
  refine (planeAwake_any HC.out _).mono ?_
  rintro e w3 ⟨rfl, h⟩
  have K3 := Lib.hid (K2.out.below h K2.out.lt)
  have L3 := Lib.hid (L2.out.trans (h.mono L2.out.size))
  go_wp2_with fail
  refine hK.out _ _ (K3.out.h8) ?_
  clear hK K hHeld
  intro hHeld
  clear h K2 L2
  refine wpAnyH_takeD 21 24 (v := ?_) (by kernel_rfl) (by kernel_rfl) (by kernel_rfl) (by kernel_rfl) (by rfl) (fun _ _ _ h => h) ?_ hHeld ?_
  rotate_left 1
  (intro o ho W hSw; simp only [List.getElem?_toArray, List.getElem?_cons_succ, List.getElem?_cons_zero, Option.some.injEq] at ho; subst ho; (try dsimp only at hSw); go_simp; try with_reducible rfl)
  (try simp only [Act.put, List.setIfInBounds_toArray, List.set_cons_zero, List.set_cons_succ])
  refine wpAnyH_takeD 22 2 (v := ?_) (by kernel_rfl) (by kernel_rfl) (by kernel_rfl) (by kernel_rfl) (by rfl) (fun _ _ _ h => h) ?_ hHeld ?_
  rotate_left 1
  (intro o ho W hSw; simp only [List.getElem?_toArray, List.getElem?_cons_succ, List.getElem?_cons_zero, Option.some.injEq] at ho; subst ho; (try dsimp only at hSw); go_simp; try with_reducible rfl)
  (try simp only [Act.put, List.setIfInBounds_toArray, List.set_cons_zero, List.set_cons_succ])
  refine wpAnyH_done (by kernel_rfl) ?_ _
  go_wp2
  go_ret
  exact ⟨by simp, L3.out⟩
set_option maxRecDepth 100000 in
set_option maxHeartbeats 4000000 in
theorem pbeyond_walk (C : PlaneC) (ax ay bx by' px py : Int) (w : World) :
    Calls Try.prog 6 #[.agg #[.int .i64 ax, .int .i64 ay, .int .i64 bx, .int .i64 by', .int .i64 px, .int .i64 py]] w fun e w' => e = .returned (.bool true) ∧ Below w.heap.size w w' := by
  have X1 := Lib.hid (fun (W : World) => C.beyond ax ay bx by' px py W)
  have Y1 := Lib.hid (fun (W : World) => rBeyond_any ax ay bx by' px py W)
  generalize beyondN ⟨ax, ay⟩ ⟨bx, by'⟩ ⟨px, py⟩ = r at *
  have HC := Lib.hid C
  clear C
  go_enter Try.func6, Try.ntmps6
  go_wp2_with fail
  refine wp_gen (S := fun W => BW W w.heap.size [.int .i64 ax, .int .i64 ay, .int .i64 bx, .int .i64 by', .int .i64 px, .int .i64 py] ∧ Below w.heap.size w W) ⟨BW.new w w.heap.size [_, _, _, _, _, _] _ rfl, by repeat (first | exact Below.refl _ _ | assumption | refine Below.setCell ?_ (by first | omega | (simp; done) | (simp; omega)) _ | refine Below.alloc ?_ (by first | omega | (simp; done) | (simp; omega)) _ | refine below_drewN ?_ _ | refine Below.drew ?_ | refine Below.trans ?_ (Below.mono (by assumption) (by first | omega | (simp; done) | (simp; omega))))⟩ (fun W0 hS => ?_)
  have K0 := Lib.hid hS.1.drew
  have L0 := Lib.hid hS.2.drew
  clear hS
  refine wp_region_held_drew (S := fun W => W.cell? ⟨w.heap.size, 0, none⟩ = some (.int .i64 ax) ∧ W.cell? ⟨w.heap.size, 1, none⟩ = some (.int .i64 ay) ∧ W.cell? ⟨w.heap.size, 2, none⟩ = some (.int .i64 bx) ∧ W.cell? ⟨w.heap.size, 3, none⟩ = some (.int .i64 by') ∧ W.cell? ⟨w.heap.size, 4, none⟩ = some (.int .i64 px) ∧ W.cell? ⟨w.heap.size, 5, none⟩ = some (.int .i64 py)) (by kernel_rfl) K0.out.h6 (fun hHeld => ?_)
  generalize W0.drew = w0 at *
  refine wpAnyH_takeD 0 3 (v := ?_) (by kernel_rfl) (by kernel_rfl) (by kernel_rfl) (by kernel_rfl) (by rfl) (fun _ _ _ h => h) ?_ hHeld ?_
  rotate_left 1
  (intro o ho W hSw; simp only [List.getElem?_toArray, List.getElem?_cons_succ, List.getElem?_cons_zero, Option.some.injEq] at ho; subst ho; (try dsimp only at hSw); go_simp; try with_reducible rfl)
  (try simp only [Act.put, List.setIfInBounds_toArray, List.set_cons_zero, List.set_cons_succ])
  refine wpAnyH_takeD 1 4 (v := ?_) (by kernel_rfl) (by kernel_rfl) (by kernel_rfl) (by kernel_rfl) (by rfl) (fun _ _ _ h => h) ?_ hHeld ?_
  rotate_left 1
  (intro o ho W hSw; simp only [List.getElem?_toArray, List.getElem?_cons_succ, List.getElem?_cons_zero, Option.some.injEq] at ho; subst ho; (try dsimp only at hSw); go_simp; try with_reducible rfl)
  (try simp only [Act.put, List.setIfInBounds_toArray, List.set_cons_zero, List.set_cons_succ])
  refine wpAnyH_takeD 2 5 (v := ?_) (by kernel_rfl) (by kernel_rfl) (by kernel_rfl) (by kernel_rfl) (by rfl) (fun _ _ _ h => h) ?_ hHeld ?_
  rotate_left 1
  (intro o ho W hSw; simp only [List.getElem?_toArray, List.getElem?_cons_succ, List.getElem?_cons_zero, Option.some.injEq] at ho; subst ho; (try dsimp only at hSw); go_simp; try with_reducible rfl)
  (try simp only [Act.put, List.setIfInBounds_toArray, List.set_cons_zero, List.set_cons_succ])
  refine wpAnyH_takeD 3 6 (v := ?_) (by kernel_rfl) (by kernel_rfl) (by kernel_rfl) (by kernel_rfl) (by rfl) (fun _ _ _ h => h) ?_ hHeld ?_
  rotate_left 1
  (intro o ho W hSw; simp only [List.getElem?_toArray, List.getElem?_cons_succ, List.getElem?_cons_zero, Option.some.injEq] at ho; subst ho; (try dsimp only at hSw); go_simp; try with_reducible rfl)
  (try simp only [Act.put, List.setIfInBounds_toArray, List.set_cons_zero, List.set_cons_succ])
  refine wpAnyH_takeD 4 7 (v := ?_) (by kernel_rfl) (by kernel_rfl) (by kernel_rfl) (by kernel_rfl) (by rfl) (fun _ _ _ h => h) ?_ hHeld ?_
  rotate_left 1
  (intro o ho W hSw; simp only [List.getElem?_toArray, List.getElem?_cons_succ, List.getElem?_cons_zero, Option.some.injEq] at ho; subst ho; (try dsimp only at hSw); go_simp; try with_reducible rfl)
  (try simp only [Act.put, List.setIfInBounds_toArray, List.set_cons_zero, List.set_cons_succ])
  refine wpAnyH_takeD 5 8 (v := ?_) (by kernel_rfl) (by kernel_rfl) (by kernel_rfl) (by kernel_rfl) (by rfl) (fun _ _ _ h => h) ?_ hHeld ?_
  rotate_left 1
  (intro o ho W hSw; simp only [List.getElem?_toArray, List.getElem?_cons_succ, List.getElem?_cons_zero, Option.some.injEq] at ho; subst ho; (try dsimp only at hSw); go_simp; try with_reducible rfl)
  (try simp only [Act.put, List.setIfInBounds_toArray, List.set_cons_zero, List.set_cons_succ])
  refine wpAnyH_takeD 7 10 (v := ?_) (by kernel_rfl) (by kernel_rfl) (by kernel_rfl) (by kernel_rfl) (by rfl) (fun _ _ _ h => h) ?_ hHeld ?_
  rotate_left 1
  (intro o ho W hSw; simp only [List.getElem?_toArray, List.getElem?_cons_succ, List.getElem?_cons_zero, Option.some.injEq] at ho; subst ho; (try dsimp only at hSw); go_simp; try with_reducible rfl)
  (try simp only [Act.put, List.setIfInBounds_toArray, List.set_cons_zero, List.set_cons_succ])
  refine wpAnyH_takeD 8 11 (v := ?_) (by kernel_rfl) (by kernel_rfl) (by kernel_rfl) (by kernel_rfl) (by rfl) (fun _ _ _ h => h) ?_ hHeld ?_
  rotate_left 1
  (intro o ho W hSw; simp only [List.getElem?_toArray, List.getElem?_cons_succ, List.getElem?_cons_zero, Option.some.injEq] at ho; subst ho; (try dsimp only at hSw); go_simp; try with_reducible rfl)
  (try simp only [Act.put, List.setIfInBounds_toArray, List.set_cons_zero, List.set_cons_succ])
  refine wpAnyH_takeD 9 12 (v := ?_) (by kernel_rfl) (by kernel_rfl) (by kernel_rfl) (by kernel_rfl) (by rfl) (fun _ _ _ h => h) ?_ hHeld ?_
  rotate_left 1
  (intro o ho W hSw; simp only [List.getElem?_toArray, List.getElem?_cons_succ, List.getElem?_cons_zero, Option.some.injEq] at ho; subst ho; (try dsimp only at hSw); go_simp; try with_reducible rfl)
  (try simp only [Act.put, List.setIfInBounds_toArray, List.set_cons_zero, List.set_cons_succ])
  refine wpAnyH_takeD 10 13 (v := ?_) (by kernel_rfl) (by kernel_rfl) (by kernel_rfl) (by kernel_rfl) (by rfl) (fun _ _ _ h => h) ?_ hHeld ?_
  rotate_left 1
  (intro o ho W hSw; simp only [List.getElem?_toArray, List.getElem?_cons_succ, List.getElem?_cons_zero, Option.some.injEq] at ho; subst ho; (try dsimp only at hSw); go_simp; try with_reducible rfl)
  (try simp only [Act.put, List.setIfInBounds_toArray, List.set_cons_zero, List.set_cons_succ])
  refine wpAnyH_takeD 11 14 (v := ?_) (by kernel_rfl) (by kernel_rfl) (by kernel_rfl) (by kernel_rfl) (by rfl) (fun _ _ _ h => h) ?_ hHeld ?_
  rotate_left 1
  (intro o ho W hSw; simp only [List.getElem?_toArray, List.getElem?_cons_succ, List.getElem?_cons_zero, Option.some.injEq] at ho; subst ho; (try dsimp only at hSw); go_simp; try with_reducible rfl)
  (try simp only [Act.put, List.setIfInBounds_toArray, List.set_cons_zero, List.set_cons_succ])
  refine wpAnyH_takeD 12 15 (v := ?_) (by kernel_rfl) (by kernel_rfl) (by kernel_rfl) (by kernel_rfl) (by rfl) (fun _ _ _ h => h) ?_ hHeld ?_
  rotate_left 1
  (intro o ho W hSw; simp only [List.getElem?_toArray, List.getElem?_cons_succ, List.getElem?_cons_zero, Option.some.injEq] at ho; subst ho; (try dsimp only at hSw); go_simp; try with_reducible rfl)
  (try simp only [Act.put, List.setIfInBounds_toArray, List.set_cons_zero, List.set_cons_succ])
  refine wpAnyH_onlyD 6 (by kernel_rfl) (fun o ho K hK => ?_) (by kernel_rfl)
  simp only [List.getElem?_toArray, List.getElem?_cons_succ, List.getElem?_cons_zero, Option.some.injEq] at ho
  subst ho
  go_simp
  refine (X1.out _).mono ?_
  rintro e w1 ⟨rfl, h⟩
  have K1 := Lib.hid (K0.out.below h K0.out.lt)
  have L1 := Lib.hid (L0.out.trans (h.mono L0.out.size))
  go_wp2_with fail
  refine hK.out _ _ (K1.out.h6) ?_
  clear hK K hHeld
  intro hHeld
  clear h K0 L0
  refine wpAnyH_onlyD 13 (by kernel_rfl) (fun o ho K hK => ?_) (by kernel_rfl)
  simp only [List.getElem?_toArray, List.getElem?_cons_succ, List.getElem?_cons_zero, Option.some.injEq] at ho
  subst ho
  go_simp
  refine (Y1.out _).mono ?_
  rintro e w2 ⟨rfl, h⟩
  have K2 := Lib.hid (K1.out.below h K1.out.lt)
  have L2 := Lib.hid (L1.out.trans (h.mono L1.out.size))
  go_wp2_with fail
  refine hK.out _ _ (K2.out.h6) ?_
  clear hK K hHeld
  intro hHeld
  clear h K1 L1
  refine wpAnyH_takeD 14 17 (v := ?_) (by kernel_rfl) (by kernel_rfl) (by kernel_rfl) (by kernel_rfl) (by rfl) (fun _ _ _ h => h) ?_ hHeld ?_
  rotate_left 1
  (intro o ho W hSw; simp only [List.getElem?_toArray, List.getElem?_cons_succ, List.getElem?_cons_zero, Option.some.injEq] at ho; subst ho; (try dsimp only at hSw); go_simp; try with_reducible rfl)
  (try simp only [Act.put, List.setIfInBounds_toArray, List.set_cons_zero, List.set_cons_succ])
  refine wpAnyH_takeD 15 18 (v := ?_) (by kernel_rfl) (by kernel_rfl) (by kernel_rfl) (by kernel_rfl) (by rfl) (fun _ _ _ h => h) ?_ hHeld ?_
  rotate_left 1
  (intro o ho W hSw; simp only [List.getElem?_toArray, List.getElem?_cons_succ, List.getElem?_cons_zero, Option.some.injEq] at ho; subst ho; (try dsimp only at hSw); go_simp; try with_reducible rfl)
  (try simp only [Act.put, List.setIfInBounds_toArray, List.set_cons_zero, List.set_cons_succ])
  refine wpAnyH_onlyD 16 (by kernel_rfl) (fun o ho K hK => ?_) (by kernel_rfl)
  simp only [List.getElem?_toArray, List.getElem?_cons_succ, List.getElem?_cons_zero, Option.some.injEq] at ho
  subst ho
  go_simp
  refine (planeAwake_any HC.out _).mono ?_
  rintro e w3 ⟨rfl, h⟩
  have K3 := Lib.hid (K2.out.below h K2.out.lt)
  have L3 := Lib.hid (L2.out.trans (h.mono L2.out.size))
  go_wp2_with fail
  refine hK.out _ _ (K3.out.h6) ?_
  clear hK K hHeld
  intro hHeld
  clear h K2 L2
  refine wpAnyH_takeD 17 20 (v := ?_) (by kernel_rfl) (by kernel_rfl) (by kernel_rfl) (by kernel_rfl) (by rfl) (fun _ _ _ h => h) ?_ hHeld ?_
  rotate_left 1
  (intro o ho W hSw; simp only [List.getElem?_toArray, List.getElem?_cons_succ, List.getElem?_cons_zero, Option.some.injEq] at ho; subst ho; (try dsimp only at hSw); go_simp; try with_reducible rfl)
  (try simp only [Act.put, List.setIfInBounds_toArray, List.set_cons_zero, List.set_cons_succ])
  refine wpAnyH_takeD 18 2 (v := ?_) (by kernel_rfl) (by kernel_rfl) (by kernel_rfl) (by kernel_rfl) (by rfl) (fun _ _ _ h => h) ?_ hHeld ?_
  rotate_left 1
  (intro o ho W hSw; simp only [List.getElem?_toArray, List.getElem?_cons_succ, List.getElem?_cons_zero, Option.some.injEq] at ho; subst ho; (try dsimp only at hSw); go_simp; try with_reducible rfl)
  (try simp only [Act.put, List.setIfInBounds_toArray, List.set_cons_zero, List.set_cons_succ])
  refine wpAnyH_done (by kernel_rfl) ?_ _
  go_wp2
  go_ret
  exact ⟨by simp, L3.out⟩
set_option maxRecDepth 100000 in
set_option maxHeartbeats 4000000 in
theorem pcross_walk (C : PlaneC) (ax ay bx by' px py qx qy : Int) (w : World) :
    Calls Try.prog 4 #[.agg #[.int .i64 ax, .int .i64 ay, .int .i64 bx, .int .i64 by', .int .i64 px, .int .i64 py, .int .i64 qx, .int .i64 qy]] w fun e w' => e = .returned (.bool true) ∧ Below w.heap.size w w' := by
  have X1 := Lib.hid (fun (W : World) => C.cross ax ay bx by' px py qx qy W)
  have Y1 := Lib.hid (fun (W : World) => rCrosses_any ax ay bx by' px py qx qy W)
  generalize crossN ⟨ax, ay⟩ ⟨bx, by'⟩ ⟨px, py⟩ ⟨qx, qy⟩ = r1 at *
  generalize crossP ⟨ax, ay⟩ ⟨bx, by'⟩ ⟨px, py⟩ ⟨qx, qy⟩ = r2 at *
  have HC := Lib.hid C
  clear C
  go_enter Try.func4, Try.ntmps4
  go_wp2_with fail
  refine calls_gen (S := fun W => BW W w.heap.size [.int .i64 ax, .int .i64 ay, .int .i64 bx, .int .i64 by', .int .i64 px, .int .i64 py, .int .i64 qx, .int .i64 qy] ∧ Below w.heap.size w W) ⟨BW.new w w.heap.size [_, _, _, _, _, _, _, _] _ rfl, by repeat (first | exact Below.refl _ _ | assumption | refine Below.setCell ?_ (by first | omega | (simp; done) | (simp; omega)) _ | refine Below.alloc ?_ (by first | omega | (simp; done) | (simp; omega)) _ | refine below_drewN ?_ _ | refine Below.drew ?_ | refine Below.trans ?_ (Below.mono (by assumption) (by first | omega | (simp; done) | (simp; omega))))⟩ (fun W0 hS => ?_)
  have K0 := Lib.hid hS.1
  have L0 := Lib.hid hS.2
  clear hS
  refine (X1.out _).mono ?_
  rintro e w1 ⟨rfl, h⟩
  have K1 := Lib.hid (K0.out.below h K0.out.lt)
  have L1 := Lib.hid (L0.out.trans (h.mono L0.out.size))
  clear h K0 L0
  obtain ⟨c0, c1, c2, c3, c4, c5, c6, c7⟩ := K1.out.h8
  go_wp2_with fail
  refine (Y1.out _).mono ?_
  clear c0 c1 c2 c3 c4 c5 c6 c7
  rintro e w2 ⟨rfl, h⟩
  have K2 := Lib.hid (K1.out.below h K1.out.lt)
  have L2 := Lib.hid (L1.out.trans (h.mono L1.out.size))
  clear h K1 L1
  go_wp2_with fail
  refine (planeAwake_any HC.out _).mono ?_
  rintro e w9 ⟨rfl, h⟩
  have L9 := Lib.hid (L2.out.trans (h.mono L2.out.size))
  go_wp2
  go_ret
  exact ⟨by simp, L9.out⟩
set_option maxRecDepth 100000 in
set_option maxHeartbeats 4000000 in
theorem pturns_walk (C : PlaneC) (ax ay bx by' px py : Int) (w : World) :
    Calls Try.prog 7 #[.agg #[.int .i64 ax, .int .i64 ay, .int .i64 bx, .int .i64 by', .int .i64 px, .int .i64 py]] w fun e w' => e = .returned (.bool true) ∧ Below w.heap.size w w' := by
  have X1 := Lib.hid (fun (W : World) => C.side ax ay bx by' px py W)
  have X2 := Lib.hid (fun (W : World) => C.side bx by' ax ay px py W)
  rw [side_turn] at X2
  have X3 := Lib.hid (fun (W : World) => C.side bx by' px py ax ay W)
  rw [side_ring] at X3
  have I := side_in ⟨ax, ay⟩ ⟨bx, by'⟩ ⟨px, py⟩
  generalize sideP ⟨ax, ay⟩ ⟨bx, by'⟩ ⟨px, py⟩ = r at *
  have u1 : IntKind.i64.wrap (-r) = -r := IntWalk.i64_in _ (by omega)
  have u2 : wrap64 (-r) = -r := by unfold wrap64; omega
  clear I
  have HC := Lib.hid C
  clear C
  go_enter Try.func7, Try.ntmps7
  go_wp2_with fail
  refine calls_gen (S := fun W => BW W w.heap.size [.int .i64 ax, .int .i64 ay, .int .i64 bx, .int .i64 by', .int .i64 px, .int .i64 py] ∧ Below w.heap.size w W) ⟨BW.new w w.heap.size [_, _, _, _, _, _] _ rfl, by repeat (first | exact Below.refl _ _ | assumption | refine Below.setCell ?_ (by first | omega | (simp; done) | (simp; omega)) _ | refine Below.alloc ?_ (by first | omega | (simp; done) | (simp; omega)) _ | refine below_drewN ?_ _ | refine Below.drew ?_ | refine Below.trans ?_ (Below.mono (by assumption) (by first | omega | (simp; done) | (simp; omega))))⟩ (fun W0 hS => ?_)
  have K0 := Lib.hid hS.1
  have L0 := Lib.hid hS.2
  clear hS
  refine (X1.out _).mono ?_
  rintro e w1 ⟨rfl, h⟩
  have K1 := Lib.hid (K0.out.below h K0.out.lt)
  have L1 := Lib.hid (L0.out.trans (h.mono L0.out.size))
  clear h K0 L0
  obtain ⟨c0, c1, c2, c3, c4, c5⟩ := K1.out.h6
  go_wp2_with fail
  refine (X2.out _).mono ?_
  clear c0 c1 c2 c3 c4 c5
  rintro e w2 ⟨rfl, h⟩
  have K2 := Lib.hid (K1.out.below h K1.out.lt)
  have L2 := Lib.hid (L1.out.trans (h.mono L1.out.size))
  clear h K1 L1
  obtain ⟨c0, c1, c2, c3, c4, c5⟩ := K2.out.h6
  go_wp2_with fail
  refine (X3.out _).mono ?_
  clear c0 c1 c2 c3 c4 c5
  rintro e w3 ⟨rfl, h⟩
  have K3 := Lib.hid (K2.out.below h K2.out.lt)
  have L3 := Lib.hid (L2.out.trans (h.mono L2.out.size))
  clear h K2 L2
  go_wp2_with fail
  refine (planeAwake_any HC.out _).mono ?_
  rintro e w9 ⟨rfl, h⟩
  have L9 := Lib.hid (L3.out.trans (h.mono L3.out.size))
  go_wp2
  go_ret
  exact ⟨by simp, L9.out⟩
theorem cross_or {a b p q : Pt} : (!crossP a b p q || meetsP a b p q) = true := by
  cases h : crossP a b p q with
  | false => rfl
  | true => rw [cross_meets h]; rfl
set_option maxRecDepth 100000 in
set_option maxHeartbeats 4000000 in
theorem pmeeting_walk (C : PlaneC) (ax ay bx by' px py qx qy : Int) (w : World) :
    Calls Try.prog 8 #[.agg #[.int .i64 ax, .int .i64 ay, .int .i64 bx, .int .i64 by', .int .i64 px, .int .i64 py, .int .i64 qx, .int .i64 qy]] w fun e w' => e = .returned (.bool true) ∧ Below w.heap.size w w' := by
  have X1 := Lib.hid (fun (W : World) => C.cross ax ay bx by' px py qx qy W)
  have X2 := Lib.hid (fun (W : World) => C.meets ax ay bx by' px py qx qy W)
  have X3 := Lib.hid (fun (W : World) => C.meets px py qx qy bx by' ax ay W)
  rw [meets_turn] at X3
  have E := cross_or (a := ⟨ax, ay⟩) (b := ⟨bx, by'⟩) (p := ⟨px, py⟩) (q := ⟨qx, qy⟩)
  generalize crossN ⟨ax, ay⟩ ⟨bx, by'⟩ ⟨px, py⟩ ⟨qx, qy⟩ = r1 at *
  generalize crossP ⟨ax, ay⟩ ⟨bx, by'⟩ ⟨px, py⟩ ⟨qx, qy⟩ = r2 at *
  generalize meetsP ⟨ax, ay⟩ ⟨bx, by'⟩ ⟨px, py⟩ ⟨qx, qy⟩ = r3 at *
  cases r2 with
  | false =>
    cases r3 with
    | false =>
      have HC := Lib.hid C
      clear C
      go_enter Try.func8, Try.ntmps8
      go_wp2_with fail
      refine calls_gen (S := fun W => BW W w.heap.size [.int .i64 ax, .int .i64 ay, .int .i64 bx, .int .i64 by', .int .i64 px, .int .i64 py, .int .i64 qx, .int .i64 qy] ∧ Below w.heap.size w W) ⟨BW.new w w.heap.size [_, _, _, _, _, _, _, _] _ rfl, by repeat (first | exact Below.refl _ _ | assumption | refine Below.setCell ?_ (by first | omega | (simp; done) | (simp; omega)) _ | refine Below.alloc ?_ (by first | omega | (simp; done) | (simp; omega)) _ | refine below_drewN ?_ _ | refine Below.drew ?_ | refine Below.trans ?_ (Below.mono (by assumption) (by first | omega | (simp; done) | (simp; omega))))⟩ (fun W0 hS => ?_)
      have K0 := Lib.hid hS.1
      have L0 := Lib.hid hS.2
      clear hS
      refine (X1.out _).mono ?_
      rintro e w1 ⟨rfl, h⟩
      have K1 := Lib.hid (K0.out.below h K0.out.lt)
      have L1 := Lib.hid (L0.out.trans (h.mono L0.out.size))
      clear h K0 L0
      obtain ⟨c0, c1, c2, c3, c4, c5, c6, c7⟩ := K1.out.h8
      go_wp2_with fail
      refine (X2.out _).mono ?_
      clear c0 c1 c2 c3 c4 c5 c6 c7
      rintro e w2 ⟨rfl, h⟩
      have K2 := Lib.hid (K1.out.below h K1.out.lt)
      have L2 := Lib.hid (L1.out.trans (h.mono L1.out.size))
      clear h K1 L1
      obtain ⟨c0, c1, c2, c3, c4, c5, c6, c7⟩ := K2.out.h8
      go_wp2_with fail
      refine (X3.out _).mono ?_
      clear c0 c1 c2 c3 c4 c5 c6 c7
      rintro e w3 ⟨rfl, h⟩
      have K3 := Lib.hid (K2.out.below h K2.out.lt)
      have L3 := Lib.hid (L2.out.trans (h.mono L2.out.size))
      clear h K2 L2
      go_wp2_with fail
      refine (planeAwake_any HC.out _).mono ?_
      rintro e w9 ⟨rfl, h⟩
      have L9 := Lib.hid (L3.out.trans (h.mono L3.out.size))
      go_wp2
      go_ret
      exact ⟨by simp, L9.out⟩
    | true =>
      have HC := Lib.hid C
      clear C
      go_enter Try.func8, Try.ntmps8
      go_wp2_with fail
      refine calls_gen (S := fun W => BW W w.heap.size [.int .i64 ax, .int .i64 ay, .int .i64 bx, .int .i64 by', .int .i64 px, .int .i64 py, .int .i64 qx, .int .i64 qy] ∧ Below w.heap.size w W) ⟨BW.new w w.heap.size [_, _, _, _, _, _, _, _] _ rfl, by repeat (first | exact Below.refl _ _ | assumption | refine Below.setCell ?_ (by first | omega | (simp; done) | (simp; omega)) _ | refine Below.alloc ?_ (by first | omega | (simp; done) | (simp; omega)) _ | refine below_drewN ?_ _ | refine Below.drew ?_ | refine Below.trans ?_ (Below.mono (by assumption) (by first | omega | (simp; done) | (simp; omega))))⟩ (fun W0 hS => ?_)
      have K0 := Lib.hid hS.1
      have L0 := Lib.hid hS.2
      clear hS
      refine (X1.out _).mono ?_
      rintro e w1 ⟨rfl, h⟩
      have K1 := Lib.hid (K0.out.below h K0.out.lt)
      have L1 := Lib.hid (L0.out.trans (h.mono L0.out.size))
      clear h K0 L0
      obtain ⟨c0, c1, c2, c3, c4, c5, c6, c7⟩ := K1.out.h8
      go_wp2_with fail
      refine (X2.out _).mono ?_
      clear c0 c1 c2 c3 c4 c5 c6 c7
      rintro e w2 ⟨rfl, h⟩
      have K2 := Lib.hid (K1.out.below h K1.out.lt)
      have L2 := Lib.hid (L1.out.trans (h.mono L1.out.size))
      clear h K1 L1
      obtain ⟨c0, c1, c2, c3, c4, c5, c6, c7⟩ := K2.out.h8
      go_wp2_with fail
      refine (X3.out _).mono ?_
      clear c0 c1 c2 c3 c4 c5 c6 c7
      rintro e w3 ⟨rfl, h⟩
      have K3 := Lib.hid (K2.out.below h K2.out.lt)
      have L3 := Lib.hid (L2.out.trans (h.mono L2.out.size))
      clear h K2 L2
      go_wp2_with fail
      refine (planeAwake_any HC.out _).mono ?_
      rintro e w9 ⟨rfl, h⟩
      have L9 := Lib.hid (L3.out.trans (h.mono L3.out.size))
      go_wp2
      go_ret
      exact ⟨by simp, L9.out⟩
  | true =>
    cases r3 with
    | false => exact absurd E (by simp)
    | true =>
      have HC := Lib.hid C
      clear C
      go_enter Try.func8, Try.ntmps8
      go_wp2_with fail
      refine calls_gen (S := fun W => BW W w.heap.size [.int .i64 ax, .int .i64 ay, .int .i64 bx, .int .i64 by', .int .i64 px, .int .i64 py, .int .i64 qx, .int .i64 qy] ∧ Below w.heap.size w W) ⟨BW.new w w.heap.size [_, _, _, _, _, _, _, _] _ rfl, by repeat (first | exact Below.refl _ _ | assumption | refine Below.setCell ?_ (by first | omega | (simp; done) | (simp; omega)) _ | refine Below.alloc ?_ (by first | omega | (simp; done) | (simp; omega)) _ | refine below_drewN ?_ _ | refine Below.drew ?_ | refine Below.trans ?_ (Below.mono (by assumption) (by first | omega | (simp; done) | (simp; omega))))⟩ (fun W0 hS => ?_)
      have K0 := Lib.hid hS.1
      have L0 := Lib.hid hS.2
      clear hS
      refine (X1.out _).mono ?_
      rintro e w1 ⟨rfl, h⟩
      have K1 := Lib.hid (K0.out.below h K0.out.lt)
      have L1 := Lib.hid (L0.out.trans (h.mono L0.out.size))
      clear h K0 L0
      obtain ⟨c0, c1, c2, c3, c4, c5, c6, c7⟩ := K1.out.h8
      go_wp2_with fail
      refine (X2.out _).mono ?_
      clear c0 c1 c2 c3 c4 c5 c6 c7
      rintro e w2 ⟨rfl, h⟩
      have K2 := Lib.hid (K1.out.below h K1.out.lt)
      have L2 := Lib.hid (L1.out.trans (h.mono L1.out.size))
      clear h K1 L1
      obtain ⟨c0, c1, c2, c3, c4, c5, c6, c7⟩ := K2.out.h8
      go_wp2_with fail
      refine (X3.out _).mono ?_
      clear c0 c1 c2 c3 c4 c5 c6 c7
      rintro e w3 ⟨rfl, h⟩
      have K3 := Lib.hid (K2.out.below h K2.out.lt)
      have L3 := Lib.hid (L2.out.trans (h.mono L2.out.size))
      clear h K2 L2
      go_wp2_with fail
      refine (planeAwake_any HC.out _).mono ?_
      rintro e w9 ⟨rfl, h⟩
      have L9 := Lib.hid (L3.out.trans (h.mono L3.out.size))
      go_wp2
      go_ret
      exact ⟨by simp, L9.out⟩
end Go.Proofs.Ytmfmdipejlnmfaa
