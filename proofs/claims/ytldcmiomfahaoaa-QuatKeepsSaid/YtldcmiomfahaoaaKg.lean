/- The contract of the document's Step of attitudes. -/
import Derived.Test.YtldcmiomfahaoaaKf
namespace Go.Proofs.Ytldcmiomfahaoaa
open Go.RowKit
set_option linter.unusedVariables false
set_option linter.unusedSimpArgs false

def stF (q p dt : Int) : Int := addF q (mulF (mulF p dt) 2147483648)
def stO (q p dt : Int) : Bool := mulO p dt || mulO (mulF p dt) 2147483648 || addO q (mulF (mulF p dt) 2147483648)
theorem st_or (o : Bool) (q p dt : Int) : (o || stO q p dt) = (o || mulO p dt || mulO (mulF p dt) 2147483648 || addO q (mulF (mulF p dt) 2147483648)) := by unfold stO; simp only [← Bool.or_assoc]
theorem stF_in (q p dt : Int) : In64 (stF q p dt) := addF_in _ _
/-- what a step makes of an attitude: before it is made a unit -/
structure StepN (qw qx qy qz wx wy wz dt a b c d : Int) : Prop where
  a : stF qw (qW qw qx qy qz 0 wx wy wz) dt = a
  b : stF qx (qX qw qx qy qz 0 wx wy wz) dt = b
  c : stF qy (qY qw qx qy qz 0 wx wy wz) dt = c
  d : stF qz (qZ qw qx qy qz 0 wx wy wz) dt = d
def stepO (qw qx qy qz wx wy wz dt : Int) : Bool := qWo qw qx qy qz 0 wx wy wz || qXo qw qx qy qz 0 wx wy wz || qYo qw qx qy qz 0 wx wy wz || qZo qw qx qy qz 0 wx wy wz || stO qw (qW qw qx qy qz 0 wx wy wz) dt || stO qx (qX qw qx qy qz 0 wx wy wz) dt || stO qy (qY qw qx qy qz 0 wx wy wz) dt || stO qz (qZ qw qx qy qz 0 wx wy wz) dt
set_option maxRecDepth 100000 in
set_option maxHeartbeats 8000000 in
theorem rQStep_any (qw qx qy qz wx wy wz dt a b' c d n : Int) (b k : Nat) (o : Bool) (w : World) (hq : In4 qw qx qy qz) (hw : In3 wx wy wz) (ht : In64 dt) (N : StepN qw qx qy qz wx wy wz dt a b' c d) (hn : lenF (a * a + b' * b' + c * c + d * d) = n) (m : MAt w b k o) :
    Calls Try.prog 21 #[.pointer (some ⟨b, k, none⟩), .agg #[.int .i64 qw, .int .i64 qx, .int .i64 qy, .int .i64 qz], .agg #[.int .i64 wx, .int .i64 wy, .int .i64 wz], .int .i64 dt] w fun e w' => e = .returned (.agg #[.int .i64 (uW a n), .int .i64 (uX b' n), .int .i64 (uX c n), .int .i64 (uX d n)]) ∧ FxW w.heap.size w b k (o || stepO qw qx qy qz wx wy wz dt || lenO (a * a + b' * b' + c * c + d * d) || uO a b' c d n) w' := by
  have HQ := Lib.hid hq
  have HM := Lib.hid m
  have HT := Lib.hid ht
  have I4 : In4 a b' c d := ⟨by rw [← N.a]; exact stF_in _ _ _, by rw [← N.b]; exact stF_in _ _ _, by rw [← N.c]; exact stF_in _ _ _, by rw [← N.d]; exact stF_in _ _ _⟩
  have X := Lib.hid (fun (W : World) (m : MAt W b k o) => rQMul_any qw qx qy qz 0 wx wy wz b k o W hq ⟨⟨by omega, by omega⟩, hw.q0.1, hw.q0.2.1, hw.q0.2.2⟩ m)
  have Y := Lib.hid (fun (o : Bool) (W : World) (m : MAt W b k o) => rQUnit_any a b' c d n b k o W I4 hn m)
  have E := Lib.hid (show (o || stepO qw qx qy qz wx wy wz dt) = (o || qWo qw qx qy qz 0 wx wy wz || qXo qw qx qy qz 0 wx wy wz || qYo qw qx qy qz 0 wx wy wz || qZo qw qx qy qz 0 wx wy wz || stO qw (qW qw qx qy qz 0 wx wy wz) dt || stO qx (qX qw qx qy qz 0 wx wy wz) dt || stO qy (qY qw qx qy qz 0 wx wy wz) dt || stO qz (qZ qw qx qy qz 0 wx wy wz) dt) by unfold stepO; simp only [← Bool.or_assoc])
  have PI := Lib.hid (show In64 (qW qw qx qy qz 0 wx wy wz) ∧ In64 (qX qw qx qy qz 0 wx wy wz) ∧ In64 (qY qw qx qy qz 0 wx wy wz) ∧ In64 (qZ qw qx qy qz 0 wx wy wz) from ⟨qW_in _ _ _ _ _ _ _ _, qX_in _ _ _ _ _ _ _ _, qY_in _ _ _ _ _ _ _ _, qZ_in _ _ _ _ _ _ _ _⟩)
  have HN := Lib.hid (And.intro N.a (And.intro N.b (And.intro N.c N.d)))
  rw [E.out]
  rw [show (o || qWo qw qx qy qz 0 wx wy wz || qXo qw qx qy qz 0 wx wy wz || qYo qw qx qy qz 0 wx wy wz || qZo qw qx qy qz 0 wx wy wz || stO qw (qW qw qx qy qz 0 wx wy wz) dt || stO qx (qX qw qx qy qz 0 wx wy wz) dt || stO qy (qY qw qx qy qz 0 wx wy wz) dt || stO qz (qZ qw qx qy qz 0 wx wy wz) dt) = ((((o || qWo qw qx qy qz 0 wx wy wz || qXo qw qx qy qz 0 wx wy wz || qYo qw qx qy qz 0 wx wy wz || qZo qw qx qy qz 0 wx wy wz) || stO qw (qW qw qx qy qz 0 wx wy wz) dt) || stO qx (qX qw qx qy qz 0 wx wy wz) dt) || stO qy (qY qw qx qy qz 0 wx wy wz) dt || stO qz (qZ qw qx qy qz 0 wx wy wz) dt) from rfl]
  generalize (o || qWo qw qx qy qz 0 wx wy wz || qXo qw qx qy qz 0 wx wy wz || qYo qw qx qy qz 0 wx wy wz || qZo qw qx qy qz 0 wx wy wz) = o1 at *
  generalize qW qw qx qy qz 0 wx wy wz = pw at *
  generalize qX qw qx qy qz 0 wx wy wz = px at *
  generalize qY qw qx qy qz 0 wx wy wz = py at *
  generalize qZ qw qx qy qz 0 wx wy wz = pz at *
  clear hq hw ht N hn m I4 E
  go_enter Try.func21, Try.ntmps21
  go_wp2_with fail
  refine calls_gen (S := fun W => BW W w.heap.size [.int .i64 qw, .int .i64 qx, .int .i64 qy, .int .i64 qz] ∧ BW W (w.heap.size + 1 + 1) [.int .i64 0, .int .i64 0, .int .i64 0, .int .i64 0] ∧ Below w.heap.size w W) ⟨((BW.new w w.heap.size [_, _, _, _] _ rfl).alloc _).alloc _, BW.new _ _ [_, _, _, _] _ (by simp), by repeat (first | exact Below.refl _ _ | assumption | refine Below.setCell ?_ (by first | omega | (simp; done) | (simp; omega)) _ | refine Below.alloc ?_ (by first | omega | (simp; done) | (simp; omega)) _ | refine below_drewN ?_ _ | refine Below.drew ?_ | refine Below.trans ?_ (Below.mono (by assumption) (by first | omega | (simp; done) | (simp; omega))))⟩ (fun W0 hS => ?_)
  have A7 := Lib.hid hS.1
  have R7 := Lib.hid hS.2.1
  have G7 := Lib.hid (Flag.start HM.out hS.2.2)
  clear hS HM
  refine (X.out _ G7.out.m).mono ?_
  rintro e w1 ⟨rfl, h⟩
  have G8 := Lib.hid (G7.out.fx h)
  have A8 := Lib.hid (A7.out.fx h (by have := G7.out.lt; omega))
  have R8 := Lib.hid (R7.out.fx h (by have := G7.out.lt; omega))
  clear h G7 A7 R7 X
  go_wp2_with fail
  refine wp_gen (S := fun W => BW W w.heap.size [.int .i64 qw, .int .i64 qx, .int .i64 qy, .int .i64 qz] ∧ BW W (w.heap.size + 1 + 1) [.int .i64 0, .int .i64 0, .int .i64 0, .int .i64 0] ∧ BW W w1.heap.size [.int .i64 pw, .int .i64 px, .int .i64 py, .int .i64 pz] ∧ Flag w W b k o1) ⟨A8.out.alloc _, R8.out.alloc _, BW.new w1 _ [_, _, _, _] _ rfl, G8.out.more ((Below.refl w1.heap.size w1).alloc (Nat.le_refl _) _)⟩ (fun W1 hS => ?_)
  have hz : w.heap.size + 1 + 1 < w1.heap.size := R8.out.lt
  clear A8 R8 G8
  generalize w1.heap.size = n1 at *
  have A0 := Lib.hid hS.1.drew
  have R0 := Lib.hid hS.2.1.drew
  have B0 := Lib.hid hS.2.2.1.drew
  have G0 := Lib.hid (hS.2.2.2.more ((Below.refl _ _).drew))
  clear hS
  refine wp_region_held_drew (S := fun W => (W.cell? ⟨w.heap.size, 0, none⟩ = some (.int .i64 (qw)) ∧ W.cell? ⟨w.heap.size, 1, none⟩ = some (.int .i64 (qx)) ∧ W.cell? ⟨w.heap.size, 2, none⟩ = some (.int .i64 (qy)) ∧ W.cell? ⟨w.heap.size, 3, none⟩ = some (.int .i64 (qz))) ∧ (W.cell? ⟨n1, 0, none⟩ = some (.int .i64 (pw)) ∧ W.cell? ⟨n1, 1, none⟩ = some (.int .i64 (px)) ∧ W.cell? ⟨n1, 2, none⟩ = some (.int .i64 (py)) ∧ W.cell? ⟨n1, 3, none⟩ = some (.int .i64 (pz)))) (by kernel_rfl) ⟨A0.out.h4, B0.out.h4⟩ (fun hHeld => ?_)
  refine wpAnyH_takeD 0 20 (v := ?_) (by kernel_rfl) (by kernel_rfl) (by kernel_rfl) (by kernel_rfl) (by rfl) (fun _ _ _ h => h) ?_ hHeld ?_
  rotate_left 1
  (intro o ho W hSw; simp only [List.getElem?_toArray, List.getElem?_cons_succ, List.getElem?_cons_zero, Option.some.injEq] at ho; subst ho; (try dsimp only at hSw); go_simp; try with_reducible rfl)
  (try simp only [Act.put, List.setIfInBounds_toArray, List.set_cons_zero, List.set_cons_succ])
  refine wpAnyH_takeD 1 21 (v := ?_) (by kernel_rfl) (by kernel_rfl) (by kernel_rfl) (by kernel_rfl) (by rfl) (fun _ _ _ h => h) ?_ hHeld ?_
  rotate_left 1
  (intro o ho W hSw; simp only [List.getElem?_toArray, List.getElem?_cons_succ, List.getElem?_cons_zero, Option.some.injEq] at ho; subst ho; (try dsimp only at hSw); go_simp; try with_reducible rfl)
  (try simp only [Act.put, List.setIfInBounds_toArray, List.set_cons_zero, List.set_cons_succ])
  refine wpAnyH_takeD 2 22 (v := ?_) (by kernel_rfl) (by kernel_rfl) (by kernel_rfl) (by kernel_rfl) (by rfl) (fun _ _ _ h => h) ?_ hHeld ?_
  rotate_left 1
  (intro o ho W hSw; simp only [List.getElem?_toArray, List.getElem?_cons_succ, List.getElem?_cons_zero, Option.some.injEq] at ho; subst ho; (try dsimp only at hSw); go_simp; try with_reducible rfl)
  (try simp only [Act.put, List.setIfInBounds_toArray, List.set_cons_zero, List.set_cons_succ])
  refine wpAnyH_takeD 3 23 (v := ?_) (by kernel_rfl) (by kernel_rfl) (by kernel_rfl) (by kernel_rfl) (by rfl) (fun _ _ _ h => h) ?_ hHeld ?_
  rotate_left 1
  (intro o ho W hSw; simp only [List.getElem?_toArray, List.getElem?_cons_succ, List.getElem?_cons_zero, Option.some.injEq] at ho; subst ho; (try dsimp only at hSw); go_simp; try with_reducible rfl)
  (try simp only [Act.put, List.setIfInBounds_toArray, List.set_cons_zero, List.set_cons_succ])
  refine wpAnyH_takeD 4 24 (v := ?_) (by kernel_rfl) (by kernel_rfl) (by kernel_rfl) (by kernel_rfl) (by rfl) (fun _ _ _ h => h) ?_ hHeld ?_
  rotate_left 1
  (intro o ho W hSw; simp only [List.getElem?_toArray, List.getElem?_cons_succ, List.getElem?_cons_zero, Option.some.injEq] at ho; subst ho; (try dsimp only at hSw); go_simp; try with_reducible rfl)
  (try simp only [Act.put, List.setIfInBounds_toArray, List.set_cons_zero, List.set_cons_succ])
  refine wpAnyH_takeD 5 25 (v := ?_) (by kernel_rfl) (by kernel_rfl) (by kernel_rfl) (by kernel_rfl) (by rfl) (fun _ _ _ h => h) ?_ hHeld ?_
  rotate_left 1
  (intro o ho W hSw; simp only [List.getElem?_toArray, List.getElem?_cons_succ, List.getElem?_cons_zero, Option.some.injEq] at ho; subst ho; (try dsimp only at hSw); go_simp; try with_reducible rfl)
  (try simp only [Act.put, List.setIfInBounds_toArray, List.set_cons_zero, List.set_cons_succ])
  refine wpAnyH_takeD 6 26 (v := ?_) (by kernel_rfl) (by kernel_rfl) (by kernel_rfl) (by kernel_rfl) (by rfl) (fun _ _ _ h => h) ?_ hHeld ?_
  rotate_left 1
  (intro o ho W hSw; simp only [List.getElem?_toArray, List.getElem?_cons_succ, List.getElem?_cons_zero, Option.some.injEq] at ho; subst ho; (try dsimp only at hSw); go_simp; try with_reducible rfl)
  (try simp only [Act.put, List.setIfInBounds_toArray, List.set_cons_zero, List.set_cons_succ])
  refine wpAnyH_takeD 7 27 (v := ?_) (by kernel_rfl) (by kernel_rfl) (by kernel_rfl) (by kernel_rfl) (by rfl) (fun _ _ _ h => h) ?_ hHeld ?_
  rotate_left 1
  (intro o ho W hSw; simp only [List.getElem?_toArray, List.getElem?_cons_succ, List.getElem?_cons_zero, Option.some.injEq] at ho; subst ho; (try dsimp only at hSw); go_simp; try with_reducible rfl)
  (try simp only [Act.put, List.setIfInBounds_toArray, List.set_cons_zero, List.set_cons_succ])
  refine wpAnyH_takeD 8 28 (v := ?_) (by kernel_rfl) (by kernel_rfl) (by kernel_rfl) (by kernel_rfl) (by rfl) (fun _ _ _ h => h) ?_ hHeld ?_
  rotate_left 1
  (intro o ho W hSw; simp only [List.getElem?_toArray, List.getElem?_cons_succ, List.getElem?_cons_zero, Option.some.injEq] at ho; subst ho; (try dsimp only at hSw); go_simp; try with_reducible rfl)
  (try simp only [Act.put, List.setIfInBounds_toArray, List.set_cons_zero, List.set_cons_succ])
  refine wpAnyH_takeD 12 32 (v := ?_) (by kernel_rfl) (by kernel_rfl) (by kernel_rfl) (by kernel_rfl) (by rfl) (fun _ _ _ h => h) ?_ hHeld ?_
  rotate_left 1
  (intro o ho W hSw; simp only [List.getElem?_toArray, List.getElem?_cons_succ, List.getElem?_cons_zero, Option.some.injEq] at ho; subst ho; (try dsimp only at hSw); go_simp; try with_reducible rfl)
  (try simp only [Act.put, List.setIfInBounds_toArray, List.set_cons_zero, List.set_cons_succ])
  refine wpAnyH_takeD 13 33 (v := ?_) (by kernel_rfl) (by kernel_rfl) (by kernel_rfl) (by kernel_rfl) (by rfl) (fun _ _ _ h => h) ?_ hHeld ?_
  rotate_left 1
  (intro o ho W hSw; simp only [List.getElem?_toArray, List.getElem?_cons_succ, List.getElem?_cons_zero, Option.some.injEq] at ho; subst ho; (try dsimp only at hSw); go_simp; try with_reducible rfl)
  (try simp only [Act.put, List.setIfInBounds_toArray, List.set_cons_zero, List.set_cons_succ])
  refine wpAnyH_takeD 14 34 (v := ?_) (by kernel_rfl) (by kernel_rfl) (by kernel_rfl) (by kernel_rfl) (by rfl) (fun _ _ _ h => h) ?_ hHeld ?_
  rotate_left 1
  (intro o ho W hSw; simp only [List.getElem?_toArray, List.getElem?_cons_succ, List.getElem?_cons_zero, Option.some.injEq] at ho; subst ho; (try dsimp only at hSw); go_simp; try with_reducible rfl)
  (try simp only [Act.put, List.setIfInBounds_toArray, List.set_cons_zero, List.set_cons_succ])
  refine wpAnyH_takeD 15 35 (v := ?_) (by kernel_rfl) (by kernel_rfl) (by kernel_rfl) (by kernel_rfl) (by rfl) (fun _ _ _ h => h) ?_ hHeld ?_
  rotate_left 1
  (intro o ho W hSw; simp only [List.getElem?_toArray, List.getElem?_cons_succ, List.getElem?_cons_zero, Option.some.injEq] at ho; subst ho; (try dsimp only at hSw); go_simp; try with_reducible rfl)
  (try simp only [Act.put, List.setIfInBounds_toArray, List.set_cons_zero, List.set_cons_succ])
  refine wpAnyH_takeD 16 36 (v := ?_) (by kernel_rfl) (by kernel_rfl) (by kernel_rfl) (by kernel_rfl) (by rfl) (fun _ _ _ h => h) ?_ hHeld ?_
  rotate_left 1
  (intro o ho W hSw; simp only [List.getElem?_toArray, List.getElem?_cons_succ, List.getElem?_cons_zero, Option.some.injEq] at ho; subst ho; (try dsimp only at hSw); go_simp; try with_reducible rfl)
  (try simp only [Act.put, List.setIfInBounds_toArray, List.set_cons_zero, List.set_cons_succ])
  refine wpAnyH_takeD 17 37 (v := ?_) (by kernel_rfl) (by kernel_rfl) (by kernel_rfl) (by kernel_rfl) (by rfl) (fun _ _ _ h => h) ?_ hHeld ?_
  rotate_left 1
  (intro o ho W hSw; simp only [List.getElem?_toArray, List.getElem?_cons_succ, List.getElem?_cons_zero, Option.some.injEq] at ho; subst ho; (try dsimp only at hSw); go_simp; try with_reducible rfl)
  (try simp only [Act.put, List.setIfInBounds_toArray, List.set_cons_zero, List.set_cons_succ])
  refine wpAnyH_takeD 18 38 (v := ?_) (by kernel_rfl) (by kernel_rfl) (by kernel_rfl) (by kernel_rfl) (by rfl) (fun _ _ _ h => h) ?_ hHeld ?_
  rotate_left 1
  (intro o ho W hSw; simp only [List.getElem?_toArray, List.getElem?_cons_succ, List.getElem?_cons_zero, Option.some.injEq] at ho; subst ho; (try dsimp only at hSw); go_simp; try with_reducible rfl)
  (try simp only [Act.put, List.setIfInBounds_toArray, List.set_cons_zero, List.set_cons_succ])
  refine wpAnyH_takeD 19 39 (v := ?_) (by kernel_rfl) (by kernel_rfl) (by kernel_rfl) (by kernel_rfl) (by rfl) (fun _ _ _ h => h) ?_ hHeld ?_
  rotate_left 1
  (intro o ho W hSw; simp only [List.getElem?_toArray, List.getElem?_cons_succ, List.getElem?_cons_zero, Option.some.injEq] at ho; subst ho; (try dsimp only at hSw); go_simp; try with_reducible rfl)
  (try simp only [Act.put, List.setIfInBounds_toArray, List.set_cons_zero, List.set_cons_succ])
  refine wpAnyH_takeD 23 43 (v := ?_) (by kernel_rfl) (by kernel_rfl) (by kernel_rfl) (by kernel_rfl) (by rfl) (fun _ _ _ h => h) ?_ hHeld ?_
  rotate_left 1
  (intro o ho W hSw; simp only [List.getElem?_toArray, List.getElem?_cons_succ, List.getElem?_cons_zero, Option.some.injEq] at ho; subst ho; (try dsimp only at hSw); go_simp; try with_reducible rfl)
  (try simp only [Act.put, List.setIfInBounds_toArray, List.set_cons_zero, List.set_cons_succ])
  refine wpAnyH_takeD 24 44 (v := ?_) (by kernel_rfl) (by kernel_rfl) (by kernel_rfl) (by kernel_rfl) (by rfl) (fun _ _ _ h => h) ?_ hHeld ?_
  rotate_left 1
  (intro o ho W hSw; simp only [List.getElem?_toArray, List.getElem?_cons_succ, List.getElem?_cons_zero, Option.some.injEq] at ho; subst ho; (try dsimp only at hSw); go_simp; try with_reducible rfl)
  (try simp only [Act.put, List.setIfInBounds_toArray, List.set_cons_zero, List.set_cons_succ])
  refine wpAnyH_takeD 25 45 (v := ?_) (by kernel_rfl) (by kernel_rfl) (by kernel_rfl) (by kernel_rfl) (by rfl) (fun _ _ _ h => h) ?_ hHeld ?_
  rotate_left 1
  (intro o ho W hSw; simp only [List.getElem?_toArray, List.getElem?_cons_succ, List.getElem?_cons_zero, Option.some.injEq] at ho; subst ho; (try dsimp only at hSw); go_simp; try with_reducible rfl)
  (try simp only [Act.put, List.setIfInBounds_toArray, List.set_cons_zero, List.set_cons_succ])
  refine wpAnyH_takeD 26 46 (v := ?_) (by kernel_rfl) (by kernel_rfl) (by kernel_rfl) (by kernel_rfl) (by rfl) (fun _ _ _ h => h) ?_ hHeld ?_
  rotate_left 1
  (intro o ho W hSw; simp only [List.getElem?_toArray, List.getElem?_cons_succ, List.getElem?_cons_zero, Option.some.injEq] at ho; subst ho; (try dsimp only at hSw); go_simp; try with_reducible rfl)
  (try simp only [Act.put, List.setIfInBounds_toArray, List.set_cons_zero, List.set_cons_succ])
  refine wpAnyH_takeD 27 47 (v := ?_) (by kernel_rfl) (by kernel_rfl) (by kernel_rfl) (by kernel_rfl) (by rfl) (fun _ _ _ h => h) ?_ hHeld ?_
  rotate_left 1
  (intro o ho W hSw; simp only [List.getElem?_toArray, List.getElem?_cons_succ, List.getElem?_cons_zero, Option.some.injEq] at ho; subst ho; (try dsimp only at hSw); go_simp; try with_reducible rfl)
  (try simp only [Act.put, List.setIfInBounds_toArray, List.set_cons_zero, List.set_cons_succ])
  refine wpAnyH_takeD 28 48 (v := ?_) (by kernel_rfl) (by kernel_rfl) (by kernel_rfl) (by kernel_rfl) (by rfl) (fun _ _ _ h => h) ?_ hHeld ?_
  rotate_left 1
  (intro o ho W hSw; simp only [List.getElem?_toArray, List.getElem?_cons_succ, List.getElem?_cons_zero, Option.some.injEq] at ho; subst ho; (try dsimp only at hSw); go_simp; try with_reducible rfl)
  (try simp only [Act.put, List.setIfInBounds_toArray, List.set_cons_zero, List.set_cons_succ])
  refine wpAnyH_takeD 29 49 (v := ?_) (by kernel_rfl) (by kernel_rfl) (by kernel_rfl) (by kernel_rfl) (by rfl) (fun _ _ _ h => h) ?_ hHeld ?_
  rotate_left 1
  (intro o ho W hSw; simp only [List.getElem?_toArray, List.getElem?_cons_succ, List.getElem?_cons_zero, Option.some.injEq] at ho; subst ho; (try dsimp only at hSw); go_simp; try with_reducible rfl)
  (try simp only [Act.put, List.setIfInBounds_toArray, List.set_cons_zero, List.set_cons_succ])
  refine wpAnyH_takeD 30 50 (v := ?_) (by kernel_rfl) (by kernel_rfl) (by kernel_rfl) (by kernel_rfl) (by rfl) (fun _ _ _ h => h) ?_ hHeld ?_
  rotate_left 1
  (intro o ho W hSw; simp only [List.getElem?_toArray, List.getElem?_cons_succ, List.getElem?_cons_zero, Option.some.injEq] at ho; subst ho; (try dsimp only at hSw); go_simp; try with_reducible rfl)
  (try simp only [Act.put, List.setIfInBounds_toArray, List.set_cons_zero, List.set_cons_succ])
  refine wpAnyH_takeD 34 54 (v := ?_) (by kernel_rfl) (by kernel_rfl) (by kernel_rfl) (by kernel_rfl) (by rfl) (fun _ _ _ h => h) ?_ hHeld ?_
  rotate_left 1
  (intro o ho W hSw; simp only [List.getElem?_toArray, List.getElem?_cons_succ, List.getElem?_cons_zero, Option.some.injEq] at ho; subst ho; (try dsimp only at hSw); go_simp; try with_reducible rfl)
  (try simp only [Act.put, List.setIfInBounds_toArray, List.set_cons_zero, List.set_cons_succ])
  refine wpAnyH_takeD 35 55 (v := ?_) (by kernel_rfl) (by kernel_rfl) (by kernel_rfl) (by kernel_rfl) (by rfl) (fun _ _ _ h => h) ?_ hHeld ?_
  rotate_left 1
  (intro o ho W hSw; simp only [List.getElem?_toArray, List.getElem?_cons_succ, List.getElem?_cons_zero, Option.some.injEq] at ho; subst ho; (try dsimp only at hSw); go_simp; try with_reducible rfl)
  (try simp only [Act.put, List.setIfInBounds_toArray, List.set_cons_zero, List.set_cons_succ])
  refine wpAnyH_takeD 36 56 (v := ?_) (by kernel_rfl) (by kernel_rfl) (by kernel_rfl) (by kernel_rfl) (by rfl) (fun _ _ _ h => h) ?_ hHeld ?_
  rotate_left 1
  (intro o ho W hSw; simp only [List.getElem?_toArray, List.getElem?_cons_succ, List.getElem?_cons_zero, Option.some.injEq] at ho; subst ho; (try dsimp only at hSw); go_simp; try with_reducible rfl)
  (try simp only [Act.put, List.setIfInBounds_toArray, List.set_cons_zero, List.set_cons_succ])
  refine wpAnyH_takeD 37 57 (v := ?_) (by kernel_rfl) (by kernel_rfl) (by kernel_rfl) (by kernel_rfl) (by rfl) (fun _ _ _ h => h) ?_ hHeld ?_
  rotate_left 1
  (intro o ho W hSw; simp only [List.getElem?_toArray, List.getElem?_cons_succ, List.getElem?_cons_zero, Option.some.injEq] at ho; subst ho; (try dsimp only at hSw); go_simp; try with_reducible rfl)
  (try simp only [Act.put, List.setIfInBounds_toArray, List.set_cons_zero, List.set_cons_succ])
  refine wpAnyH_takeD 38 58 (v := ?_) (by kernel_rfl) (by kernel_rfl) (by kernel_rfl) (by kernel_rfl) (by rfl) (fun _ _ _ h => h) ?_ hHeld ?_
  rotate_left 1
  (intro o ho W hSw; simp only [List.getElem?_toArray, List.getElem?_cons_succ, List.getElem?_cons_zero, Option.some.injEq] at ho; subst ho; (try dsimp only at hSw); go_simp; try with_reducible rfl)
  (try simp only [Act.put, List.setIfInBounds_toArray, List.set_cons_zero, List.set_cons_succ])
  refine wpAnyH_takeD 39 59 (v := ?_) (by kernel_rfl) (by kernel_rfl) (by kernel_rfl) (by kernel_rfl) (by rfl) (fun _ _ _ h => h) ?_ hHeld ?_
  rotate_left 1
  (intro o ho W hSw; simp only [List.getElem?_toArray, List.getElem?_cons_succ, List.getElem?_cons_zero, Option.some.injEq] at ho; subst ho; (try dsimp only at hSw); go_simp; try with_reducible rfl)
  (try simp only [Act.put, List.setIfInBounds_toArray, List.set_cons_zero, List.set_cons_succ])
  refine wpAnyH_takeD 40 60 (v := ?_) (by kernel_rfl) (by kernel_rfl) (by kernel_rfl) (by kernel_rfl) (by rfl) (fun _ _ _ h => h) ?_ hHeld ?_
  rotate_left 1
  (intro o ho W hSw; simp only [List.getElem?_toArray, List.getElem?_cons_succ, List.getElem?_cons_zero, Option.some.injEq] at ho; subst ho; (try dsimp only at hSw); go_simp; try with_reducible rfl)
  (try simp only [Act.put, List.setIfInBounds_toArray, List.set_cons_zero, List.set_cons_succ])
  refine wpAnyH_takeD 41 61 (v := ?_) (by kernel_rfl) (by kernel_rfl) (by kernel_rfl) (by kernel_rfl) (by rfl) (fun _ _ _ h => h) ?_ hHeld ?_
  rotate_left 1
  (intro o ho W hSw; simp only [List.getElem?_toArray, List.getElem?_cons_succ, List.getElem?_cons_zero, Option.some.injEq] at ho; subst ho; (try dsimp only at hSw); go_simp; try with_reducible rfl)
  (try simp only [Act.put, List.setIfInBounds_toArray, List.set_cons_zero, List.set_cons_succ])
  refine wpAnyH_onlyD 9 (by kernel_rfl) (fun o ho K hK => ?_) (by kernel_rfl)
  simp only [List.getElem?_toArray, List.getElem?_cons_succ, List.getElem?_cons_zero, Option.some.injEq] at ho
  subst ho
  go_simp
  refine (rfMul_any pw dt b k _ _ PI.out.1.1 PI.out.1.2 HT.out.1 HT.out.2 G0.out.m).mono ?_
  rintro e w1 ⟨rfl, h⟩
  have G1 := Lib.hid (G0.out.fx h)
  have A1 := Lib.hid (A0.out.fx h (by have := G0.out.lt; omega))
  (try have B1 := Lib.hid (B0.out.fx h (by have := G0.out.lt; omega)))
  (try have R1 := Lib.hid (R0.out.fx h (by have := G0.out.lt; omega)))
  (try have P1 := Lib.hid (P0.out.fx h))
  (try have I1 := Lib.hid (I0.out.fx h hbi))
  go_wp2_with fail
  refine hK.out _ _ (⟨A1.out.h4, B1.out.h4⟩) ?_
  clear hK K hHeld
  intro hHeld
  clear h G0 A0
  (try clear B0)
  (try clear R0)
  (try clear P0)
  (try clear I0)
  refine wpAnyH_onlyD 10 (by kernel_rfl) (fun o ho K hK => ?_) (by kernel_rfl)
  simp only [List.getElem?_toArray, List.getElem?_cons_succ, List.getElem?_cons_zero, Option.some.injEq] at ho
  subst ho
  go_simp
  refine (rfMul_any (mulF pw dt) 2147483648 b k _ _ (mulF_in _ _).1 (mulF_in _ _).2 (by omega) (by omega) G1.out.m).mono ?_
  rintro e w2 ⟨rfl, h⟩
  have G2 := Lib.hid (G1.out.fx h)
  have A2 := Lib.hid (A1.out.fx h (by have := G1.out.lt; omega))
  (try have B2 := Lib.hid (B1.out.fx h (by have := G1.out.lt; omega)))
  (try have R2 := Lib.hid (R1.out.fx h (by have := G1.out.lt; omega)))
  (try have P2 := Lib.hid (P1.out.fx h))
  (try have I2 := Lib.hid (I1.out.fx h hbi))
  go_wp2_with fail
  refine hK.out _ _ (⟨A2.out.h4, B2.out.h4⟩) ?_
  clear hK K hHeld
  intro hHeld
  clear h G1 A1
  (try clear B1)
  (try clear R1)
  (try clear P1)
  (try clear I1)
  refine wpAnyH_onlyD 11 (by kernel_rfl) (fun o ho K hK => ?_) (by kernel_rfl)
  simp only [List.getElem?_toArray, List.getElem?_cons_succ, List.getElem?_cons_zero, Option.some.injEq] at ho
  subst ho
  go_simp
  refine (rfAdd_any qw (mulF (mulF pw dt) 2147483648) b k _ _ HQ.out.a.1 HQ.out.a.2 (mulF_in _ _).1 (mulF_in _ _).2 G2.out.m).mono ?_
  rintro e w3 ⟨rfl, h⟩
  have G3 := Lib.hid (G2.out.fx h)
  have A3 := Lib.hid (A2.out.fx h (by have := G2.out.lt; omega))
  (try have B3 := Lib.hid (B2.out.fx h (by have := G2.out.lt; omega)))
  (try have R3 := Lib.hid (R2.out.fx h (by have := G2.out.lt; omega)))
  (try have P3 := Lib.hid (P2.out.fx h))
  (try have I3 := Lib.hid (I2.out.fx h hbi))
  go_wp2_with fail
  refine hK.out _ _ (⟨A3.out.h4, B3.out.h4⟩) ?_
  clear hK K hHeld
  intro hHeld
  clear h G2 A2
  (try clear B2)
  (try clear R2)
  (try clear P2)
  (try clear I2)
  have G3 := Lib.hid (show Flag w w3 b k (o1 || stO qw pw dt) by rw [st_or _ qw pw dt]; exact G3.out)
  refine wpAnyH_onlyD 20 (by kernel_rfl) (fun o ho K hK => ?_) (by kernel_rfl)
  simp only [List.getElem?_toArray, List.getElem?_cons_succ, List.getElem?_cons_zero, Option.some.injEq] at ho
  subst ho
  go_simp
  refine (rfMul_any px dt b k _ _ PI.out.2.1.1 PI.out.2.1.2 HT.out.1 HT.out.2 G3.out.m).mono ?_
  rintro e w4 ⟨rfl, h⟩
  have G4 := Lib.hid (G3.out.fx h)
  have A4 := Lib.hid (A3.out.fx h (by have := G3.out.lt; omega))
  (try have B4 := Lib.hid (B3.out.fx h (by have := G3.out.lt; omega)))
  (try have R4 := Lib.hid (R3.out.fx h (by have := G3.out.lt; omega)))
  (try have P4 := Lib.hid (P3.out.fx h))
  (try have I4 := Lib.hid (I3.out.fx h hbi))
  go_wp2_with fail
  refine hK.out _ _ (⟨A4.out.h4, B4.out.h4⟩) ?_
  clear hK K hHeld
  intro hHeld
  clear h G3 A3
  (try clear B3)
  (try clear R3)
  (try clear P3)
  (try clear I3)
  refine wpAnyH_onlyD 21 (by kernel_rfl) (fun o ho K hK => ?_) (by kernel_rfl)
  simp only [List.getElem?_toArray, List.getElem?_cons_succ, List.getElem?_cons_zero, Option.some.injEq] at ho
  subst ho
  go_simp
  refine (rfMul_any (mulF px dt) 2147483648 b k _ _ (mulF_in _ _).1 (mulF_in _ _).2 (by omega) (by omega) G4.out.m).mono ?_
  rintro e w5 ⟨rfl, h⟩
  have G5 := Lib.hid (G4.out.fx h)
  have A5 := Lib.hid (A4.out.fx h (by have := G4.out.lt; omega))
  (try have B5 := Lib.hid (B4.out.fx h (by have := G4.out.lt; omega)))
  (try have R5 := Lib.hid (R4.out.fx h (by have := G4.out.lt; omega)))
  (try have P5 := Lib.hid (P4.out.fx h))
  (try have I5 := Lib.hid (I4.out.fx h hbi))
  go_wp2_with fail
  refine hK.out _ _ (⟨A5.out.h4, B5.out.h4⟩) ?_
  clear hK K hHeld
  intro hHeld
  clear h G4 A4
  (try clear B4)
  (try clear R4)
  (try clear P4)
  (try clear I4)
  refine wpAnyH_onlyD 22 (by kernel_rfl) (fun o ho K hK => ?_) (by kernel_rfl)
  simp only [List.getElem?_toArray, List.getElem?_cons_succ, List.getElem?_cons_zero, Option.some.injEq] at ho
  subst ho
  go_simp
  refine (rfAdd_any qx (mulF (mulF px dt) 2147483648) b k _ _ HQ.out.b.1 HQ.out.b.2 (mulF_in _ _).1 (mulF_in _ _).2 G5.out.m).mono ?_
  rintro e w6 ⟨rfl, h⟩
  have G6 := Lib.hid (G5.out.fx h)
  have A6 := Lib.hid (A5.out.fx h (by have := G5.out.lt; omega))
  (try have B6 := Lib.hid (B5.out.fx h (by have := G5.out.lt; omega)))
  (try have R6 := Lib.hid (R5.out.fx h (by have := G5.out.lt; omega)))
  (try have P6 := Lib.hid (P5.out.fx h))
  (try have I6 := Lib.hid (I5.out.fx h hbi))
  go_wp2_with fail
  refine hK.out _ _ (⟨A6.out.h4, B6.out.h4⟩) ?_
  clear hK K hHeld
  intro hHeld
  clear h G5 A5
  (try clear B5)
  (try clear R5)
  (try clear P5)
  (try clear I5)
  have G6 := Lib.hid (show Flag w w6 b k (o1 || stO qw pw dt || stO qx px dt) by rw [st_or _ qx px dt]; exact G6.out)
  refine wpAnyH_onlyD 31 (by kernel_rfl) (fun o ho K hK => ?_) (by kernel_rfl)
  simp only [List.getElem?_toArray, List.getElem?_cons_succ, List.getElem?_cons_zero, Option.some.injEq] at ho
  subst ho
  go_simp
  refine (rfMul_any py dt b k _ _ PI.out.2.2.1.1 PI.out.2.2.1.2 HT.out.1 HT.out.2 G6.out.m).mono ?_
  rintro e w7 ⟨rfl, h⟩
  have G7 := Lib.hid (G6.out.fx h)
  have A7 := Lib.hid (A6.out.fx h (by have := G6.out.lt; omega))
  (try have B7 := Lib.hid (B6.out.fx h (by have := G6.out.lt; omega)))
  (try have R7 := Lib.hid (R6.out.fx h (by have := G6.out.lt; omega)))
  (try have P7 := Lib.hid (P6.out.fx h))
  (try have I7 := Lib.hid (I6.out.fx h hbi))
  go_wp2_with fail
  refine hK.out _ _ (⟨A7.out.h4, B7.out.h4⟩) ?_
  clear hK K hHeld
  intro hHeld
  clear h G6 A6
  (try clear B6)
  (try clear R6)
  (try clear P6)
  (try clear I6)
  refine wpAnyH_onlyD 32 (by kernel_rfl) (fun o ho K hK => ?_) (by kernel_rfl)
  simp only [List.getElem?_toArray, List.getElem?_cons_succ, List.getElem?_cons_zero, Option.some.injEq] at ho
  subst ho
  go_simp
  refine (rfMul_any (mulF py dt) 2147483648 b k _ _ (mulF_in _ _).1 (mulF_in _ _).2 (by omega) (by omega) G7.out.m).mono ?_
  rintro e w8 ⟨rfl, h⟩
  have G8 := Lib.hid (G7.out.fx h)
  have A8 := Lib.hid (A7.out.fx h (by have := G7.out.lt; omega))
  (try have B8 := Lib.hid (B7.out.fx h (by have := G7.out.lt; omega)))
  (try have R8 := Lib.hid (R7.out.fx h (by have := G7.out.lt; omega)))
  (try have P8 := Lib.hid (P7.out.fx h))
  (try have I8 := Lib.hid (I7.out.fx h hbi))
  go_wp2_with fail
  refine hK.out _ _ (⟨A8.out.h4, B8.out.h4⟩) ?_
  clear hK K hHeld
  intro hHeld
  clear h G7 A7
  (try clear B7)
  (try clear R7)
  (try clear P7)
  (try clear I7)
  refine wpAnyH_onlyD 33 (by kernel_rfl) (fun o ho K hK => ?_) (by kernel_rfl)
  simp only [List.getElem?_toArray, List.getElem?_cons_succ, List.getElem?_cons_zero, Option.some.injEq] at ho
  subst ho
  go_simp
  refine (rfAdd_any qy (mulF (mulF py dt) 2147483648) b k _ _ HQ.out.c.1 HQ.out.c.2 (mulF_in _ _).1 (mulF_in _ _).2 G8.out.m).mono ?_
  rintro e w9 ⟨rfl, h⟩
  have G9 := Lib.hid (G8.out.fx h)
  have A9 := Lib.hid (A8.out.fx h (by have := G8.out.lt; omega))
  (try have B9 := Lib.hid (B8.out.fx h (by have := G8.out.lt; omega)))
  (try have R9 := Lib.hid (R8.out.fx h (by have := G8.out.lt; omega)))
  (try have P9 := Lib.hid (P8.out.fx h))
  (try have I9 := Lib.hid (I8.out.fx h hbi))
  go_wp2_with fail
  refine hK.out _ _ (⟨A9.out.h4, B9.out.h4⟩) ?_
  clear hK K hHeld
  intro hHeld
  clear h G8 A8
  (try clear B8)
  (try clear R8)
  (try clear P8)
  (try clear I8)
  have G9 := Lib.hid (show Flag w w9 b k (o1 || stO qw pw dt || stO qx px dt || stO qy py dt) by rw [st_or _ qy py dt]; exact G9.out)
  refine wpAnyH_onlyD 42 (by kernel_rfl) (fun o ho K hK => ?_) (by kernel_rfl)
  simp only [List.getElem?_toArray, List.getElem?_cons_succ, List.getElem?_cons_zero, Option.some.injEq] at ho
  subst ho
  go_simp
  refine (rfMul_any pz dt b k _ _ PI.out.2.2.2.1 PI.out.2.2.2.2 HT.out.1 HT.out.2 G9.out.m).mono ?_
  rintro e w10 ⟨rfl, h⟩
  have G10 := Lib.hid (G9.out.fx h)
  have A10 := Lib.hid (A9.out.fx h (by have := G9.out.lt; omega))
  (try have B10 := Lib.hid (B9.out.fx h (by have := G9.out.lt; omega)))
  (try have R10 := Lib.hid (R9.out.fx h (by have := G9.out.lt; omega)))
  (try have P10 := Lib.hid (P9.out.fx h))
  (try have I10 := Lib.hid (I9.out.fx h hbi))
  go_wp2_with fail
  refine hK.out _ _ (⟨A10.out.h4, B10.out.h4⟩) ?_
  clear hK K hHeld
  intro hHeld
  clear h G9 A9
  (try clear B9)
  (try clear R9)
  (try clear P9)
  (try clear I9)
  refine wpAnyH_onlyD 43 (by kernel_rfl) (fun o ho K hK => ?_) (by kernel_rfl)
  simp only [List.getElem?_toArray, List.getElem?_cons_succ, List.getElem?_cons_zero, Option.some.injEq] at ho
  subst ho
  go_simp
  refine (rfMul_any (mulF pz dt) 2147483648 b k _ _ (mulF_in _ _).1 (mulF_in _ _).2 (by omega) (by omega) G10.out.m).mono ?_
  rintro e w11 ⟨rfl, h⟩
  have G11 := Lib.hid (G10.out.fx h)
  have A11 := Lib.hid (A10.out.fx h (by have := G10.out.lt; omega))
  (try have B11 := Lib.hid (B10.out.fx h (by have := G10.out.lt; omega)))
  (try have R11 := Lib.hid (R10.out.fx h (by have := G10.out.lt; omega)))
  (try have P11 := Lib.hid (P10.out.fx h))
  (try have I11 := Lib.hid (I10.out.fx h hbi))
  go_wp2_with fail
  refine hK.out _ _ (⟨A11.out.h4, B11.out.h4⟩) ?_
  clear hK K hHeld
  intro hHeld
  clear h G10 A10
  (try clear B10)
  (try clear R10)
  (try clear P10)
  (try clear I10)
  refine wpAnyH_onlyD 44 (by kernel_rfl) (fun o ho K hK => ?_) (by kernel_rfl)
  simp only [List.getElem?_toArray, List.getElem?_cons_succ, List.getElem?_cons_zero, Option.some.injEq] at ho
  subst ho
  go_simp
  refine (rfAdd_any qz (mulF (mulF pz dt) 2147483648) b k _ _ HQ.out.d.1 HQ.out.d.2 (mulF_in _ _).1 (mulF_in _ _).2 G11.out.m).mono ?_
  rintro e w12 ⟨rfl, h⟩
  have G12 := Lib.hid (G11.out.fx h)
  have A12 := Lib.hid (A11.out.fx h (by have := G11.out.lt; omega))
  (try have B12 := Lib.hid (B11.out.fx h (by have := G11.out.lt; omega)))
  (try have R12 := Lib.hid (R11.out.fx h (by have := G11.out.lt; omega)))
  (try have P12 := Lib.hid (P11.out.fx h))
  (try have I12 := Lib.hid (I11.out.fx h hbi))
  go_wp2_with fail
  refine hK.out _ _ (⟨A12.out.h4, B12.out.h4⟩) ?_
  clear hK K hHeld
  intro hHeld
  clear h G11 A11
  (try clear B11)
  (try clear R11)
  (try clear P11)
  (try clear I11)
  have G12 := Lib.hid (show Flag w w12 b k (o1 || stO qw pw dt || stO qx px dt || stO qy py dt || stO qz pz dt) by rw [st_or _ qz pz dt]; exact G12.out)
  refine wpAnyH_takeD 45 65 (v := ?_) (by kernel_rfl) (by kernel_rfl) (by kernel_rfl) (by kernel_rfl) (by rfl) (fun _ _ _ h => h) ?_ hHeld ?_
  rotate_left 1
  (intro o ho W hSw; simp only [List.getElem?_toArray, List.getElem?_cons_succ, List.getElem?_cons_zero, Option.some.injEq] at ho; subst ho; (try dsimp only at hSw); go_simp; try with_reducible rfl)
  (try simp only [Act.put, List.setIfInBounds_toArray, List.set_cons_zero, List.set_cons_succ])
  rw [show addF qw (mulF (mulF pw dt) 2147483648) = a from HN.out.1, show addF qx (mulF (mulF px dt) 2147483648) = b' from HN.out.2.1, show addF qy (mulF (mulF py dt) 2147483648) = c from HN.out.2.2.1, show addF qz (mulF (mulF pz dt) 2147483648) = d from HN.out.2.2.2]
  refine wpAnyH_onlyD 46 (by kernel_rfl) (fun o ho K hK => ?_) (by kernel_rfl)
  simp only [List.getElem?_toArray, List.getElem?_cons_succ, List.getElem?_cons_zero, Option.some.injEq] at ho
  subst ho
  go_simp
  refine (Y.out _ _ G12.out.m).mono ?_
  rintro e w13 ⟨rfl, h⟩
  have G13 := Lib.hid (G12.out.fx h)
  have A13 := Lib.hid (A12.out.fx h (by have := G12.out.lt; omega))
  (try have B13 := Lib.hid (B12.out.fx h (by have := G12.out.lt; omega)))
  (try have R13 := Lib.hid (R12.out.fx h (by have := G12.out.lt; omega)))
  (try have P13 := Lib.hid (P12.out.fx h))
  (try have I13 := Lib.hid (I12.out.fx h hbi))
  go_wp2_with fail
  refine hK.out _ _ (⟨A13.out.h4, B13.out.h4⟩) ?_
  clear hK K hHeld
  intro hHeld
  clear h G12 A12
  (try clear B12)
  (try clear R12)
  (try clear P12)
  (try clear I12)
  obtain ⟨r0, r1, r2, r3⟩ := R13.out.h4
  have rf := R13.out.f
  refine wpAnyH_onlyD 47 (by kernel_rfl) (fun o ho K hK => ?_) (by kernel_rfl)
  simp only [List.getElem?_toArray, List.getElem?_cons_succ, List.getElem?_cons_zero, Option.some.injEq] at ho
  subst ho
  go_simp
  refine hK.out _ _ (⟨(far4 A13.out (by omega) _ _ _ _).h4, (far4 B13.out (by omega) _ _ _ _).h4⟩) ?_
  clear hK K hHeld
  intro hHeld
  refine wpAnyH_done (by kernel_rfl) ?_ _
  go_wp2
  exact bodyPost_ret (v := .agg #[.int .i64 (uW a n), .int .i64 (uX b' n), .int .i64 (uX c n), .int .i64 (uX d n)]) (by simp [results, Try.results21, go_sem, r0, r1, r2, r3]) rfl ⟨rfl, G13.out.put4 (by omega) _ _ _ _⟩
end Go.Proofs.Ytldcmiomfahaoaa
