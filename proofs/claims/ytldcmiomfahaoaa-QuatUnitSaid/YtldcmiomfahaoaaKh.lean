/- The walks of stage 6's statements, whatever the program's own quat does as long as it tells what is told here: awake, QuatMul, QuatUnit. -/
import Derived.Test.YtldcmiomfahaoaaKg
import Derived.Test.YtldcmiomfahaoaaJg
import Derived.Test.YtldcmiomfahaoaaBy
import Derived.OpenShut
import Derived.Deep.DeepCutAuto
namespace Go.Proofs.Ytldcmiomfahaoaa
open Go.RowKit
set_option linter.unusedVariables false
set_option linter.unusedSimpArgs false

/-- what package quat tells -/
structure QuatC : Prop where
  mul : ∀ (pw px py pz qw qx qy qz : Int) (b k : Nat) (o : Bool) (w : World) (hp : In4 pw px py pz) (hq : In4 qw qx qy qz) (m : MAt w b k o), Calls Try.prog 9 #[.pointer (some ⟨b, k, none⟩), .agg #[.int .i64 pw, .int .i64 px, .int .i64 py, .int .i64 pz], .agg #[.int .i64 qw, .int .i64 qx, .int .i64 qy, .int .i64 qz]] w fun e w' => e = .returned (.agg #[.int .i64 (qW pw px py pz qw qx qy qz), .int .i64 (qX pw px py pz qw qx qy qz), .int .i64 (qY pw px py pz qw qx qy qz), .int .i64 (qZ pw px py pz qw qx qy qz)]) ∧ FxW w.heap.size w b k (o || qWo pw px py pz qw qx qy qz || qXo pw px py pz qw qx qy qz || qYo pw px py pz qw qx qy qz || qZo pw px py pz qw qx qy qz) w'
  unit : ∀ (qw qx qy qz n : Int) (b k : Nat) (o : Bool) (w : World) (hq : In4 qw qx qy qz) (hn : lenF (qw * qw + qx * qx + qy * qy + qz * qz) = n) (m : MAt w b k o), Calls Try.prog 12 #[.pointer (some ⟨b, k, none⟩), .agg #[.int .i64 qw, .int .i64 qx, .int .i64 qy, .int .i64 qz]] w fun e w' => e = .returned (.agg #[.int .i64 (uW qw n), .int .i64 (uX qx n), .int .i64 (uX qy n), .int .i64 (uX qz n)]) ∧ FxW w.heap.size w b k (o || lenO (qw * qw + qx * qx + qy * qy + qz * qz) || uO qw qx qy qz n) w'
  mat : ∀ (qw qx qy qz : Int) (b k : Nat) (o : Bool) (w : World) (hq : In4 qw qx qy qz) (m : MAt w b k o), Calls Try.prog 14 #[.pointer (some ⟨b, k, none⟩), .agg #[.int .i64 qw, .int .i64 qx, .int .i64 qy, .int .i64 qz]] w fun e w' => e = .returned (.agg #[.int .i64 (diagF qy qz), .int .i64 (offF qx qy qw qz), .int .i64 (onF qx qz qw qy), .int .i64 (onF qx qy qw qz), .int .i64 (diagF qx qz), .int .i64 (offF qy qz qw qx), .int .i64 (offF qx qz qw qy), .int .i64 (onF qy qz qw qx), .int .i64 (diagF qx qy)]) ∧ FxW w.heap.size w b k (o || matO qw qx qy qz) w'
  app : ∀ (m1 m2 m3 m4 m5 m6 m7 m8 m9 x y z : Int) (b k : Nat) (o : Bool) (w : World) (hm : In9 m1 m2 m3 m4 m5 m6 m7 m8 m9) (hv : In3 x y z) (m : MAt w b k o), Calls Try.prog 16 #[.pointer (some ⟨b, k, none⟩), .agg #[.int .i64 m1, .int .i64 m2, .int .i64 m3, .int .i64 m4, .int .i64 m5, .int .i64 m6, .int .i64 m7, .int .i64 m8, .int .i64 m9], .agg #[.int .i64 x, .int .i64 y, .int .i64 z]] w fun e w' => e = .returned (.agg #[.int .i64 (dotF m1 m2 m3 x y z), .int .i64 (dotF m4 m5 m6 x y z), .int .i64 (dotF m7 m8 m9 x y z)]) ∧ FxW w.heap.size w b k (o || dotO m1 m2 m3 x y z || dotO m4 m5 m6 x y z || dotO m7 m8 m9 x y z) w'
  back : ∀ (m1 m2 m3 m4 m5 m6 m7 m8 m9 x y z : Int) (b k : Nat) (o : Bool) (w : World) (hm : In9 m1 m2 m3 m4 m5 m6 m7 m8 m9) (hv : In3 x y z) (m : MAt w b k o), Calls Try.prog 18 #[.pointer (some ⟨b, k, none⟩), .agg #[.int .i64 m1, .int .i64 m2, .int .i64 m3, .int .i64 m4, .int .i64 m5, .int .i64 m6, .int .i64 m7, .int .i64 m8, .int .i64 m9], .agg #[.int .i64 x, .int .i64 y, .int .i64 z]] w fun e w' => e = .returned (.agg #[.int .i64 (dotF m1 m4 m7 x y z), .int .i64 (dotF m2 m5 m8 x y z), .int .i64 (dotF m3 m6 m9 x y z)]) ∧ FxW w.heap.size w b k (o || dotO m1 m4 m7 x y z || dotO m2 m5 m8 x y z || dotO m3 m6 m9 x y z) w'
  step : ∀ (qw qx qy qz wx wy wz dt a b' c d n : Int) (b k : Nat) (o : Bool) (w : World) (hq : In4 qw qx qy qz) (hw : In3 wx wy wz) (ht : In64 dt) (N : StepN qw qx qy qz wx wy wz dt a b' c d) (hn : lenF (a * a + b' * b' + c * c + d * d) = n) (m : MAt w b k o), Calls Try.prog 20 #[.pointer (some ⟨b, k, none⟩), .agg #[.int .i64 qw, .int .i64 qx, .int .i64 qy, .int .i64 qz], .agg #[.int .i64 wx, .int .i64 wy, .int .i64 wz], .int .i64 dt] w fun e w' => e = .returned (.agg #[.int .i64 (uW a n), .int .i64 (uX b' n), .int .i64 (uX c n), .int .i64 (uX d n)]) ∧ FxW w.heap.size w b k (o || stepO qw qx qy qz wx wy wz dt || lenO (a * a + b' * b' + c * c + d * d) || uO a b' c d n) w'
  about : ∀ (t : Int) (b k : Nat) (o : Bool) (w : World) (t0 : 0 ≤ t) (t1 : t ≤ 4294967295) (m : MAt w b k o), Calls Try.prog 22 #[.pointer (some ⟨b, k, none⟩), .int .u32 t] w fun e w' => e = .returned (.agg #[.int .i64 (cosF (t / 2)), .int .i64 0, .int .i64 0, .int .i64 (sinF (t / 2))]) ∧ FxW w.heap.size w b k o w'

theorem qeighth : cosF 536870912 = 3037000500 ∧ sinF 536870912 = 3037000500 := by decide +kernel
theorem qev1 : diagF 0 3037000500 = 0 ∧ offF 0 0 3037000500 3037000500 = -4294967296 ∧ onF 0 3037000500 3037000500 0 = 0 ∧ onF 0 0 3037000500 3037000500 = 4294967296 ∧ offF 0 3037000500 3037000500 0 = 0 ∧ diagF 0 0 = 4294967296 ∧ (false || matO 3037000500 0 0 3037000500) = false := by decide +kernel
theorem qev2 : dotF 0 (-4294967296) 0 4294967296 0 0 = 0 ∧ dotF 4294967296 0 0 4294967296 0 0 = 4294967296 ∧ dotF 0 0 4294967296 4294967296 0 0 = 0 ∧ (false || dotO 0 (-4294967296) 0 4294967296 0 0 || dotO 4294967296 0 0 4294967296 0 0 || dotO 0 0 4294967296 4294967296 0 0) = false := by decide +kernel
theorem in3_lit {a b c : Int} (h : -4294967296 ≤ a ∧ a ≤ 4294967296) (h2 : -4294967296 ≤ b ∧ b ≤ 4294967296) (h3 : -4294967296 ≤ c ∧ c ≤ 4294967296) : In3 a b c := ⟨by omega, by omega, by omega, by omega, by omega, by omega⟩
set_option maxHeartbeats 2000000 in
theorem quatAwake_any (C : QuatC) (w : World) :
    Calls Try.prog 11 #[] w fun e w' => e = .returned (.bool true) ∧ Below w.heap.size w w' := by
  have X1 := Lib.hid (fun (W : World) (m : MAt W w.heap.size 0 false) => C.about 1073741824 w.heap.size 0 false W (by omega) (by omega) m)
  rw [show (1073741824 : Int) / 2 = 536870912 from rfl, qeighth.1, qeighth.2] at X1
  have X2 := Lib.hid (fun (W : World) (m : MAt W w.heap.size 0 false) => C.mat 3037000500 0 0 3037000500 w.heap.size 0 false W ⟨⟨by omega, by omega⟩, ⟨by omega, by omega⟩, ⟨by omega, by omega⟩, ⟨by omega, by omega⟩⟩ m)
  rw [qev1.1, qev1.2.1, qev1.2.2.1, qev1.2.2.2.1, qev1.2.2.2.2.1, qev1.2.2.2.2.2.1, qev1.2.2.2.2.2.2] at X2
  have X3 := Lib.hid (fun (W : World) (m : MAt W w.heap.size 0 false) => C.app 0 (-4294967296) 0 4294967296 0 0 0 0 4294967296 4294967296 0 0 w.heap.size 0 false W ⟨in3_lit (by omega) (by omega) (by omega), in3_lit (by omega) (by omega) (by omega), in3_lit (by omega) (by omega) (by omega)⟩ (in3_lit (by omega) (by omega) (by omega)) m)
  rw [qev2.1, qev2.2.1, qev2.2.2.1, qev2.2.2.2] at X3
  clear C
  go_enter Try.func11, Try.ntmps11
  go_wp2_with fail
  have m0 : MAt (w.alloc (.cells #[.bool false] 27)) w.heap.size 0 false := MAt.new w _ _
  have M0 := Lib.hid m0
  clear m0
  refine (X1.out _ M0.out).mono ?_
  rintro e w1 ⟨rfl, h1⟩
  have M1 := Lib.hid (h1.at M0.out M0.out.lt)
  have B1 := Lib.hid (((Below.refl w.heap.size w).alloc (Nat.le_refl _) _).trans (h1.below (C := w.heap.size) (by simp) (Nat.le_refl _)))
  clear h1 M0 X1
  go_wp2_with fail
  refine (X2.out _ M1.out).mono ?_
  rintro e w2 ⟨rfl, h2⟩
  have M2 := Lib.hid (h2.at M1.out M1.out.lt)
  have B2 := Lib.hid (B1.out.trans (h2.below (C := w.heap.size) B1.out.size (Nat.le_refl _)))
  clear h2 M1 B1 X2
  go_wp2_with fail
  refine (X3.out _ M2.out).mono ?_
  rintro e w3 ⟨rfl, h3⟩
  have M3 := h3.at M2.out M2.out.lt
  have B3 := Lib.hid (B2.out.trans (h3.below (C := w.heap.size) B2.out.size (Nat.le_refl _)))
  have c3 : w3.cell? ⟨w.heap.size, 0, none⟩ = some (.bool false) := M3.c
  have z3 : w.heap.size < w3.heap.size := M3.lt
  clear h3 M3 M2 B2 X3
  go_wp2
  go_ret
  exact ⟨rfl, B3.out.alloc (by omega) _⟩
theorem two_at6 {w W : World} {n1 n2 : Nat} (h : Below w.heap.size w W) (e1 : n1 = W.heap.size) (e2 : n2 = W.heap.size + 1) (s t : TypeId) :
    Two w ((W.alloc (.cells #[.bool false] s)).alloc (.cells #[.bool false] t)) n1 n2 false false := by
  subst e1; subst e2; exact Two.new h s t
set_option maxRecDepth 100000 in
set_option maxHeartbeats 8000000 in
theorem qmul_walk (C : QuatC) (pw px py pz qw qx qy qz : Int) (w : World) (hp : In4 pw px py pz) (hq : In4 qw qx qy qz) :
    Calls Try.prog 3 #[.agg #[.int .i64 pw, .int .i64 px, .int .i64 py, .int .i64 pz], .agg #[.int .i64 qw, .int .i64 qx, .int .i64 qy, .int .i64 qz]] w fun e w' => e = .returned (.bool true) ∧ Below w.heap.size w w' := by
  have X1 := Lib.hid (fun (b : Nat) (W : World) (m : MAt W b 0 false) => C.mul pw px py pz qw qx qy qz b 0 false W hp hq m)
  have Y1 := Lib.hid (fun (b : Nat) (W : World) (m : MAt W b 0 false) => rQMul_any pw px py pz qw qx qy qz b 0 false W hp hq m)
  generalize (false || qWo pw px py pz qw qx qy qz || qXo pw px py pz qw qx qy qz || qYo pw px py pz qw qx qy qz || qZo pw px py pz qw qx qy qz) = p at *
  generalize qW pw px py pz qw qx qy qz = rw' at *
  generalize qX pw px py pz qw qx qy qz = rx at *
  generalize qY pw px py pz qw qx qy qz = ry at *
  generalize qZ pw px py pz qw qx qy qz = rz at *
  have HC := Lib.hid C
  clear hp hq C
  go_enter Try.func3, Try.ntmps3
  go_wp2_with fail
  refine wp_gen (S := fun W => BW W w.heap.size [.int .i64 pw, .int .i64 px, .int .i64 py, .int .i64 pz] ∧ BW W (w.heap.size + 1) [.int .i64 qw, .int .i64 qx, .int .i64 qy, .int .i64 qz] ∧ Two w W (w.heap.size + 1 + 1) (w.heap.size + 1 + 1 + 1) false false)
    ⟨(((BW.new w w.heap.size [_, _, _, _] _ rfl).alloc _).alloc _).alloc _, ((BW.new _ (w.heap.size + 1) [_, _, _, _] _ (by simp)).alloc _).alloc _, two_at6 (((Below.refl w.heap.size w).alloc (Nat.le_refl _) _).alloc (by simp) _) (by simp) (by simp) _ _⟩ (fun W0 hS => ?_)
  have A0 := Lib.hid hS.1.drew
  have B0 := Lib.hid hS.2.1.drew
  have T0 := Lib.hid hS.2.2.drew
  clear hS
  refine wp_region_held_drew (S := fun W => (W.cell? ⟨w.heap.size, 0, none⟩ = some (.int .i64 pw) ∧ W.cell? ⟨w.heap.size, 1, none⟩ = some (.int .i64 px) ∧ W.cell? ⟨w.heap.size, 2, none⟩ = some (.int .i64 py) ∧ W.cell? ⟨w.heap.size, 3, none⟩ = some (.int .i64 pz)) ∧ (W.cell? ⟨w.heap.size + 1, 0, none⟩ = some (.int .i64 qw) ∧ W.cell? ⟨w.heap.size + 1, 1, none⟩ = some (.int .i64 qx) ∧ W.cell? ⟨w.heap.size + 1, 2, none⟩ = some (.int .i64 qy) ∧ W.cell? ⟨w.heap.size + 1, 3, none⟩ = some (.int .i64 qz))) (by kernel_rfl) ⟨A0.out.h4, B0.out.h4⟩ (fun hHeld => ?_)
  refine wpAnyH_takeD 0 11 (v := ?_) (by kernel_rfl) (by kernel_rfl) (by kernel_rfl) (by kernel_rfl) (by rfl) (fun _ _ _ h => h) ?_ hHeld ?_
  rotate_left 1
  (intro o ho W hSw; simp only [List.getElem?_toArray, List.getElem?_cons_succ, List.getElem?_cons_zero, Option.some.injEq] at ho; subst ho; (try dsimp only at hSw); go_simp; try with_reducible rfl)
  (try simp only [Act.put, List.setIfInBounds_toArray, List.set_cons_zero, List.set_cons_succ])
  refine wpAnyH_takeD 1 12 (v := ?_) (by kernel_rfl) (by kernel_rfl) (by kernel_rfl) (by kernel_rfl) (by rfl) (fun _ _ _ h => h) ?_ hHeld ?_
  rotate_left 1
  (intro o ho W hSw; simp only [List.getElem?_toArray, List.getElem?_cons_succ, List.getElem?_cons_zero, Option.some.injEq] at ho; subst ho; (try dsimp only at hSw); go_simp; try with_reducible rfl)
  (try simp only [Act.put, List.setIfInBounds_toArray, List.set_cons_zero, List.set_cons_succ])
  refine wpAnyH_takeD 2 13 (v := ?_) (by kernel_rfl) (by kernel_rfl) (by kernel_rfl) (by kernel_rfl) (by rfl) (fun _ _ _ h => h) ?_ hHeld ?_
  rotate_left 1
  (intro o ho W hSw; simp only [List.getElem?_toArray, List.getElem?_cons_succ, List.getElem?_cons_zero, Option.some.injEq] at ho; subst ho; (try dsimp only at hSw); go_simp; try with_reducible rfl)
  (try simp only [Act.put, List.setIfInBounds_toArray, List.set_cons_zero, List.set_cons_succ])
  refine wpAnyH_takeD 4 15 (v := ?_) (by kernel_rfl) (by kernel_rfl) (by kernel_rfl) (by kernel_rfl) (by rfl) (fun _ _ _ h => h) ?_ hHeld ?_
  rotate_left 1
  (intro o ho W hSw; simp only [List.getElem?_toArray, List.getElem?_cons_succ, List.getElem?_cons_zero, Option.some.injEq] at ho; subst ho; (try dsimp only at hSw); go_simp; try with_reducible rfl)
  (try simp only [Act.put, List.setIfInBounds_toArray, List.set_cons_zero, List.set_cons_succ])
  refine wpAnyH_takeD 5 16 (v := ?_) (by kernel_rfl) (by kernel_rfl) (by kernel_rfl) (by kernel_rfl) (by rfl) (fun _ _ _ h => h) ?_ hHeld ?_
  rotate_left 1
  (intro o ho W hSw; simp only [List.getElem?_toArray, List.getElem?_cons_succ, List.getElem?_cons_zero, Option.some.injEq] at ho; subst ho; (try dsimp only at hSw); go_simp; try with_reducible rfl)
  (try simp only [Act.put, List.setIfInBounds_toArray, List.set_cons_zero, List.set_cons_succ])
  refine wpAnyH_takeD 6 17 (v := ?_) (by kernel_rfl) (by kernel_rfl) (by kernel_rfl) (by kernel_rfl) (by rfl) (fun _ _ _ h => h) ?_ hHeld ?_
  rotate_left 1
  (intro o ho W hSw; simp only [List.getElem?_toArray, List.getElem?_cons_succ, List.getElem?_cons_zero, Option.some.injEq] at ho; subst ho; (try dsimp only at hSw); go_simp; try with_reducible rfl)
  (try simp only [Act.put, List.setIfInBounds_toArray, List.set_cons_zero, List.set_cons_succ])
  refine wpAnyH_onlyD 3 (by kernel_rfl) (fun o ho K hK => ?_) (by kernel_rfl)
  simp only [List.getElem?_toArray, List.getElem?_cons_succ, List.getElem?_cons_zero, Option.some.injEq] at ho
  subst ho
  go_simp
  refine (X1.out _ _ T0.out.a).mono ?_
  rintro e w1 ⟨rfl, h⟩
  have T1 := Lib.hid (T0.out.fst h)
  have A1 := Lib.hid (A0.out.fx h (by omega))
  (try have B1 := Lib.hid (B0.out.fx h (by omega)))
  (try have U1 := Lib.hid (U0.out.fx h (by omega)))
  (try have V1 := Lib.hid (V0.out.fx h (by omega)))
  go_wp2_with fail
  refine hK.out _ _ (⟨A1.out.h4, B1.out.h4⟩) ?_
  clear hK K hHeld
  intro hHeld
  clear h T0 A0
  (try clear B0)
  (try clear U0)
  (try clear V0)
  refine wpAnyH_onlyD 7 (by kernel_rfl) (fun o ho K hK => ?_) (by kernel_rfl)
  simp only [List.getElem?_toArray, List.getElem?_cons_succ, List.getElem?_cons_zero, Option.some.injEq] at ho
  subst ho
  go_simp
  refine (Y1.out _ _ T1.out.b).mono ?_
  rintro e w2 ⟨rfl, h⟩
  have T2 := Lib.hid (T1.out.snd h)
  have A2 := Lib.hid (A1.out.fx h (by omega))
  (try have B2 := Lib.hid (B1.out.fx h (by omega)))
  (try have U2 := Lib.hid (U1.out.fx h (by omega)))
  (try have V2 := Lib.hid (V1.out.fx h (by omega)))
  go_wp2_with fail
  refine hK.out _ _ (⟨A2.out.h4, B2.out.h4⟩) ?_
  clear hK K hHeld
  intro hHeld
  clear h T1 A1
  (try clear B1)
  (try clear U1)
  (try clear V1)
  refine wpAnyH_grow (fun W => ((W.cell? ⟨w.heap.size, 0, none⟩ = some (.int .i64 pw) ∧ W.cell? ⟨w.heap.size, 1, none⟩ = some (.int .i64 px) ∧ W.cell? ⟨w.heap.size, 2, none⟩ = some (.int .i64 py) ∧ W.cell? ⟨w.heap.size, 3, none⟩ = some (.int .i64 pz)) ∧ (W.cell? ⟨w.heap.size + 1, 0, none⟩ = some (.int .i64 qw) ∧ W.cell? ⟨w.heap.size + 1, 1, none⟩ = some (.int .i64 qx) ∧ W.cell? ⟨w.heap.size + 1, 2, none⟩ = some (.int .i64 qy) ∧ W.cell? ⟨w.heap.size + 1, 3, none⟩ = some (.int .i64 qz))) ∧ W.cell? ⟨w.heap.size + 1 + 1, 0, none⟩ = some (.bool p) ∧ W.cell? ⟨w.heap.size + 1 + 1 + 1, 0, none⟩ = some (.bool p)) (fun _ h => h.1) ⟨hHeld, T2.out.a.c, T2.out.b.c⟩ (fun hHeld => ?_)
  refine wpAnyH_takeD 8 19 (v := ?_) (by kernel_rfl) (by kernel_rfl) (by kernel_rfl) (by kernel_rfl) (by rfl) (fun _ _ _ h => h) ?_ hHeld ?_
  rotate_left 1
  (intro o ho W hSw; simp only [List.getElem?_toArray, List.getElem?_cons_succ, List.getElem?_cons_zero, Option.some.injEq] at ho; subst ho; (try dsimp only at hSw); go_simp; try with_reducible rfl)
  (try simp only [Act.put, List.setIfInBounds_toArray, List.set_cons_zero, List.set_cons_succ])
  refine wpAnyH_takeD 9 20 (v := ?_) (by kernel_rfl) (by kernel_rfl) (by kernel_rfl) (by kernel_rfl) (by rfl) (fun _ _ _ h => h) ?_ hHeld ?_
  rotate_left 1
  (intro o ho W hSw; simp only [List.getElem?_toArray, List.getElem?_cons_succ, List.getElem?_cons_zero, Option.some.injEq] at ho; subst ho; (try dsimp only at hSw); go_simp; try with_reducible rfl)
  (try simp only [Act.put, List.setIfInBounds_toArray, List.set_cons_zero, List.set_cons_succ])
  refine wpAnyH_takeD 10 21 (v := ?_) (by kernel_rfl) (by kernel_rfl) (by kernel_rfl) (by kernel_rfl) (by rfl) (fun _ _ _ h => h) ?_ hHeld ?_
  rotate_left 1
  (intro o ho W hSw; simp only [List.getElem?_toArray, List.getElem?_cons_succ, List.getElem?_cons_zero, Option.some.injEq] at ho; subst ho; (try dsimp only at hSw); go_simp; try with_reducible rfl)
  (try simp only [Act.put, List.setIfInBounds_toArray, List.set_cons_zero, List.set_cons_succ])
  refine wpAnyH_takeD 11 22 (v := ?_) (by kernel_rfl) (by kernel_rfl) (by kernel_rfl) (by kernel_rfl) (by rfl) (fun _ _ _ h => h) ?_ hHeld ?_
  rotate_left 1
  (intro o ho W hSw; simp only [List.getElem?_toArray, List.getElem?_cons_succ, List.getElem?_cons_zero, Option.some.injEq] at ho; subst ho; (try dsimp only at hSw); go_simp; try with_reducible rfl)
  (try simp only [Act.put, List.setIfInBounds_toArray, List.set_cons_zero, List.set_cons_succ])
  refine wpAnyH_takeD 12 23 (v := ?_) (by kernel_rfl) (by kernel_rfl) (by kernel_rfl) (by kernel_rfl) (by rfl) (fun _ _ _ h => h) ?_ hHeld ?_
  rotate_left 1
  (intro o ho W hSw; simp only [List.getElem?_toArray, List.getElem?_cons_succ, List.getElem?_cons_zero, Option.some.injEq] at ho; subst ho; (try dsimp only at hSw); go_simp; try with_reducible rfl)
  (try simp only [Act.put, List.setIfInBounds_toArray, List.set_cons_zero, List.set_cons_succ])
  refine wpAnyH_takeD 13 24 (v := ?_) (by kernel_rfl) (by kernel_rfl) (by kernel_rfl) (by kernel_rfl) (by rfl) (fun _ _ _ h => h) ?_ hHeld ?_
  rotate_left 1
  (intro o ho W hSw; simp only [List.getElem?_toArray, List.getElem?_cons_succ, List.getElem?_cons_zero, Option.some.injEq] at ho; subst ho; (try dsimp only at hSw); go_simp; try with_reducible rfl)
  (try simp only [Act.put, List.setIfInBounds_toArray, List.set_cons_zero, List.set_cons_succ])
  refine wpAnyH_takeD 14 25 (v := ?_) (by kernel_rfl) (by kernel_rfl) (by kernel_rfl) (by kernel_rfl) (by rfl) (fun _ _ _ h => h) ?_ hHeld ?_
  rotate_left 1
  (intro o ho W hSw; simp only [List.getElem?_toArray, List.getElem?_cons_succ, List.getElem?_cons_zero, Option.some.injEq] at ho; subst ho; (try dsimp only at hSw); go_simp; try with_reducible rfl)
  (try simp only [Act.put, List.setIfInBounds_toArray, List.set_cons_zero, List.set_cons_succ])
  refine wpAnyH_takeD 15 26 (v := ?_) (by kernel_rfl) (by kernel_rfl) (by kernel_rfl) (by kernel_rfl) (by rfl) (fun _ _ _ h => h) ?_ hHeld ?_
  rotate_left 1
  (intro o ho W hSw; simp only [List.getElem?_toArray, List.getElem?_cons_succ, List.getElem?_cons_zero, Option.some.injEq] at ho; subst ho; (try dsimp only at hSw); go_simp; try with_reducible rfl)
  (try simp only [Act.put, List.setIfInBounds_toArray, List.set_cons_zero, List.set_cons_succ])
  refine wpAnyH_takeD 16 27 (v := ?_) (by kernel_rfl) (by kernel_rfl) (by kernel_rfl) (by kernel_rfl) (by rfl) (fun _ _ _ h => h) ?_ hHeld ?_
  rotate_left 1
  (intro o ho W hSw; simp only [List.getElem?_toArray, List.getElem?_cons_succ, List.getElem?_cons_zero, Option.some.injEq] at ho; subst ho; (try dsimp only at hSw); go_simp; try with_reducible rfl)
  (try simp only [Act.put, List.setIfInBounds_toArray, List.set_cons_zero, List.set_cons_succ])
  refine wpAnyH_takeD 17 28 (v := ?_) (by kernel_rfl) (by kernel_rfl) (by kernel_rfl) (by kernel_rfl) (by rfl) (fun _ _ _ h => h) ?_ hHeld ?_
  rotate_left 1
  (intro o ho W hSw; simp only [List.getElem?_toArray, List.getElem?_cons_succ, List.getElem?_cons_zero, Option.some.injEq] at ho; subst ho; (try dsimp only at hSw); go_simp; try with_reducible rfl)
  (try simp only [Act.put, List.setIfInBounds_toArray, List.set_cons_zero, List.set_cons_succ])
  refine wpAnyH_takeD 18 29 (v := ?_) (by kernel_rfl) (by kernel_rfl) (by kernel_rfl) (by kernel_rfl) (by rfl) (fun _ _ _ h => h) ?_ hHeld ?_
  rotate_left 1
  (intro o ho W hSw; simp only [List.getElem?_toArray, List.getElem?_cons_succ, List.getElem?_cons_zero, Option.some.injEq] at ho; subst ho; (try dsimp only at hSw); go_simp; try with_reducible rfl)
  (try simp only [Act.put, List.setIfInBounds_toArray, List.set_cons_zero, List.set_cons_succ])
  refine wpAnyH_takeD 19 30 (v := ?_) (by kernel_rfl) (by kernel_rfl) (by kernel_rfl) (by kernel_rfl) (by rfl) (fun _ _ _ h => h) ?_ hHeld ?_
  rotate_left 1
  (intro o ho W hSw; simp only [List.getElem?_toArray, List.getElem?_cons_succ, List.getElem?_cons_zero, Option.some.injEq] at ho; subst ho; (try dsimp only at hSw); go_simp; try with_reducible rfl)
  (try simp only [Act.put, List.setIfInBounds_toArray, List.set_cons_zero, List.set_cons_succ])
  refine wpAnyH_takeD 20 31 (v := ?_) (by kernel_rfl) (by kernel_rfl) (by kernel_rfl) (by kernel_rfl) (by rfl) (fun _ _ _ h => h) ?_ hHeld ?_
  rotate_left 1
  (intro o ho W hSw; simp only [List.getElem?_toArray, List.getElem?_cons_succ, List.getElem?_cons_zero, Option.some.injEq] at ho; subst ho; (try dsimp only at hSw); go_simp; try with_reducible rfl)
  (try simp only [Act.put, List.setIfInBounds_toArray, List.set_cons_zero, List.set_cons_succ])
  refine wpAnyH_onlyD 21 (by kernel_rfl) (fun o ho K hK => ?_) (by kernel_rfl)
  simp only [List.getElem?_toArray, List.getElem?_cons_succ, List.getElem?_cons_zero, Option.some.injEq] at ho
  subst ho
  go_simp
  refine (quatAwake_any HC.out _).mono ?_
  rintro e w3 ⟨rfl, h⟩
  have T3 := Lib.hid (T2.out.more h)
  have A3 := Lib.hid (A2.out.below h A2.out.lt)
  (try have B3 := Lib.hid (B2.out.below h B2.out.lt))
  (try have U3 := Lib.hid (U2.out.below h U2.out.lt))
  (try have V3 := Lib.hid (V2.out.below h V2.out.lt))
  go_wp2_with fail
  refine hK.out _ _ (⟨⟨A3.out.h4, B3.out.h4⟩, T3.out.a.c, T3.out.b.c⟩) ?_
  clear hK K hHeld
  intro hHeld
  clear h T2 A2
  (try clear B2)
  (try clear U2)
  (try clear V2)
  refine wpAnyH_takeD 22 33 (v := ?_) (by kernel_rfl) (by kernel_rfl) (by kernel_rfl) (by kernel_rfl) (by rfl) (fun _ _ _ h => h) ?_ hHeld ?_
  rotate_left 1
  (intro o ho W hSw; simp only [List.getElem?_toArray, List.getElem?_cons_succ, List.getElem?_cons_zero, Option.some.injEq] at ho; subst ho; (try dsimp only at hSw); go_simp; try with_reducible rfl)
  (try simp only [Act.put, List.setIfInBounds_toArray, List.set_cons_zero, List.set_cons_succ])
  refine wpAnyH_takeD 23 4 (v := ?_) (by kernel_rfl) (by kernel_rfl) (by kernel_rfl) (by kernel_rfl) (by rfl) (fun _ _ _ h => h) ?_ hHeld ?_
  rotate_left 1
  (intro o ho W hSw; simp only [List.getElem?_toArray, List.getElem?_cons_succ, List.getElem?_cons_zero, Option.some.injEq] at ho; subst ho; (try dsimp only at hSw); go_simp; try with_reducible rfl)
  (try simp only [Act.put, List.setIfInBounds_toArray, List.set_cons_zero, List.set_cons_succ])
  refine wpAnyH_done (by kernel_rfl) ?_ _
  go_wp2
  go_ret
  exact ⟨rfl, T3.out.bl⟩
set_option maxRecDepth 100000 in
set_option maxHeartbeats 8000000 in
theorem qunit_walk (C : QuatC) (qw qx qy qz : Int) (w : World) (hq : In4 qw qx qy qz) :
    Calls Try.prog 4 #[.agg #[.int .i64 qw, .int .i64 qx, .int .i64 qy, .int .i64 qz]] w fun e w' => e = .returned (.bool true) ∧ Below w.heap.size w w' := by
  obtain ⟨n, hn⟩ : ∃ n, lenF (qw * qw + qx * qx + qy * qy + qz * qz) = n := ⟨_, rfl⟩
  have X1 := Lib.hid (fun (b : Nat) (W : World) (m : MAt W b 0 false) => C.unit qw qx qy qz n b 0 false W hq hn m)
  have Y1 := Lib.hid (fun (b : Nat) (W : World) (m : MAt W b 0 false) => rQUnit_any qw qx qy qz n b 0 false W hq hn m)
  generalize (false || lenO (qw * qw + qx * qx + qy * qy + qz * qz) || uO qw qx qy qz n) = p at *
  generalize uW qw n = rw' at *
  generalize uX qx n = rx at *
  generalize uX qy n = ry at *
  generalize uX qz n = rz at *
  have HC := Lib.hid C
  clear hq C hn
  go_enter Try.func4, Try.ntmps4
  go_wp2_with fail
  refine wp_gen (S := fun W => BW W w.heap.size [.int .i64 qw, .int .i64 qx, .int .i64 qy, .int .i64 qz] ∧ Two w W (w.heap.size + 1) (w.heap.size + 1 + 1) false false)
    ⟨((BW.new w w.heap.size [_, _, _, _] _ rfl).alloc _).alloc _, two_at6 ((Below.refl w.heap.size w).alloc (Nat.le_refl _) _) (by simp) (by simp) _ _⟩ (fun W0 hS => ?_)
  have A0 := Lib.hid hS.1.drew
  have T0 := Lib.hid hS.2.drew
  clear hS
  refine wp_region_held_drew (S := fun W => W.cell? ⟨w.heap.size, 0, none⟩ = some (.int .i64 qw) ∧ W.cell? ⟨w.heap.size, 1, none⟩ = some (.int .i64 qx) ∧ W.cell? ⟨w.heap.size, 2, none⟩ = some (.int .i64 qy) ∧ W.cell? ⟨w.heap.size, 3, none⟩ = some (.int .i64 qz)) (by kernel_rfl) A0.out.h4 (fun hHeld => ?_)
  refine wpAnyH_takeD 0 9 (v := ?_) (by kernel_rfl) (by kernel_rfl) (by kernel_rfl) (by kernel_rfl) (by rfl) (fun _ _ _ h => h) ?_ hHeld ?_
  rotate_left 1
  (intro o ho W hSw; simp only [List.getElem?_toArray, List.getElem?_cons_succ, List.getElem?_cons_zero, Option.some.injEq] at ho; subst ho; (try dsimp only at hSw); go_simp; try with_reducible rfl)
  (try simp only [Act.put, List.setIfInBounds_toArray, List.set_cons_zero, List.set_cons_succ])
  refine wpAnyH_takeD 1 10 (v := ?_) (by kernel_rfl) (by kernel_rfl) (by kernel_rfl) (by kernel_rfl) (by rfl) (fun _ _ _ h => h) ?_ hHeld ?_
  rotate_left 1
  (intro o ho W hSw; simp only [List.getElem?_toArray, List.getElem?_cons_succ, List.getElem?_cons_zero, Option.some.injEq] at ho; subst ho; (try dsimp only at hSw); go_simp; try with_reducible rfl)
  (try simp only [Act.put, List.setIfInBounds_toArray, List.set_cons_zero, List.set_cons_succ])
  refine wpAnyH_takeD 3 12 (v := ?_) (by kernel_rfl) (by kernel_rfl) (by kernel_rfl) (by kernel_rfl) (by rfl) (fun _ _ _ h => h) ?_ hHeld ?_
  rotate_left 1
  (intro o ho W hSw; simp only [List.getElem?_toArray, List.getElem?_cons_succ, List.getElem?_cons_zero, Option.some.injEq] at ho; subst ho; (try dsimp only at hSw); go_simp; try with_reducible rfl)
  (try simp only [Act.put, List.setIfInBounds_toArray, List.set_cons_zero, List.set_cons_succ])
  refine wpAnyH_takeD 4 13 (v := ?_) (by kernel_rfl) (by kernel_rfl) (by kernel_rfl) (by kernel_rfl) (by rfl) (fun _ _ _ h => h) ?_ hHeld ?_
  rotate_left 1
  (intro o ho W hSw; simp only [List.getElem?_toArray, List.getElem?_cons_succ, List.getElem?_cons_zero, Option.some.injEq] at ho; subst ho; (try dsimp only at hSw); go_simp; try with_reducible rfl)
  (try simp only [Act.put, List.setIfInBounds_toArray, List.set_cons_zero, List.set_cons_succ])
  refine wpAnyH_onlyD 2 (by kernel_rfl) (fun o ho K hK => ?_) (by kernel_rfl)
  simp only [List.getElem?_toArray, List.getElem?_cons_succ, List.getElem?_cons_zero, Option.some.injEq] at ho
  subst ho
  go_simp
  refine (X1.out _ _ T0.out.a).mono ?_
  rintro e w1 ⟨rfl, h⟩
  have T1 := Lib.hid (T0.out.fst h)
  have A1 := Lib.hid (A0.out.fx h (by omega))
  (try have B1 := Lib.hid (B0.out.fx h (by omega)))
  (try have U1 := Lib.hid (U0.out.fx h (by omega)))
  (try have V1 := Lib.hid (V0.out.fx h (by omega)))
  go_wp2_with fail
  refine hK.out _ _ (A1.out.h4) ?_
  clear hK K hHeld
  intro hHeld
  clear h T0 A0
  (try clear B0)
  (try clear U0)
  (try clear V0)
  refine wpAnyH_onlyD 5 (by kernel_rfl) (fun o ho K hK => ?_) (by kernel_rfl)
  simp only [List.getElem?_toArray, List.getElem?_cons_succ, List.getElem?_cons_zero, Option.some.injEq] at ho
  subst ho
  go_simp
  refine (Y1.out _ _ T1.out.b).mono ?_
  rintro e w2 ⟨rfl, h⟩
  have T2 := Lib.hid (T1.out.snd h)
  have A2 := Lib.hid (A1.out.fx h (by omega))
  (try have B2 := Lib.hid (B1.out.fx h (by omega)))
  (try have U2 := Lib.hid (U1.out.fx h (by omega)))
  (try have V2 := Lib.hid (V1.out.fx h (by omega)))
  go_wp2_with fail
  refine hK.out _ _ (A2.out.h4) ?_
  clear hK K hHeld
  intro hHeld
  clear h T1 A1
  (try clear B1)
  (try clear U1)
  (try clear V1)
  refine wpAnyH_grow (fun W => (W.cell? ⟨w.heap.size, 0, none⟩ = some (.int .i64 qw) ∧ W.cell? ⟨w.heap.size, 1, none⟩ = some (.int .i64 qx) ∧ W.cell? ⟨w.heap.size, 2, none⟩ = some (.int .i64 qy) ∧ W.cell? ⟨w.heap.size, 3, none⟩ = some (.int .i64 qz)) ∧ W.cell? ⟨w.heap.size + 1, 0, none⟩ = some (.bool p) ∧ W.cell? ⟨w.heap.size + 1 + 1, 0, none⟩ = some (.bool p)) (fun _ h => h.1) ⟨hHeld, T2.out.a.c, T2.out.b.c⟩ (fun hHeld => ?_)
  refine wpAnyH_takeD 6 15 (v := ?_) (by kernel_rfl) (by kernel_rfl) (by kernel_rfl) (by kernel_rfl) (by rfl) (fun _ _ _ h => h) ?_ hHeld ?_
  rotate_left 1
  (intro o ho W hSw; simp only [List.getElem?_toArray, List.getElem?_cons_succ, List.getElem?_cons_zero, Option.some.injEq] at ho; subst ho; (try dsimp only at hSw); go_simp; try with_reducible rfl)
  (try simp only [Act.put, List.setIfInBounds_toArray, List.set_cons_zero, List.set_cons_succ])
  refine wpAnyH_takeD 7 16 (v := ?_) (by kernel_rfl) (by kernel_rfl) (by kernel_rfl) (by kernel_rfl) (by rfl) (fun _ _ _ h => h) ?_ hHeld ?_
  rotate_left 1
  (intro o ho W hSw; simp only [List.getElem?_toArray, List.getElem?_cons_succ, List.getElem?_cons_zero, Option.some.injEq] at ho; subst ho; (try dsimp only at hSw); go_simp; try with_reducible rfl)
  (try simp only [Act.put, List.setIfInBounds_toArray, List.set_cons_zero, List.set_cons_succ])
  refine wpAnyH_takeD 8 17 (v := ?_) (by kernel_rfl) (by kernel_rfl) (by kernel_rfl) (by kernel_rfl) (by rfl) (fun _ _ _ h => h) ?_ hHeld ?_
  rotate_left 1
  (intro o ho W hSw; simp only [List.getElem?_toArray, List.getElem?_cons_succ, List.getElem?_cons_zero, Option.some.injEq] at ho; subst ho; (try dsimp only at hSw); go_simp; try with_reducible rfl)
  (try simp only [Act.put, List.setIfInBounds_toArray, List.set_cons_zero, List.set_cons_succ])
  refine wpAnyH_takeD 9 18 (v := ?_) (by kernel_rfl) (by kernel_rfl) (by kernel_rfl) (by kernel_rfl) (by rfl) (fun _ _ _ h => h) ?_ hHeld ?_
  rotate_left 1
  (intro o ho W hSw; simp only [List.getElem?_toArray, List.getElem?_cons_succ, List.getElem?_cons_zero, Option.some.injEq] at ho; subst ho; (try dsimp only at hSw); go_simp; try with_reducible rfl)
  (try simp only [Act.put, List.setIfInBounds_toArray, List.set_cons_zero, List.set_cons_succ])
  refine wpAnyH_takeD 10 19 (v := ?_) (by kernel_rfl) (by kernel_rfl) (by kernel_rfl) (by kernel_rfl) (by rfl) (fun _ _ _ h => h) ?_ hHeld ?_
  rotate_left 1
  (intro o ho W hSw; simp only [List.getElem?_toArray, List.getElem?_cons_succ, List.getElem?_cons_zero, Option.some.injEq] at ho; subst ho; (try dsimp only at hSw); go_simp; try with_reducible rfl)
  (try simp only [Act.put, List.setIfInBounds_toArray, List.set_cons_zero, List.set_cons_succ])
  refine wpAnyH_takeD 11 20 (v := ?_) (by kernel_rfl) (by kernel_rfl) (by kernel_rfl) (by kernel_rfl) (by rfl) (fun _ _ _ h => h) ?_ hHeld ?_
  rotate_left 1
  (intro o ho W hSw; simp only [List.getElem?_toArray, List.getElem?_cons_succ, List.getElem?_cons_zero, Option.some.injEq] at ho; subst ho; (try dsimp only at hSw); go_simp; try with_reducible rfl)
  (try simp only [Act.put, List.setIfInBounds_toArray, List.set_cons_zero, List.set_cons_succ])
  refine wpAnyH_takeD 12 21 (v := ?_) (by kernel_rfl) (by kernel_rfl) (by kernel_rfl) (by kernel_rfl) (by rfl) (fun _ _ _ h => h) ?_ hHeld ?_
  rotate_left 1
  (intro o ho W hSw; simp only [List.getElem?_toArray, List.getElem?_cons_succ, List.getElem?_cons_zero, Option.some.injEq] at ho; subst ho; (try dsimp only at hSw); go_simp; try with_reducible rfl)
  (try simp only [Act.put, List.setIfInBounds_toArray, List.set_cons_zero, List.set_cons_succ])
  refine wpAnyH_takeD 13 22 (v := ?_) (by kernel_rfl) (by kernel_rfl) (by kernel_rfl) (by kernel_rfl) (by rfl) (fun _ _ _ h => h) ?_ hHeld ?_
  rotate_left 1
  (intro o ho W hSw; simp only [List.getElem?_toArray, List.getElem?_cons_succ, List.getElem?_cons_zero, Option.some.injEq] at ho; subst ho; (try dsimp only at hSw); go_simp; try with_reducible rfl)
  (try simp only [Act.put, List.setIfInBounds_toArray, List.set_cons_zero, List.set_cons_succ])
  refine wpAnyH_takeD 14 23 (v := ?_) (by kernel_rfl) (by kernel_rfl) (by kernel_rfl) (by kernel_rfl) (by rfl) (fun _ _ _ h => h) ?_ hHeld ?_
  rotate_left 1
  (intro o ho W hSw; simp only [List.getElem?_toArray, List.getElem?_cons_succ, List.getElem?_cons_zero, Option.some.injEq] at ho; subst ho; (try dsimp only at hSw); go_simp; try with_reducible rfl)
  (try simp only [Act.put, List.setIfInBounds_toArray, List.set_cons_zero, List.set_cons_succ])
  refine wpAnyH_takeD 15 24 (v := ?_) (by kernel_rfl) (by kernel_rfl) (by kernel_rfl) (by kernel_rfl) (by rfl) (fun _ _ _ h => h) ?_ hHeld ?_
  rotate_left 1
  (intro o ho W hSw; simp only [List.getElem?_toArray, List.getElem?_cons_succ, List.getElem?_cons_zero, Option.some.injEq] at ho; subst ho; (try dsimp only at hSw); go_simp; try with_reducible rfl)
  (try simp only [Act.put, List.setIfInBounds_toArray, List.set_cons_zero, List.set_cons_succ])
  refine wpAnyH_takeD 16 25 (v := ?_) (by kernel_rfl) (by kernel_rfl) (by kernel_rfl) (by kernel_rfl) (by rfl) (fun _ _ _ h => h) ?_ hHeld ?_
  rotate_left 1
  (intro o ho W hSw; simp only [List.getElem?_toArray, List.getElem?_cons_succ, List.getElem?_cons_zero, Option.some.injEq] at ho; subst ho; (try dsimp only at hSw); go_simp; try with_reducible rfl)
  (try simp only [Act.put, List.setIfInBounds_toArray, List.set_cons_zero, List.set_cons_succ])
  refine wpAnyH_takeD 17 26 (v := ?_) (by kernel_rfl) (by kernel_rfl) (by kernel_rfl) (by kernel_rfl) (by rfl) (fun _ _ _ h => h) ?_ hHeld ?_
  rotate_left 1
  (intro o ho W hSw; simp only [List.getElem?_toArray, List.getElem?_cons_succ, List.getElem?_cons_zero, Option.some.injEq] at ho; subst ho; (try dsimp only at hSw); go_simp; try with_reducible rfl)
  (try simp only [Act.put, List.setIfInBounds_toArray, List.set_cons_zero, List.set_cons_succ])
  refine wpAnyH_takeD 18 27 (v := ?_) (by kernel_rfl) (by kernel_rfl) (by kernel_rfl) (by kernel_rfl) (by rfl) (fun _ _ _ h => h) ?_ hHeld ?_
  rotate_left 1
  (intro o ho W hSw; simp only [List.getElem?_toArray, List.getElem?_cons_succ, List.getElem?_cons_zero, Option.some.injEq] at ho; subst ho; (try dsimp only at hSw); go_simp; try with_reducible rfl)
  (try simp only [Act.put, List.setIfInBounds_toArray, List.set_cons_zero, List.set_cons_succ])
  refine wpAnyH_onlyD 19 (by kernel_rfl) (fun o ho K hK => ?_) (by kernel_rfl)
  simp only [List.getElem?_toArray, List.getElem?_cons_succ, List.getElem?_cons_zero, Option.some.injEq] at ho
  subst ho
  go_simp
  refine (quatAwake_any HC.out _).mono ?_
  rintro e w3 ⟨rfl, h⟩
  have T3 := Lib.hid (T2.out.more h)
  have A3 := Lib.hid (A2.out.below h A2.out.lt)
  (try have B3 := Lib.hid (B2.out.below h B2.out.lt))
  (try have U3 := Lib.hid (U2.out.below h U2.out.lt))
  (try have V3 := Lib.hid (V2.out.below h V2.out.lt))
  go_wp2_with fail
  refine hK.out _ _ (⟨A3.out.h4, T3.out.a.c, T3.out.b.c⟩) ?_
  clear hK K hHeld
  intro hHeld
  clear h T2 A2
  (try clear B2)
  (try clear U2)
  (try clear V2)
  refine wpAnyH_takeD 20 29 (v := ?_) (by kernel_rfl) (by kernel_rfl) (by kernel_rfl) (by kernel_rfl) (by rfl) (fun _ _ _ h => h) ?_ hHeld ?_
  rotate_left 1
  (intro o ho W hSw; simp only [List.getElem?_toArray, List.getElem?_cons_succ, List.getElem?_cons_zero, Option.some.injEq] at ho; subst ho; (try dsimp only at hSw); go_simp; try with_reducible rfl)
  (try simp only [Act.put, List.setIfInBounds_toArray, List.set_cons_zero, List.set_cons_succ])
  refine wpAnyH_takeD 21 2 (v := ?_) (by kernel_rfl) (by kernel_rfl) (by kernel_rfl) (by kernel_rfl) (by rfl) (fun _ _ _ h => h) ?_ hHeld ?_
  rotate_left 1
  (intro o ho W hSw; simp only [List.getElem?_toArray, List.getElem?_cons_succ, List.getElem?_cons_zero, Option.some.injEq] at ho; subst ho; (try dsimp only at hSw); go_simp; try with_reducible rfl)
  (try simp only [Act.put, List.setIfInBounds_toArray, List.set_cons_zero, List.set_cons_succ])
  refine wpAnyH_done (by kernel_rfl) ?_ _
  go_wp2
  go_ret
  exact ⟨rfl, T3.out.bl⟩
end Go.Proofs.Ytldcmiomfahaoaa
