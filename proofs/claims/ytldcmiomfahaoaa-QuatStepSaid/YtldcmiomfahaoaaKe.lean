/- Attitudes in memory; contracts of the document's quat. -/
import Derived.Test.YtldcmiomfahaoaaKz
import Derived.Test.YtldcmiomfahaoaaKd
namespace Go.Proofs.Ytldcmiomfahaoaa
open Go.RowKit
set_option linter.unusedVariables false
set_option linter.unusedSimpArgs false

structure In4 (a b c d : Int) : Prop where
  a : In64 a
  b : In64 b
  c : In64 c
  d : In64 d
def qW (pw px py pz qw qx qy qz : Int) : Int := subF (subF (subF (mulF pw qw) (mulF px qx)) (mulF py qy)) (mulF pz qz)
def qX (pw px py pz qw qx qy qz : Int) : Int := subF (addF (addF (mulF pw qx) (mulF px qw)) (mulF py qz)) (mulF pz qy)
def qY (pw px py pz qw qx qy qz : Int) : Int := addF (addF (subF (mulF pw qy) (mulF px qz)) (mulF py qw)) (mulF pz qx)
def qZ (pw px py pz qw qx qy qz : Int) : Int := addF (subF (addF (mulF pw qz) (mulF px qy)) (mulF py qx)) (mulF pz qw)
def qWo (pw px py pz qw qx qy qz : Int) : Bool := mulO pw qw || mulO px qx || subO (mulF pw qw) (mulF px qx) || mulO py qy || subO (subF (mulF pw qw) (mulF px qx)) (mulF py qy) || mulO pz qz || subO (subF (subF (mulF pw qw) (mulF px qx)) (mulF py qy)) (mulF pz qz)
def qXo (pw px py pz qw qx qy qz : Int) : Bool := mulO pw qx || mulO px qw || addO (mulF pw qx) (mulF px qw) || mulO py qz || addO (addF (mulF pw qx) (mulF px qw)) (mulF py qz) || mulO pz qy || subO (addF (addF (mulF pw qx) (mulF px qw)) (mulF py qz)) (mulF pz qy)
def qYo (pw px py pz qw qx qy qz : Int) : Bool := mulO pw qy || mulO px qz || subO (mulF pw qy) (mulF px qz) || mulO py qw || addO (subF (mulF pw qy) (mulF px qz)) (mulF py qw) || mulO pz qx || addO (addF (subF (mulF pw qy) (mulF px qz)) (mulF py qw)) (mulF pz qx)
def qZo (pw px py pz qw qx qy qz : Int) : Bool := mulO pw qz || mulO px qy || addO (mulF pw qz) (mulF px qy) || mulO py qx || subO (addF (mulF pw qz) (mulF px qy)) (mulF py qx) || mulO pz qw || addO (subF (addF (mulF pw qz) (mulF px qy)) (mulF py qx)) (mulF pz qw)
theorem qW_in (pw px py pz qw qx qy qz : Int) : In64 (qW pw px py pz qw qx qy qz) := subF_in _ _
theorem qX_in (pw px py pz qw qx qy qz : Int) : In64 (qX pw px py pz qw qx qy qz) := subF_in _ _
theorem qY_in (pw px py pz qw qx qy qz : Int) : In64 (qY pw px py pz qw qx qy qz) := addF_in _ _
theorem qZ_in (pw px py pz qw qx qy qz : Int) : In64 (qZ pw px py pz qw qx qy qz) := addF_in _ _
set_option maxRecDepth 100000 in
set_option maxHeartbeats 8000000 in
theorem rQMul_any (pw px py pz qw qx qy qz : Int) (b k : Nat) (o : Bool) (w : World) (hp : In4 pw px py pz) (hq : In4 qw qx qy qz) (m : MAt w b k o) :
    Calls Try.prog 10 #[.pointer (some ⟨b, k, none⟩), .agg #[.int .i64 pw, .int .i64 px, .int .i64 py, .int .i64 pz], .agg #[.int .i64 qw, .int .i64 qx, .int .i64 qy, .int .i64 qz]] w fun e w' => e = .returned (.agg #[.int .i64 (qW pw px py pz qw qx qy qz), .int .i64 (qX pw px py pz qw qx qy qz), .int .i64 (qY pw px py pz qw qx qy qz), .int .i64 (qZ pw px py pz qw qx qy qz)]) ∧ FxW w.heap.size w b k (o || qWo pw px py pz qw qx qy qz || qXo pw px py pz qw qx qy qz || qYo pw px py pz qw qx qy qz || qZo pw px py pz qw qx qy qz) w' := by
  have HP := Lib.hid hp
  have HQ := Lib.hid hq
  have HM := Lib.hid m
  clear hp hq m
  go_enter Try.func10, Try.ntmps10
  go_wp2_with fail
  refine wp_gen (S := fun W => BW W w.heap.size [.int .i64 pw, .int .i64 px, .int .i64 py, .int .i64 pz] ∧ BW W (w.heap.size + 1) [.int .i64 qw, .int .i64 qx, .int .i64 qy, .int .i64 qz] ∧ BW W (w.heap.size + 1 + 1) [.int .i64 0, .int .i64 0, .int .i64 0, .int .i64 0] ∧ Below w.heap.size w W)
    ⟨((BW.new w w.heap.size [_, _, _, _] _ rfl).alloc _).alloc _, (BW.new _ (w.heap.size + 1) [_, _, _, _] _ (by simp)).alloc _, BW.new _ _ [_, _, _, _] _ (by simp), by repeat (first | exact Below.refl _ _ | assumption | refine Below.setCell ?_ (by first | omega | (simp; done) | (simp; omega)) _ | refine Below.alloc ?_ (by first | omega | (simp; done) | (simp; omega)) _ | refine below_drewN ?_ _ | refine Below.drew ?_ | refine Below.trans ?_ (Below.mono (by assumption) (by first | omega | (simp; done) | (simp; omega))))⟩ (fun w0 hS => ?_)
  have A0 := Lib.hid hS.1.drew
  have B0 := Lib.hid hS.2.1.drew
  have R0 := Lib.hid hS.2.2.1.drew
  have G0 := Lib.hid ((Flag.start HM.out hS.2.2.2).more ((Below.refl _ _).drew))
  clear hS HM
  simp only [List.append_eq, List.cons_append, List.nil_append]
  refine wp_region_held_drew (S := fun W => (W.cell? ⟨w.heap.size, 0, none⟩ = some (.int .i64 pw) ∧ W.cell? ⟨w.heap.size, 1, none⟩ = some (.int .i64 px) ∧ W.cell? ⟨w.heap.size, 2, none⟩ = some (.int .i64 py) ∧ W.cell? ⟨w.heap.size, 3, none⟩ = some (.int .i64 pz)) ∧ (W.cell? ⟨w.heap.size + 1, 0, none⟩ = some (.int .i64 qw) ∧ W.cell? ⟨w.heap.size + 1, 1, none⟩ = some (.int .i64 qx) ∧ W.cell? ⟨w.heap.size + 1, 2, none⟩ = some (.int .i64 qy) ∧ W.cell? ⟨w.heap.size + 1, 3, none⟩ = some (.int .i64 qz))) (by kernel_rfl) ⟨A0.out.h4, B0.out.h4⟩ (fun hHeld => ?_)
  refine wpAnyH_takeD 0 7 (v := ?_) (by decide +kernel) (by decide +kernel) (by decide +kernel) (by decide +kernel) (by rfl) (fun _ _ _ h => h) ?_ hHeld ?_
  rotate_left 1
  (intro o ho W hSw; simp only [List.getElem?_toArray, List.getElem?_cons_succ, List.getElem?_cons_zero, Option.some.injEq] at ho; subst ho; (try dsimp only at hSw); go_simp; try with_reducible rfl)
  (try simp only [Act.put, List.setIfInBounds_toArray, List.set_cons_zero, List.set_cons_succ])
  refine wpAnyH_takeD 1 8 (v := ?_) (by decide +kernel) (by decide +kernel) (by decide +kernel) (by decide +kernel) (by rfl) (fun _ _ _ h => h) ?_ hHeld ?_
  rotate_left 1
  (intro o ho W hSw; simp only [List.getElem?_toArray, List.getElem?_cons_succ, List.getElem?_cons_zero, Option.some.injEq] at ho; subst ho; (try dsimp only at hSw); go_simp; try with_reducible rfl)
  (try simp only [Act.put, List.setIfInBounds_toArray, List.set_cons_zero, List.set_cons_succ])
  refine wpAnyH_takeD 2 9 (v := ?_) (by decide +kernel) (by decide +kernel) (by decide +kernel) (by decide +kernel) (by rfl) (fun _ _ _ h => h) ?_ hHeld ?_
  rotate_left 1
  (intro o ho W hSw; simp only [List.getElem?_toArray, List.getElem?_cons_succ, List.getElem?_cons_zero, Option.some.injEq] at ho; subst ho; (try dsimp only at hSw); go_simp; try with_reducible rfl)
  (try simp only [Act.put, List.setIfInBounds_toArray, List.set_cons_zero, List.set_cons_succ])
  refine wpAnyH_takeD 3 10 (v := ?_) (by decide +kernel) (by decide +kernel) (by decide +kernel) (by decide +kernel) (by rfl) (fun _ _ _ h => h) ?_ hHeld ?_
  rotate_left 1
  (intro o ho W hSw; simp only [List.getElem?_toArray, List.getElem?_cons_succ, List.getElem?_cons_zero, Option.some.injEq] at ho; subst ho; (try dsimp only at hSw); go_simp; try with_reducible rfl)
  (try simp only [Act.put, List.setIfInBounds_toArray, List.set_cons_zero, List.set_cons_succ])
  refine wpAnyH_takeD 4 11 (v := ?_) (by decide +kernel) (by decide +kernel) (by decide +kernel) (by decide +kernel) (by rfl) (fun _ _ _ h => h) ?_ hHeld ?_
  rotate_left 1
  (intro o ho W hSw; simp only [List.getElem?_toArray, List.getElem?_cons_succ, List.getElem?_cons_zero, Option.some.injEq] at ho; subst ho; (try dsimp only at hSw); go_simp; try with_reducible rfl)
  (try simp only [Act.put, List.setIfInBounds_toArray, List.set_cons_zero, List.set_cons_succ])
  refine wpAnyH_takeD 5 12 (v := ?_) (by decide +kernel) (by decide +kernel) (by decide +kernel) (by decide +kernel) (by rfl) (fun _ _ _ h => h) ?_ hHeld ?_
  rotate_left 1
  (intro o ho W hSw; simp only [List.getElem?_toArray, List.getElem?_cons_succ, List.getElem?_cons_zero, Option.some.injEq] at ho; subst ho; (try dsimp only at hSw); go_simp; try with_reducible rfl)
  (try simp only [Act.put, List.setIfInBounds_toArray, List.set_cons_zero, List.set_cons_succ])
  refine wpAnyH_takeD 6 13 (v := ?_) (by decide +kernel) (by decide +kernel) (by decide +kernel) (by decide +kernel) (by rfl) (fun _ _ _ h => h) ?_ hHeld ?_
  rotate_left 1
  (intro o ho W hSw; simp only [List.getElem?_toArray, List.getElem?_cons_succ, List.getElem?_cons_zero, Option.some.injEq] at ho; subst ho; (try dsimp only at hSw); go_simp; try with_reducible rfl)
  (try simp only [Act.put, List.setIfInBounds_toArray, List.set_cons_zero, List.set_cons_succ])
  refine wpAnyH_takeD 7 14 (v := ?_) (by decide +kernel) (by decide +kernel) (by decide +kernel) (by decide +kernel) (by rfl) (fun _ _ _ h => h) ?_ hHeld ?_
  rotate_left 1
  (intro o ho W hSw; simp only [List.getElem?_toArray, List.getElem?_cons_succ, List.getElem?_cons_zero, Option.some.injEq] at ho; subst ho; (try dsimp only at hSw); go_simp; try with_reducible rfl)
  (try simp only [Act.put, List.setIfInBounds_toArray, List.set_cons_zero, List.set_cons_succ])
  refine wpAnyH_takeD 9 16 (v := ?_) (by decide +kernel) (by decide +kernel) (by decide +kernel) (by decide +kernel) (by rfl) (fun _ _ _ h => h) ?_ hHeld ?_
  rotate_left 1
  (intro o ho W hSw; simp only [List.getElem?_toArray, List.getElem?_cons_succ, List.getElem?_cons_zero, Option.some.injEq] at ho; subst ho; (try dsimp only at hSw); go_simp; try with_reducible rfl)
  (try simp only [Act.put, List.setIfInBounds_toArray, List.set_cons_zero, List.set_cons_succ])
  refine wpAnyH_takeD 10 17 (v := ?_) (by decide +kernel) (by decide +kernel) (by decide +kernel) (by decide +kernel) (by rfl) (fun _ _ _ h => h) ?_ hHeld ?_
  rotate_left 1
  (intro o ho W hSw; simp only [List.getElem?_toArray, List.getElem?_cons_succ, List.getElem?_cons_zero, Option.some.injEq] at ho; subst ho; (try dsimp only at hSw); go_simp; try with_reducible rfl)
  (try simp only [Act.put, List.setIfInBounds_toArray, List.set_cons_zero, List.set_cons_succ])
  refine wpAnyH_takeD 11 18 (v := ?_) (by decide +kernel) (by decide +kernel) (by decide +kernel) (by decide +kernel) (by rfl) (fun _ _ _ h => h) ?_ hHeld ?_
  rotate_left 1
  (intro o ho W hSw; simp only [List.getElem?_toArray, List.getElem?_cons_succ, List.getElem?_cons_zero, Option.some.injEq] at ho; subst ho; (try dsimp only at hSw); go_simp; try with_reducible rfl)
  (try simp only [Act.put, List.setIfInBounds_toArray, List.set_cons_zero, List.set_cons_succ])
  refine wpAnyH_takeD 12 19 (v := ?_) (by decide +kernel) (by decide +kernel) (by decide +kernel) (by decide +kernel) (by rfl) (fun _ _ _ h => h) ?_ hHeld ?_
  rotate_left 1
  (intro o ho W hSw; simp only [List.getElem?_toArray, List.getElem?_cons_succ, List.getElem?_cons_zero, Option.some.injEq] at ho; subst ho; (try dsimp only at hSw); go_simp; try with_reducible rfl)
  (try simp only [Act.put, List.setIfInBounds_toArray, List.set_cons_zero, List.set_cons_succ])
  refine wpAnyH_takeD 13 20 (v := ?_) (by decide +kernel) (by decide +kernel) (by decide +kernel) (by decide +kernel) (by rfl) (fun _ _ _ h => h) ?_ hHeld ?_
  rotate_left 1
  (intro o ho W hSw; simp only [List.getElem?_toArray, List.getElem?_cons_succ, List.getElem?_cons_zero, Option.some.injEq] at ho; subst ho; (try dsimp only at hSw); go_simp; try with_reducible rfl)
  (try simp only [Act.put, List.setIfInBounds_toArray, List.set_cons_zero, List.set_cons_succ])
  refine wpAnyH_takeD 16 23 (v := ?_) (by decide +kernel) (by decide +kernel) (by decide +kernel) (by decide +kernel) (by rfl) (fun _ _ _ h => h) ?_ hHeld ?_
  rotate_left 1
  (intro o ho W hSw; simp only [List.getElem?_toArray, List.getElem?_cons_succ, List.getElem?_cons_zero, Option.some.injEq] at ho; subst ho; (try dsimp only at hSw); go_simp; try with_reducible rfl)
  (try simp only [Act.put, List.setIfInBounds_toArray, List.set_cons_zero, List.set_cons_succ])
  refine wpAnyH_takeD 17 24 (v := ?_) (by decide +kernel) (by decide +kernel) (by decide +kernel) (by decide +kernel) (by rfl) (fun _ _ _ h => h) ?_ hHeld ?_
  rotate_left 1
  (intro o ho W hSw; simp only [List.getElem?_toArray, List.getElem?_cons_succ, List.getElem?_cons_zero, Option.some.injEq] at ho; subst ho; (try dsimp only at hSw); go_simp; try with_reducible rfl)
  (try simp only [Act.put, List.setIfInBounds_toArray, List.set_cons_zero, List.set_cons_succ])
  refine wpAnyH_takeD 18 25 (v := ?_) (by decide +kernel) (by decide +kernel) (by decide +kernel) (by decide +kernel) (by rfl) (fun _ _ _ h => h) ?_ hHeld ?_
  rotate_left 1
  (intro o ho W hSw; simp only [List.getElem?_toArray, List.getElem?_cons_succ, List.getElem?_cons_zero, Option.some.injEq] at ho; subst ho; (try dsimp only at hSw); go_simp; try with_reducible rfl)
  (try simp only [Act.put, List.setIfInBounds_toArray, List.set_cons_zero, List.set_cons_succ])
  refine wpAnyH_takeD 19 26 (v := ?_) (by decide +kernel) (by decide +kernel) (by decide +kernel) (by decide +kernel) (by rfl) (fun _ _ _ h => h) ?_ hHeld ?_
  rotate_left 1
  (intro o ho W hSw; simp only [List.getElem?_toArray, List.getElem?_cons_succ, List.getElem?_cons_zero, Option.some.injEq] at ho; subst ho; (try dsimp only at hSw); go_simp; try with_reducible rfl)
  (try simp only [Act.put, List.setIfInBounds_toArray, List.set_cons_zero, List.set_cons_succ])
  refine wpAnyH_takeD 20 27 (v := ?_) (by decide +kernel) (by decide +kernel) (by decide +kernel) (by decide +kernel) (by rfl) (fun _ _ _ h => h) ?_ hHeld ?_
  rotate_left 1
  (intro o ho W hSw; simp only [List.getElem?_toArray, List.getElem?_cons_succ, List.getElem?_cons_zero, Option.some.injEq] at ho; subst ho; (try dsimp only at hSw); go_simp; try with_reducible rfl)
  (try simp only [Act.put, List.setIfInBounds_toArray, List.set_cons_zero, List.set_cons_succ])
  refine wpAnyH_takeD 23 30 (v := ?_) (by decide +kernel) (by decide +kernel) (by decide +kernel) (by decide +kernel) (by rfl) (fun _ _ _ h => h) ?_ hHeld ?_
  rotate_left 1
  (intro o ho W hSw; simp only [List.getElem?_toArray, List.getElem?_cons_succ, List.getElem?_cons_zero, Option.some.injEq] at ho; subst ho; (try dsimp only at hSw); go_simp; try with_reducible rfl)
  (try simp only [Act.put, List.setIfInBounds_toArray, List.set_cons_zero, List.set_cons_succ])
  refine wpAnyH_takeD 24 31 (v := ?_) (by decide +kernel) (by decide +kernel) (by decide +kernel) (by decide +kernel) (by rfl) (fun _ _ _ h => h) ?_ hHeld ?_
  rotate_left 1
  (intro o ho W hSw; simp only [List.getElem?_toArray, List.getElem?_cons_succ, List.getElem?_cons_zero, Option.some.injEq] at ho; subst ho; (try dsimp only at hSw); go_simp; try with_reducible rfl)
  (try simp only [Act.put, List.setIfInBounds_toArray, List.set_cons_zero, List.set_cons_succ])
  refine wpAnyH_takeD 25 32 (v := ?_) (by decide +kernel) (by decide +kernel) (by decide +kernel) (by decide +kernel) (by rfl) (fun _ _ _ h => h) ?_ hHeld ?_
  rotate_left 1
  (intro o ho W hSw; simp only [List.getElem?_toArray, List.getElem?_cons_succ, List.getElem?_cons_zero, Option.some.injEq] at ho; subst ho; (try dsimp only at hSw); go_simp; try with_reducible rfl)
  (try simp only [Act.put, List.setIfInBounds_toArray, List.set_cons_zero, List.set_cons_succ])
  refine wpAnyH_takeD 26 33 (v := ?_) (by decide +kernel) (by decide +kernel) (by decide +kernel) (by decide +kernel) (by rfl) (fun _ _ _ h => h) ?_ hHeld ?_
  rotate_left 1
  (intro o ho W hSw; simp only [List.getElem?_toArray, List.getElem?_cons_succ, List.getElem?_cons_zero, Option.some.injEq] at ho; subst ho; (try dsimp only at hSw); go_simp; try with_reducible rfl)
  (try simp only [Act.put, List.setIfInBounds_toArray, List.set_cons_zero, List.set_cons_succ])
  refine wpAnyH_takeD 27 34 (v := ?_) (by decide +kernel) (by decide +kernel) (by decide +kernel) (by decide +kernel) (by rfl) (fun _ _ _ h => h) ?_ hHeld ?_
  rotate_left 1
  (intro o ho W hSw; simp only [List.getElem?_toArray, List.getElem?_cons_succ, List.getElem?_cons_zero, Option.some.injEq] at ho; subst ho; (try dsimp only at hSw); go_simp; try with_reducible rfl)
  (try simp only [Act.put, List.setIfInBounds_toArray, List.set_cons_zero, List.set_cons_succ])
  refine wpAnyH_takeD 30 37 (v := ?_) (by decide +kernel) (by decide +kernel) (by decide +kernel) (by decide +kernel) (by rfl) (fun _ _ _ h => h) ?_ hHeld ?_
  rotate_left 1
  (intro o ho W hSw; simp only [List.getElem?_toArray, List.getElem?_cons_succ, List.getElem?_cons_zero, Option.some.injEq] at ho; subst ho; (try dsimp only at hSw); go_simp; try with_reducible rfl)
  (try simp only [Act.put, List.setIfInBounds_toArray, List.set_cons_zero, List.set_cons_succ])
  refine wpAnyH_takeD 31 38 (v := ?_) (by decide +kernel) (by decide +kernel) (by decide +kernel) (by decide +kernel) (by rfl) (fun _ _ _ h => h) ?_ hHeld ?_
  rotate_left 1
  (intro o ho W hSw; simp only [List.getElem?_toArray, List.getElem?_cons_succ, List.getElem?_cons_zero, Option.some.injEq] at ho; subst ho; (try dsimp only at hSw); go_simp; try with_reducible rfl)
  (try simp only [Act.put, List.setIfInBounds_toArray, List.set_cons_zero, List.set_cons_succ])
  refine wpAnyH_takeD 32 39 (v := ?_) (by decide +kernel) (by decide +kernel) (by decide +kernel) (by decide +kernel) (by rfl) (fun _ _ _ h => h) ?_ hHeld ?_
  rotate_left 1
  (intro o ho W hSw; simp only [List.getElem?_toArray, List.getElem?_cons_succ, List.getElem?_cons_zero, Option.some.injEq] at ho; subst ho; (try dsimp only at hSw); go_simp; try with_reducible rfl)
  (try simp only [Act.put, List.setIfInBounds_toArray, List.set_cons_zero, List.set_cons_succ])
  refine wpAnyH_takeD 33 40 (v := ?_) (by decide +kernel) (by decide +kernel) (by decide +kernel) (by decide +kernel) (by rfl) (fun _ _ _ h => h) ?_ hHeld ?_
  rotate_left 1
  (intro o ho W hSw; simp only [List.getElem?_toArray, List.getElem?_cons_succ, List.getElem?_cons_zero, Option.some.injEq] at ho; subst ho; (try dsimp only at hSw); go_simp; try with_reducible rfl)
  (try simp only [Act.put, List.setIfInBounds_toArray, List.set_cons_zero, List.set_cons_succ])
  refine wpAnyH_takeD 34 41 (v := ?_) (by decide +kernel) (by decide +kernel) (by decide +kernel) (by decide +kernel) (by rfl) (fun _ _ _ h => h) ?_ hHeld ?_
  rotate_left 1
  (intro o ho W hSw; simp only [List.getElem?_toArray, List.getElem?_cons_succ, List.getElem?_cons_zero, Option.some.injEq] at ho; subst ho; (try dsimp only at hSw); go_simp; try with_reducible rfl)
  (try simp only [Act.put, List.setIfInBounds_toArray, List.set_cons_zero, List.set_cons_succ])
  refine wpAnyH_takeD 35 42 (v := ?_) (by decide +kernel) (by decide +kernel) (by decide +kernel) (by decide +kernel) (by rfl) (fun _ _ _ h => h) ?_ hHeld ?_
  rotate_left 1
  (intro o ho W hSw; simp only [List.getElem?_toArray, List.getElem?_cons_succ, List.getElem?_cons_zero, Option.some.injEq] at ho; subst ho; (try dsimp only at hSw); go_simp; try with_reducible rfl)
  (try simp only [Act.put, List.setIfInBounds_toArray, List.set_cons_zero, List.set_cons_succ])
  refine wpAnyH_takeD 36 43 (v := ?_) (by decide +kernel) (by decide +kernel) (by decide +kernel) (by decide +kernel) (by rfl) (fun _ _ _ h => h) ?_ hHeld ?_
  rotate_left 1
  (intro o ho W hSw; simp only [List.getElem?_toArray, List.getElem?_cons_succ, List.getElem?_cons_zero, Option.some.injEq] at ho; subst ho; (try dsimp only at hSw); go_simp; try with_reducible rfl)
  (try simp only [Act.put, List.setIfInBounds_toArray, List.set_cons_zero, List.set_cons_succ])
  refine wpAnyH_takeD 37 44 (v := ?_) (by decide +kernel) (by decide +kernel) (by decide +kernel) (by decide +kernel) (by rfl) (fun _ _ _ h => h) ?_ hHeld ?_
  rotate_left 1
  (intro o ho W hSw; simp only [List.getElem?_toArray, List.getElem?_cons_succ, List.getElem?_cons_zero, Option.some.injEq] at ho; subst ho; (try dsimp only at hSw); go_simp; try with_reducible rfl)
  (try simp only [Act.put, List.setIfInBounds_toArray, List.set_cons_zero, List.set_cons_succ])
  refine wpAnyH_takeD 39 46 (v := ?_) (by decide +kernel) (by decide +kernel) (by decide +kernel) (by decide +kernel) (by rfl) (fun _ _ _ h => h) ?_ hHeld ?_
  rotate_left 1
  (intro o ho W hSw; simp only [List.getElem?_toArray, List.getElem?_cons_succ, List.getElem?_cons_zero, Option.some.injEq] at ho; subst ho; (try dsimp only at hSw); go_simp; try with_reducible rfl)
  (try simp only [Act.put, List.setIfInBounds_toArray, List.set_cons_zero, List.set_cons_succ])
  refine wpAnyH_takeD 40 47 (v := ?_) (by decide +kernel) (by decide +kernel) (by decide +kernel) (by decide +kernel) (by rfl) (fun _ _ _ h => h) ?_ hHeld ?_
  rotate_left 1
  (intro o ho W hSw; simp only [List.getElem?_toArray, List.getElem?_cons_succ, List.getElem?_cons_zero, Option.some.injEq] at ho; subst ho; (try dsimp only at hSw); go_simp; try with_reducible rfl)
  (try simp only [Act.put, List.setIfInBounds_toArray, List.set_cons_zero, List.set_cons_succ])
  refine wpAnyH_takeD 41 48 (v := ?_) (by decide +kernel) (by decide +kernel) (by decide +kernel) (by decide +kernel) (by rfl) (fun _ _ _ h => h) ?_ hHeld ?_
  rotate_left 1
  (intro o ho W hSw; simp only [List.getElem?_toArray, List.getElem?_cons_succ, List.getElem?_cons_zero, Option.some.injEq] at ho; subst ho; (try dsimp only at hSw); go_simp; try with_reducible rfl)
  (try simp only [Act.put, List.setIfInBounds_toArray, List.set_cons_zero, List.set_cons_succ])
  refine wpAnyH_takeD 42 49 (v := ?_) (by decide +kernel) (by decide +kernel) (by decide +kernel) (by decide +kernel) (by rfl) (fun _ _ _ h => h) ?_ hHeld ?_
  rotate_left 1
  (intro o ho W hSw; simp only [List.getElem?_toArray, List.getElem?_cons_succ, List.getElem?_cons_zero, Option.some.injEq] at ho; subst ho; (try dsimp only at hSw); go_simp; try with_reducible rfl)
  (try simp only [Act.put, List.setIfInBounds_toArray, List.set_cons_zero, List.set_cons_succ])
  refine wpAnyH_takeD 43 50 (v := ?_) (by decide +kernel) (by decide +kernel) (by decide +kernel) (by decide +kernel) (by rfl) (fun _ _ _ h => h) ?_ hHeld ?_
  rotate_left 1
  (intro o ho W hSw; simp only [List.getElem?_toArray, List.getElem?_cons_succ, List.getElem?_cons_zero, Option.some.injEq] at ho; subst ho; (try dsimp only at hSw); go_simp; try with_reducible rfl)
  (try simp only [Act.put, List.setIfInBounds_toArray, List.set_cons_zero, List.set_cons_succ])
  refine wpAnyH_takeD 46 53 (v := ?_) (by decide +kernel) (by decide +kernel) (by decide +kernel) (by decide +kernel) (by rfl) (fun _ _ _ h => h) ?_ hHeld ?_
  rotate_left 1
  (intro o ho W hSw; simp only [List.getElem?_toArray, List.getElem?_cons_succ, List.getElem?_cons_zero, Option.some.injEq] at ho; subst ho; (try dsimp only at hSw); go_simp; try with_reducible rfl)
  (try simp only [Act.put, List.setIfInBounds_toArray, List.set_cons_zero, List.set_cons_succ])
  refine wpAnyH_takeD 47 54 (v := ?_) (by decide +kernel) (by decide +kernel) (by decide +kernel) (by decide +kernel) (by rfl) (fun _ _ _ h => h) ?_ hHeld ?_
  rotate_left 1
  (intro o ho W hSw; simp only [List.getElem?_toArray, List.getElem?_cons_succ, List.getElem?_cons_zero, Option.some.injEq] at ho; subst ho; (try dsimp only at hSw); go_simp; try with_reducible rfl)
  (try simp only [Act.put, List.setIfInBounds_toArray, List.set_cons_zero, List.set_cons_succ])
  refine wpAnyH_takeD 48 55 (v := ?_) (by decide +kernel) (by decide +kernel) (by decide +kernel) (by decide +kernel) (by rfl) (fun _ _ _ h => h) ?_ hHeld ?_
  rotate_left 1
  (intro o ho W hSw; simp only [List.getElem?_toArray, List.getElem?_cons_succ, List.getElem?_cons_zero, Option.some.injEq] at ho; subst ho; (try dsimp only at hSw); go_simp; try with_reducible rfl)
  (try simp only [Act.put, List.setIfInBounds_toArray, List.set_cons_zero, List.set_cons_succ])
  refine wpAnyH_takeD 49 56 (v := ?_) (by decide +kernel) (by decide +kernel) (by decide +kernel) (by decide +kernel) (by rfl) (fun _ _ _ h => h) ?_ hHeld ?_
  rotate_left 1
  (intro o ho W hSw; simp only [List.getElem?_toArray, List.getElem?_cons_succ, List.getElem?_cons_zero, Option.some.injEq] at ho; subst ho; (try dsimp only at hSw); go_simp; try with_reducible rfl)
  (try simp only [Act.put, List.setIfInBounds_toArray, List.set_cons_zero, List.set_cons_succ])
  refine wpAnyH_takeD 50 57 (v := ?_) (by decide +kernel) (by decide +kernel) (by decide +kernel) (by decide +kernel) (by rfl) (fun _ _ _ h => h) ?_ hHeld ?_
  rotate_left 1
  (intro o ho W hSw; simp only [List.getElem?_toArray, List.getElem?_cons_succ, List.getElem?_cons_zero, Option.some.injEq] at ho; subst ho; (try dsimp only at hSw); go_simp; try with_reducible rfl)
  (try simp only [Act.put, List.setIfInBounds_toArray, List.set_cons_zero, List.set_cons_succ])
  refine wpAnyH_takeD 53 60 (v := ?_) (by decide +kernel) (by decide +kernel) (by decide +kernel) (by decide +kernel) (by rfl) (fun _ _ _ h => h) ?_ hHeld ?_
  rotate_left 1
  (intro o ho W hSw; simp only [List.getElem?_toArray, List.getElem?_cons_succ, List.getElem?_cons_zero, Option.some.injEq] at ho; subst ho; (try dsimp only at hSw); go_simp; try with_reducible rfl)
  (try simp only [Act.put, List.setIfInBounds_toArray, List.set_cons_zero, List.set_cons_succ])
  refine wpAnyH_takeD 54 61 (v := ?_) (by decide +kernel) (by decide +kernel) (by decide +kernel) (by decide +kernel) (by rfl) (fun _ _ _ h => h) ?_ hHeld ?_
  rotate_left 1
  (intro o ho W hSw; simp only [List.getElem?_toArray, List.getElem?_cons_succ, List.getElem?_cons_zero, Option.some.injEq] at ho; subst ho; (try dsimp only at hSw); go_simp; try with_reducible rfl)
  (try simp only [Act.put, List.setIfInBounds_toArray, List.set_cons_zero, List.set_cons_succ])
  refine wpAnyH_takeD 55 62 (v := ?_) (by decide +kernel) (by decide +kernel) (by decide +kernel) (by decide +kernel) (by rfl) (fun _ _ _ h => h) ?_ hHeld ?_
  rotate_left 1
  (intro o ho W hSw; simp only [List.getElem?_toArray, List.getElem?_cons_succ, List.getElem?_cons_zero, Option.some.injEq] at ho; subst ho; (try dsimp only at hSw); go_simp; try with_reducible rfl)
  (try simp only [Act.put, List.setIfInBounds_toArray, List.set_cons_zero, List.set_cons_succ])
  refine wpAnyH_takeD 56 63 (v := ?_) (by decide +kernel) (by decide +kernel) (by decide +kernel) (by decide +kernel) (by rfl) (fun _ _ _ h => h) ?_ hHeld ?_
  rotate_left 1
  (intro o ho W hSw; simp only [List.getElem?_toArray, List.getElem?_cons_succ, List.getElem?_cons_zero, Option.some.injEq] at ho; subst ho; (try dsimp only at hSw); go_simp; try with_reducible rfl)
  (try simp only [Act.put, List.setIfInBounds_toArray, List.set_cons_zero, List.set_cons_succ])
  refine wpAnyH_takeD 57 64 (v := ?_) (by decide +kernel) (by decide +kernel) (by decide +kernel) (by decide +kernel) (by rfl) (fun _ _ _ h => h) ?_ hHeld ?_
  rotate_left 1
  (intro o ho W hSw; simp only [List.getElem?_toArray, List.getElem?_cons_succ, List.getElem?_cons_zero, Option.some.injEq] at ho; subst ho; (try dsimp only at hSw); go_simp; try with_reducible rfl)
  (try simp only [Act.put, List.setIfInBounds_toArray, List.set_cons_zero, List.set_cons_succ])
  refine wpAnyH_takeD 60 67 (v := ?_) (by decide +kernel) (by decide +kernel) (by decide +kernel) (by decide +kernel) (by rfl) (fun _ _ _ h => h) ?_ hHeld ?_
  rotate_left 1
  (intro o ho W hSw; simp only [List.getElem?_toArray, List.getElem?_cons_succ, List.getElem?_cons_zero, Option.some.injEq] at ho; subst ho; (try dsimp only at hSw); go_simp; try with_reducible rfl)
  (try simp only [Act.put, List.setIfInBounds_toArray, List.set_cons_zero, List.set_cons_succ])
  refine wpAnyH_takeD 61 68 (v := ?_) (by decide +kernel) (by decide +kernel) (by decide +kernel) (by decide +kernel) (by rfl) (fun _ _ _ h => h) ?_ hHeld ?_
  rotate_left 1
  (intro o ho W hSw; simp only [List.getElem?_toArray, List.getElem?_cons_succ, List.getElem?_cons_zero, Option.some.injEq] at ho; subst ho; (try dsimp only at hSw); go_simp; try with_reducible rfl)
  (try simp only [Act.put, List.setIfInBounds_toArray, List.set_cons_zero, List.set_cons_succ])
  refine wpAnyH_takeD 62 69 (v := ?_) (by decide +kernel) (by decide +kernel) (by decide +kernel) (by decide +kernel) (by rfl) (fun _ _ _ h => h) ?_ hHeld ?_
  rotate_left 1
  (intro o ho W hSw; simp only [List.getElem?_toArray, List.getElem?_cons_succ, List.getElem?_cons_zero, Option.some.injEq] at ho; subst ho; (try dsimp only at hSw); go_simp; try with_reducible rfl)
  (try simp only [Act.put, List.setIfInBounds_toArray, List.set_cons_zero, List.set_cons_succ])
  refine wpAnyH_takeD 63 70 (v := ?_) (by decide +kernel) (by decide +kernel) (by decide +kernel) (by decide +kernel) (by rfl) (fun _ _ _ h => h) ?_ hHeld ?_
  rotate_left 1
  (intro o ho W hSw; simp only [List.getElem?_toArray, List.getElem?_cons_succ, List.getElem?_cons_zero, Option.some.injEq] at ho; subst ho; (try dsimp only at hSw); go_simp; try with_reducible rfl)
  (try simp only [Act.put, List.setIfInBounds_toArray, List.set_cons_zero, List.set_cons_succ])
  refine wpAnyH_takeD 64 71 (v := ?_) (by decide +kernel) (by decide +kernel) (by decide +kernel) (by decide +kernel) (by rfl) (fun _ _ _ h => h) ?_ hHeld ?_
  rotate_left 1
  (intro o ho W hSw; simp only [List.getElem?_toArray, List.getElem?_cons_succ, List.getElem?_cons_zero, Option.some.injEq] at ho; subst ho; (try dsimp only at hSw); go_simp; try with_reducible rfl)
  (try simp only [Act.put, List.setIfInBounds_toArray, List.set_cons_zero, List.set_cons_succ])
  refine wpAnyH_takeD 65 72 (v := ?_) (by decide +kernel) (by decide +kernel) (by decide +kernel) (by decide +kernel) (by rfl) (fun _ _ _ h => h) ?_ hHeld ?_
  rotate_left 1
  (intro o ho W hSw; simp only [List.getElem?_toArray, List.getElem?_cons_succ, List.getElem?_cons_zero, Option.some.injEq] at ho; subst ho; (try dsimp only at hSw); go_simp; try with_reducible rfl)
  (try simp only [Act.put, List.setIfInBounds_toArray, List.set_cons_zero, List.set_cons_succ])
  refine wpAnyH_takeD 66 73 (v := ?_) (by decide +kernel) (by decide +kernel) (by decide +kernel) (by decide +kernel) (by rfl) (fun _ _ _ h => h) ?_ hHeld ?_
  rotate_left 1
  (intro o ho W hSw; simp only [List.getElem?_toArray, List.getElem?_cons_succ, List.getElem?_cons_zero, Option.some.injEq] at ho; subst ho; (try dsimp only at hSw); go_simp; try with_reducible rfl)
  (try simp only [Act.put, List.setIfInBounds_toArray, List.set_cons_zero, List.set_cons_succ])
  refine wpAnyH_takeD 67 74 (v := ?_) (by decide +kernel) (by decide +kernel) (by decide +kernel) (by decide +kernel) (by rfl) (fun _ _ _ h => h) ?_ hHeld ?_
  rotate_left 1
  (intro o ho W hSw; simp only [List.getElem?_toArray, List.getElem?_cons_succ, List.getElem?_cons_zero, Option.some.injEq] at ho; subst ho; (try dsimp only at hSw); go_simp; try with_reducible rfl)
  (try simp only [Act.put, List.setIfInBounds_toArray, List.set_cons_zero, List.set_cons_succ])
  refine wpAnyH_takeD 69 76 (v := ?_) (by decide +kernel) (by decide +kernel) (by decide +kernel) (by decide +kernel) (by rfl) (fun _ _ _ h => h) ?_ hHeld ?_
  rotate_left 1
  (intro o ho W hSw; simp only [List.getElem?_toArray, List.getElem?_cons_succ, List.getElem?_cons_zero, Option.some.injEq] at ho; subst ho; (try dsimp only at hSw); go_simp; try with_reducible rfl)
  (try simp only [Act.put, List.setIfInBounds_toArray, List.set_cons_zero, List.set_cons_succ])
  refine wpAnyH_takeD 70 77 (v := ?_) (by decide +kernel) (by decide +kernel) (by decide +kernel) (by decide +kernel) (by rfl) (fun _ _ _ h => h) ?_ hHeld ?_
  rotate_left 1
  (intro o ho W hSw; simp only [List.getElem?_toArray, List.getElem?_cons_succ, List.getElem?_cons_zero, Option.some.injEq] at ho; subst ho; (try dsimp only at hSw); go_simp; try with_reducible rfl)
  (try simp only [Act.put, List.setIfInBounds_toArray, List.set_cons_zero, List.set_cons_succ])
  refine wpAnyH_takeD 71 78 (v := ?_) (by decide +kernel) (by decide +kernel) (by decide +kernel) (by decide +kernel) (by rfl) (fun _ _ _ h => h) ?_ hHeld ?_
  rotate_left 1
  (intro o ho W hSw; simp only [List.getElem?_toArray, List.getElem?_cons_succ, List.getElem?_cons_zero, Option.some.injEq] at ho; subst ho; (try dsimp only at hSw); go_simp; try with_reducible rfl)
  (try simp only [Act.put, List.setIfInBounds_toArray, List.set_cons_zero, List.set_cons_succ])
  refine wpAnyH_takeD 72 79 (v := ?_) (by decide +kernel) (by decide +kernel) (by decide +kernel) (by decide +kernel) (by rfl) (fun _ _ _ h => h) ?_ hHeld ?_
  rotate_left 1
  (intro o ho W hSw; simp only [List.getElem?_toArray, List.getElem?_cons_succ, List.getElem?_cons_zero, Option.some.injEq] at ho; subst ho; (try dsimp only at hSw); go_simp; try with_reducible rfl)
  (try simp only [Act.put, List.setIfInBounds_toArray, List.set_cons_zero, List.set_cons_succ])
  refine wpAnyH_takeD 73 80 (v := ?_) (by decide +kernel) (by decide +kernel) (by decide +kernel) (by decide +kernel) (by rfl) (fun _ _ _ h => h) ?_ hHeld ?_
  rotate_left 1
  (intro o ho W hSw; simp only [List.getElem?_toArray, List.getElem?_cons_succ, List.getElem?_cons_zero, Option.some.injEq] at ho; subst ho; (try dsimp only at hSw); go_simp; try with_reducible rfl)
  (try simp only [Act.put, List.setIfInBounds_toArray, List.set_cons_zero, List.set_cons_succ])
  refine wpAnyH_takeD 76 83 (v := ?_) (by decide +kernel) (by decide +kernel) (by decide +kernel) (by decide +kernel) (by rfl) (fun _ _ _ h => h) ?_ hHeld ?_
  rotate_left 1
  (intro o ho W hSw; simp only [List.getElem?_toArray, List.getElem?_cons_succ, List.getElem?_cons_zero, Option.some.injEq] at ho; subst ho; (try dsimp only at hSw); go_simp; try with_reducible rfl)
  (try simp only [Act.put, List.setIfInBounds_toArray, List.set_cons_zero, List.set_cons_succ])
  refine wpAnyH_takeD 77 84 (v := ?_) (by decide +kernel) (by decide +kernel) (by decide +kernel) (by decide +kernel) (by rfl) (fun _ _ _ h => h) ?_ hHeld ?_
  rotate_left 1
  (intro o ho W hSw; simp only [List.getElem?_toArray, List.getElem?_cons_succ, List.getElem?_cons_zero, Option.some.injEq] at ho; subst ho; (try dsimp only at hSw); go_simp; try with_reducible rfl)
  (try simp only [Act.put, List.setIfInBounds_toArray, List.set_cons_zero, List.set_cons_succ])
  refine wpAnyH_takeD 78 85 (v := ?_) (by decide +kernel) (by decide +kernel) (by decide +kernel) (by decide +kernel) (by rfl) (fun _ _ _ h => h) ?_ hHeld ?_
  rotate_left 1
  (intro o ho W hSw; simp only [List.getElem?_toArray, List.getElem?_cons_succ, List.getElem?_cons_zero, Option.some.injEq] at ho; subst ho; (try dsimp only at hSw); go_simp; try with_reducible rfl)
  (try simp only [Act.put, List.setIfInBounds_toArray, List.set_cons_zero, List.set_cons_succ])
  refine wpAnyH_takeD 79 86 (v := ?_) (by decide +kernel) (by decide +kernel) (by decide +kernel) (by decide +kernel) (by rfl) (fun _ _ _ h => h) ?_ hHeld ?_
  rotate_left 1
  (intro o ho W hSw; simp only [List.getElem?_toArray, List.getElem?_cons_succ, List.getElem?_cons_zero, Option.some.injEq] at ho; subst ho; (try dsimp only at hSw); go_simp; try with_reducible rfl)
  (try simp only [Act.put, List.setIfInBounds_toArray, List.set_cons_zero, List.set_cons_succ])
  refine wpAnyH_takeD 80 87 (v := ?_) (by decide +kernel) (by decide +kernel) (by decide +kernel) (by decide +kernel) (by rfl) (fun _ _ _ h => h) ?_ hHeld ?_
  rotate_left 1
  (intro o ho W hSw; simp only [List.getElem?_toArray, List.getElem?_cons_succ, List.getElem?_cons_zero, Option.some.injEq] at ho; subst ho; (try dsimp only at hSw); go_simp; try with_reducible rfl)
  (try simp only [Act.put, List.setIfInBounds_toArray, List.set_cons_zero, List.set_cons_succ])
  refine wpAnyH_takeD 83 90 (v := ?_) (by decide +kernel) (by decide +kernel) (by decide +kernel) (by decide +kernel) (by rfl) (fun _ _ _ h => h) ?_ hHeld ?_
  rotate_left 1
  (intro o ho W hSw; simp only [List.getElem?_toArray, List.getElem?_cons_succ, List.getElem?_cons_zero, Option.some.injEq] at ho; subst ho; (try dsimp only at hSw); go_simp; try with_reducible rfl)
  (try simp only [Act.put, List.setIfInBounds_toArray, List.set_cons_zero, List.set_cons_succ])
  refine wpAnyH_takeD 84 91 (v := ?_) (by decide +kernel) (by decide +kernel) (by decide +kernel) (by decide +kernel) (by rfl) (fun _ _ _ h => h) ?_ hHeld ?_
  rotate_left 1
  (intro o ho W hSw; simp only [List.getElem?_toArray, List.getElem?_cons_succ, List.getElem?_cons_zero, Option.some.injEq] at ho; subst ho; (try dsimp only at hSw); go_simp; try with_reducible rfl)
  (try simp only [Act.put, List.setIfInBounds_toArray, List.set_cons_zero, List.set_cons_succ])
  refine wpAnyH_takeD 85 92 (v := ?_) (by decide +kernel) (by decide +kernel) (by decide +kernel) (by decide +kernel) (by rfl) (fun _ _ _ h => h) ?_ hHeld ?_
  rotate_left 1
  (intro o ho W hSw; simp only [List.getElem?_toArray, List.getElem?_cons_succ, List.getElem?_cons_zero, Option.some.injEq] at ho; subst ho; (try dsimp only at hSw); go_simp; try with_reducible rfl)
  (try simp only [Act.put, List.setIfInBounds_toArray, List.set_cons_zero, List.set_cons_succ])
  refine wpAnyH_takeD 86 93 (v := ?_) (by decide +kernel) (by decide +kernel) (by decide +kernel) (by decide +kernel) (by rfl) (fun _ _ _ h => h) ?_ hHeld ?_
  rotate_left 1
  (intro o ho W hSw; simp only [List.getElem?_toArray, List.getElem?_cons_succ, List.getElem?_cons_zero, Option.some.injEq] at ho; subst ho; (try dsimp only at hSw); go_simp; try with_reducible rfl)
  (try simp only [Act.put, List.setIfInBounds_toArray, List.set_cons_zero, List.set_cons_succ])
  refine wpAnyH_takeD 87 94 (v := ?_) (by decide +kernel) (by decide +kernel) (by decide +kernel) (by decide +kernel) (by rfl) (fun _ _ _ h => h) ?_ hHeld ?_
  rotate_left 1
  (intro o ho W hSw; simp only [List.getElem?_toArray, List.getElem?_cons_succ, List.getElem?_cons_zero, Option.some.injEq] at ho; subst ho; (try dsimp only at hSw); go_simp; try with_reducible rfl)
  (try simp only [Act.put, List.setIfInBounds_toArray, List.set_cons_zero, List.set_cons_succ])
  refine wpAnyH_takeD 90 97 (v := ?_) (by decide +kernel) (by decide +kernel) (by decide +kernel) (by decide +kernel) (by rfl) (fun _ _ _ h => h) ?_ hHeld ?_
  rotate_left 1
  (intro o ho W hSw; simp only [List.getElem?_toArray, List.getElem?_cons_succ, List.getElem?_cons_zero, Option.some.injEq] at ho; subst ho; (try dsimp only at hSw); go_simp; try with_reducible rfl)
  (try simp only [Act.put, List.setIfInBounds_toArray, List.set_cons_zero, List.set_cons_succ])
  refine wpAnyH_takeD 91 98 (v := ?_) (by decide +kernel) (by decide +kernel) (by decide +kernel) (by decide +kernel) (by rfl) (fun _ _ _ h => h) ?_ hHeld ?_
  rotate_left 1
  (intro o ho W hSw; simp only [List.getElem?_toArray, List.getElem?_cons_succ, List.getElem?_cons_zero, Option.some.injEq] at ho; subst ho; (try dsimp only at hSw); go_simp; try with_reducible rfl)
  (try simp only [Act.put, List.setIfInBounds_toArray, List.set_cons_zero, List.set_cons_succ])
  refine wpAnyH_takeD 92 99 (v := ?_) (by decide +kernel) (by decide +kernel) (by decide +kernel) (by decide +kernel) (by rfl) (fun _ _ _ h => h) ?_ hHeld ?_
  rotate_left 1
  (intro o ho W hSw; simp only [List.getElem?_toArray, List.getElem?_cons_succ, List.getElem?_cons_zero, Option.some.injEq] at ho; subst ho; (try dsimp only at hSw); go_simp; try with_reducible rfl)
  (try simp only [Act.put, List.setIfInBounds_toArray, List.set_cons_zero, List.set_cons_succ])
  refine wpAnyH_takeD 93 100 (v := ?_) (by decide +kernel) (by decide +kernel) (by decide +kernel) (by decide +kernel) (by rfl) (fun _ _ _ h => h) ?_ hHeld ?_
  rotate_left 1
  (intro o ho W hSw; simp only [List.getElem?_toArray, List.getElem?_cons_succ, List.getElem?_cons_zero, Option.some.injEq] at ho; subst ho; (try dsimp only at hSw); go_simp; try with_reducible rfl)
  (try simp only [Act.put, List.setIfInBounds_toArray, List.set_cons_zero, List.set_cons_succ])
  refine wpAnyH_takeD 94 101 (v := ?_) (by decide +kernel) (by decide +kernel) (by decide +kernel) (by decide +kernel) (by rfl) (fun _ _ _ h => h) ?_ hHeld ?_
  rotate_left 1
  (intro o ho W hSw; simp only [List.getElem?_toArray, List.getElem?_cons_succ, List.getElem?_cons_zero, Option.some.injEq] at ho; subst ho; (try dsimp only at hSw); go_simp; try with_reducible rfl)
  (try simp only [Act.put, List.setIfInBounds_toArray, List.set_cons_zero, List.set_cons_succ])
  refine wpAnyH_takeD 95 102 (v := ?_) (by decide +kernel) (by decide +kernel) (by decide +kernel) (by decide +kernel) (by rfl) (fun _ _ _ h => h) ?_ hHeld ?_
  rotate_left 1
  (intro o ho W hSw; simp only [List.getElem?_toArray, List.getElem?_cons_succ, List.getElem?_cons_zero, Option.some.injEq] at ho; subst ho; (try dsimp only at hSw); go_simp; try with_reducible rfl)
  (try simp only [Act.put, List.setIfInBounds_toArray, List.set_cons_zero, List.set_cons_succ])
  refine wpAnyH_takeD 96 103 (v := ?_) (by decide +kernel) (by decide +kernel) (by decide +kernel) (by decide +kernel) (by rfl) (fun _ _ _ h => h) ?_ hHeld ?_
  rotate_left 1
  (intro o ho W hSw; simp only [List.getElem?_toArray, List.getElem?_cons_succ, List.getElem?_cons_zero, Option.some.injEq] at ho; subst ho; (try dsimp only at hSw); go_simp; try with_reducible rfl)
  (try simp only [Act.put, List.setIfInBounds_toArray, List.set_cons_zero, List.set_cons_succ])
  refine wpAnyH_takeD 97 104 (v := ?_) (by decide +kernel) (by decide +kernel) (by decide +kernel) (by decide +kernel) (by rfl) (fun _ _ _ h => h) ?_ hHeld ?_
  rotate_left 1
  (intro o ho W hSw; simp only [List.getElem?_toArray, List.getElem?_cons_succ, List.getElem?_cons_zero, Option.some.injEq] at ho; subst ho; (try dsimp only at hSw); go_simp; try with_reducible rfl)
  (try simp only [Act.put, List.setIfInBounds_toArray, List.set_cons_zero, List.set_cons_succ])
  refine wpAnyH_takeD 99 106 (v := ?_) (by decide +kernel) (by decide +kernel) (by decide +kernel) (by decide +kernel) (by rfl) (fun _ _ _ h => h) ?_ hHeld ?_
  rotate_left 1
  (intro o ho W hSw; simp only [List.getElem?_toArray, List.getElem?_cons_succ, List.getElem?_cons_zero, Option.some.injEq] at ho; subst ho; (try dsimp only at hSw); go_simp; try with_reducible rfl)
  (try simp only [Act.put, List.setIfInBounds_toArray, List.set_cons_zero, List.set_cons_succ])
  refine wpAnyH_takeD 100 107 (v := ?_) (by decide +kernel) (by decide +kernel) (by decide +kernel) (by decide +kernel) (by rfl) (fun _ _ _ h => h) ?_ hHeld ?_
  rotate_left 1
  (intro o ho W hSw; simp only [List.getElem?_toArray, List.getElem?_cons_succ, List.getElem?_cons_zero, Option.some.injEq] at ho; subst ho; (try dsimp only at hSw); go_simp; try with_reducible rfl)
  (try simp only [Act.put, List.setIfInBounds_toArray, List.set_cons_zero, List.set_cons_succ])
  refine wpAnyH_takeD 101 108 (v := ?_) (by decide +kernel) (by decide +kernel) (by decide +kernel) (by decide +kernel) (by rfl) (fun _ _ _ h => h) ?_ hHeld ?_
  rotate_left 1
  (intro o ho W hSw; simp only [List.getElem?_toArray, List.getElem?_cons_succ, List.getElem?_cons_zero, Option.some.injEq] at ho; subst ho; (try dsimp only at hSw); go_simp; try with_reducible rfl)
  (try simp only [Act.put, List.setIfInBounds_toArray, List.set_cons_zero, List.set_cons_succ])
  refine wpAnyH_takeD 102 109 (v := ?_) (by decide +kernel) (by decide +kernel) (by decide +kernel) (by decide +kernel) (by rfl) (fun _ _ _ h => h) ?_ hHeld ?_
  rotate_left 1
  (intro o ho W hSw; simp only [List.getElem?_toArray, List.getElem?_cons_succ, List.getElem?_cons_zero, Option.some.injEq] at ho; subst ho; (try dsimp only at hSw); go_simp; try with_reducible rfl)
  (try simp only [Act.put, List.setIfInBounds_toArray, List.set_cons_zero, List.set_cons_succ])
  refine wpAnyH_takeD 103 110 (v := ?_) (by decide +kernel) (by decide +kernel) (by decide +kernel) (by decide +kernel) (by rfl) (fun _ _ _ h => h) ?_ hHeld ?_
  rotate_left 1
  (intro o ho W hSw; simp only [List.getElem?_toArray, List.getElem?_cons_succ, List.getElem?_cons_zero, Option.some.injEq] at ho; subst ho; (try dsimp only at hSw); go_simp; try with_reducible rfl)
  (try simp only [Act.put, List.setIfInBounds_toArray, List.set_cons_zero, List.set_cons_succ])
  refine wpAnyH_takeD 106 113 (v := ?_) (by decide +kernel) (by decide +kernel) (by decide +kernel) (by decide +kernel) (by rfl) (fun _ _ _ h => h) ?_ hHeld ?_
  rotate_left 1
  (intro o ho W hSw; simp only [List.getElem?_toArray, List.getElem?_cons_succ, List.getElem?_cons_zero, Option.some.injEq] at ho; subst ho; (try dsimp only at hSw); go_simp; try with_reducible rfl)
  (try simp only [Act.put, List.setIfInBounds_toArray, List.set_cons_zero, List.set_cons_succ])
  refine wpAnyH_takeD 107 114 (v := ?_) (by decide +kernel) (by decide +kernel) (by decide +kernel) (by decide +kernel) (by rfl) (fun _ _ _ h => h) ?_ hHeld ?_
  rotate_left 1
  (intro o ho W hSw; simp only [List.getElem?_toArray, List.getElem?_cons_succ, List.getElem?_cons_zero, Option.some.injEq] at ho; subst ho; (try dsimp only at hSw); go_simp; try with_reducible rfl)
  (try simp only [Act.put, List.setIfInBounds_toArray, List.set_cons_zero, List.set_cons_succ])
  refine wpAnyH_takeD 108 115 (v := ?_) (by decide +kernel) (by decide +kernel) (by decide +kernel) (by decide +kernel) (by rfl) (fun _ _ _ h => h) ?_ hHeld ?_
  rotate_left 1
  (intro o ho W hSw; simp only [List.getElem?_toArray, List.getElem?_cons_succ, List.getElem?_cons_zero, Option.some.injEq] at ho; subst ho; (try dsimp only at hSw); go_simp; try with_reducible rfl)
  (try simp only [Act.put, List.setIfInBounds_toArray, List.set_cons_zero, List.set_cons_succ])
  refine wpAnyH_takeD 109 116 (v := ?_) (by decide +kernel) (by decide +kernel) (by decide +kernel) (by decide +kernel) (by rfl) (fun _ _ _ h => h) ?_ hHeld ?_
  rotate_left 1
  (intro o ho W hSw; simp only [List.getElem?_toArray, List.getElem?_cons_succ, List.getElem?_cons_zero, Option.some.injEq] at ho; subst ho; (try dsimp only at hSw); go_simp; try with_reducible rfl)
  (try simp only [Act.put, List.setIfInBounds_toArray, List.set_cons_zero, List.set_cons_succ])
  refine wpAnyH_takeD 110 117 (v := ?_) (by decide +kernel) (by decide +kernel) (by decide +kernel) (by decide +kernel) (by rfl) (fun _ _ _ h => h) ?_ hHeld ?_
  rotate_left 1
  (intro o ho W hSw; simp only [List.getElem?_toArray, List.getElem?_cons_succ, List.getElem?_cons_zero, Option.some.injEq] at ho; subst ho; (try dsimp only at hSw); go_simp; try with_reducible rfl)
  (try simp only [Act.put, List.setIfInBounds_toArray, List.set_cons_zero, List.set_cons_succ])
  refine wpAnyH_takeD 113 120 (v := ?_) (by decide +kernel) (by decide +kernel) (by decide +kernel) (by decide +kernel) (by rfl) (fun _ _ _ h => h) ?_ hHeld ?_
  rotate_left 1
  (intro o ho W hSw; simp only [List.getElem?_toArray, List.getElem?_cons_succ, List.getElem?_cons_zero, Option.some.injEq] at ho; subst ho; (try dsimp only at hSw); go_simp; try with_reducible rfl)
  (try simp only [Act.put, List.setIfInBounds_toArray, List.set_cons_zero, List.set_cons_succ])
  refine wpAnyH_takeD 114 121 (v := ?_) (by decide +kernel) (by decide +kernel) (by decide +kernel) (by decide +kernel) (by rfl) (fun _ _ _ h => h) ?_ hHeld ?_
  rotate_left 1
  (intro o ho W hSw; simp only [List.getElem?_toArray, List.getElem?_cons_succ, List.getElem?_cons_zero, Option.some.injEq] at ho; subst ho; (try dsimp only at hSw); go_simp; try with_reducible rfl)
  (try simp only [Act.put, List.setIfInBounds_toArray, List.set_cons_zero, List.set_cons_succ])
  refine wpAnyH_takeD 115 122 (v := ?_) (by decide +kernel) (by decide +kernel) (by decide +kernel) (by decide +kernel) (by rfl) (fun _ _ _ h => h) ?_ hHeld ?_
  rotate_left 1
  (intro o ho W hSw; simp only [List.getElem?_toArray, List.getElem?_cons_succ, List.getElem?_cons_zero, Option.some.injEq] at ho; subst ho; (try dsimp only at hSw); go_simp; try with_reducible rfl)
  (try simp only [Act.put, List.setIfInBounds_toArray, List.set_cons_zero, List.set_cons_succ])
  refine wpAnyH_takeD 116 123 (v := ?_) (by decide +kernel) (by decide +kernel) (by decide +kernel) (by decide +kernel) (by rfl) (fun _ _ _ h => h) ?_ hHeld ?_
  rotate_left 1
  (intro o ho W hSw; simp only [List.getElem?_toArray, List.getElem?_cons_succ, List.getElem?_cons_zero, Option.some.injEq] at ho; subst ho; (try dsimp only at hSw); go_simp; try with_reducible rfl)
  (try simp only [Act.put, List.setIfInBounds_toArray, List.set_cons_zero, List.set_cons_succ])
  refine wpAnyH_takeD 117 124 (v := ?_) (by decide +kernel) (by decide +kernel) (by decide +kernel) (by decide +kernel) (by rfl) (fun _ _ _ h => h) ?_ hHeld ?_
  rotate_left 1
  (intro o ho W hSw; simp only [List.getElem?_toArray, List.getElem?_cons_succ, List.getElem?_cons_zero, Option.some.injEq] at ho; subst ho; (try dsimp only at hSw); go_simp; try with_reducible rfl)
  (try simp only [Act.put, List.setIfInBounds_toArray, List.set_cons_zero, List.set_cons_succ])
  refine wpAnyH_onlyD 8 (by decide +kernel) (fun o ho K hK => ?_) (by decide +kernel)
  simp only [List.getElem?_toArray, List.getElem?_cons_succ, List.getElem?_cons_zero, Option.some.injEq] at ho
  subst ho
  go_simp
  refine (rfMul_any pw qw b k _ _ HP.out.a.1 HP.out.a.2 HQ.out.a.1 HQ.out.a.2 G0.out.m).mono ?_
  rintro e w1 ⟨rfl, h⟩
  have G1 := Lib.hid (G0.out.fx h)
  have A1 := Lib.hid (A0.out.fx h (by have := G0.out.lt; omega))
  (try have B1 := Lib.hid (B0.out.fx h (by have := G0.out.lt; omega)))
  (try have R1 := Lib.hid (R0.out.fx h (by have := G0.out.lt; omega)))
  (try have P1 := Lib.hid (P0.out.fx h))
  (try have I1 := Lib.hid (I0.out.fx h hbi))
  go_wp2_with fail
  refine hK.out _ _ (⟨A1.out.h4, B1.out.h4⟩) ?_
  clear hK K hHeld
  intro hHeld
  clear h G0 A0
  (try clear B0)
  (try clear R0)
  (try clear P0)
  (try clear I0)
  refine wpAnyH_onlyD 14 (by decide +kernel) (fun o ho K hK => ?_) (by decide +kernel)
  simp only [List.getElem?_toArray, List.getElem?_cons_succ, List.getElem?_cons_zero, Option.some.injEq] at ho
  subst ho
  go_simp
  refine (rfMul_any px qx b k _ _ HP.out.b.1 HP.out.b.2 HQ.out.b.1 HQ.out.b.2 G1.out.m).mono ?_
  rintro e w2 ⟨rfl, h⟩
  have G2 := Lib.hid (G1.out.fx h)
  have A2 := Lib.hid (A1.out.fx h (by have := G1.out.lt; omega))
  (try have B2 := Lib.hid (B1.out.fx h (by have := G1.out.lt; omega)))
  (try have R2 := Lib.hid (R1.out.fx h (by have := G1.out.lt; omega)))
  (try have P2 := Lib.hid (P1.out.fx h))
  (try have I2 := Lib.hid (I1.out.fx h hbi))
  go_wp2_with fail
  refine hK.out _ _ (⟨A2.out.h4, B2.out.h4⟩) ?_
  clear hK K hHeld
  intro hHeld
  clear h G1 A1
  (try clear B1)
  (try clear R1)
  (try clear P1)
  (try clear I1)
  refine wpAnyH_onlyD 15 (by decide +kernel) (fun o ho K hK => ?_) (by decide +kernel)
  simp only [List.getElem?_toArray, List.getElem?_cons_succ, List.getElem?_cons_zero, Option.some.injEq] at ho
  subst ho
  go_simp
  refine (rfSub_any (mulF pw qw) (mulF px qx) b k _ _ (mulF_in _ _).1 (mulF_in _ _).2 (mulF_in _ _).1 (mulF_in _ _).2 G2.out.m).mono ?_
  rintro e w3 ⟨rfl, h⟩
  have G3 := Lib.hid (G2.out.fx h)
  have A3 := Lib.hid (A2.out.fx h (by have := G2.out.lt; omega))
  (try have B3 := Lib.hid (B2.out.fx h (by have := G2.out.lt; omega)))
  (try have R3 := Lib.hid (R2.out.fx h (by have := G2.out.lt; omega)))
  (try have P3 := Lib.hid (P2.out.fx h))
  (try have I3 := Lib.hid (I2.out.fx h hbi))
  go_wp2_with fail
  refine hK.out _ _ (⟨A3.out.h4, B3.out.h4⟩) ?_
  clear hK K hHeld
  intro hHeld
  clear h G2 A2
  (try clear B2)
  (try clear R2)
  (try clear P2)
  (try clear I2)
  refine wpAnyH_onlyD 21 (by decide +kernel) (fun o ho K hK => ?_) (by decide +kernel)
  simp only [List.getElem?_toArray, List.getElem?_cons_succ, List.getElem?_cons_zero, Option.some.injEq] at ho
  subst ho
  go_simp
  refine (rfMul_any py qy b k _ _ HP.out.c.1 HP.out.c.2 HQ.out.c.1 HQ.out.c.2 G3.out.m).mono ?_
  rintro e w4 ⟨rfl, h⟩
  have G4 := Lib.hid (G3.out.fx h)
  have A4 := Lib.hid (A3.out.fx h (by have := G3.out.lt; omega))
  (try have B4 := Lib.hid (B3.out.fx h (by have := G3.out.lt; omega)))
  (try have R4 := Lib.hid (R3.out.fx h (by have := G3.out.lt; omega)))
  (try have P4 := Lib.hid (P3.out.fx h))
  (try have I4 := Lib.hid (I3.out.fx h hbi))
  go_wp2_with fail
  refine hK.out _ _ (⟨A4.out.h4, B4.out.h4⟩) ?_
  clear hK K hHeld
  intro hHeld
  clear h G3 A3
  (try clear B3)
  (try clear R3)
  (try clear P3)
  (try clear I3)
  refine wpAnyH_onlyD 22 (by decide +kernel) (fun o ho K hK => ?_) (by decide +kernel)
  simp only [List.getElem?_toArray, List.getElem?_cons_succ, List.getElem?_cons_zero, Option.some.injEq] at ho
  subst ho
  go_simp
  refine (rfSub_any (subF (mulF pw qw) (mulF px qx)) (mulF py qy) b k _ _ (subF_in _ _).1 (subF_in _ _).2 (mulF_in _ _).1 (mulF_in _ _).2 G4.out.m).mono ?_
  rintro e w5 ⟨rfl, h⟩
  have G5 := Lib.hid (G4.out.fx h)
  have A5 := Lib.hid (A4.out.fx h (by have := G4.out.lt; omega))
  (try have B5 := Lib.hid (B4.out.fx h (by have := G4.out.lt; omega)))
  (try have R5 := Lib.hid (R4.out.fx h (by have := G4.out.lt; omega)))
  (try have P5 := Lib.hid (P4.out.fx h))
  (try have I5 := Lib.hid (I4.out.fx h hbi))
  go_wp2_with fail
  refine hK.out _ _ (⟨A5.out.h4, B5.out.h4⟩) ?_
  clear hK K hHeld
  intro hHeld
  clear h G4 A4
  (try clear B4)
  (try clear R4)
  (try clear P4)
  (try clear I4)
  refine wpAnyH_onlyD 28 (by decide +kernel) (fun o ho K hK => ?_) (by decide +kernel)
  simp only [List.getElem?_toArray, List.getElem?_cons_succ, List.getElem?_cons_zero, Option.some.injEq] at ho
  subst ho
  go_simp
  refine (rfMul_any pz qz b k _ _ HP.out.d.1 HP.out.d.2 HQ.out.d.1 HQ.out.d.2 G5.out.m).mono ?_
  rintro e w6 ⟨rfl, h⟩
  have G6 := Lib.hid (G5.out.fx h)
  have A6 := Lib.hid (A5.out.fx h (by have := G5.out.lt; omega))
  (try have B6 := Lib.hid (B5.out.fx h (by have := G5.out.lt; omega)))
  (try have R6 := Lib.hid (R5.out.fx h (by have := G5.out.lt; omega)))
  (try have P6 := Lib.hid (P5.out.fx h))
  (try have I6 := Lib.hid (I5.out.fx h hbi))
  go_wp2_with fail
  refine hK.out _ _ (⟨A6.out.h4, B6.out.h4⟩) ?_
  clear hK K hHeld
  intro hHeld
  clear h G5 A5
  (try clear B5)
  (try clear R5)
  (try clear P5)
  (try clear I5)
  refine wpAnyH_onlyD 29 (by decide +kernel) (fun o ho K hK => ?_) (by decide +kernel)
  simp only [List.getElem?_toArray, List.getElem?_cons_succ, List.getElem?_cons_zero, Option.some.injEq] at ho
  subst ho
  go_simp
  refine (rfSub_any (subF (subF (mulF pw qw) (mulF px qx)) (mulF py qy)) (mulF pz qz) b k _ _ (subF_in _ _).1 (subF_in _ _).2 (mulF_in _ _).1 (mulF_in _ _).2 G6.out.m).mono ?_
  rintro e w7 ⟨rfl, h⟩
  have G7 := Lib.hid (G6.out.fx h)
  have A7 := Lib.hid (A6.out.fx h (by have := G6.out.lt; omega))
  (try have B7 := Lib.hid (B6.out.fx h (by have := G6.out.lt; omega)))
  (try have R7 := Lib.hid (R6.out.fx h (by have := G6.out.lt; omega)))
  (try have P7 := Lib.hid (P6.out.fx h))
  (try have I7 := Lib.hid (I6.out.fx h hbi))
  go_wp2_with fail
  refine hK.out _ _ (⟨A7.out.h4, B7.out.h4⟩) ?_
  clear hK K hHeld
  intro hHeld
  clear h G6 A6
  (try clear B6)
  (try clear R6)
  (try clear P6)
  (try clear I6)
  have G7 := Lib.hid (show Flag w w7 b k (o || qWo pw px py pz qw qx qy qz) by have := G7.out; unfold qWo; simp only [← Bool.or_assoc]; exact this)
  refine wpAnyH_onlyD 38 (by decide +kernel) (fun o ho K hK => ?_) (by decide +kernel)
  simp only [List.getElem?_toArray, List.getElem?_cons_succ, List.getElem?_cons_zero, Option.some.injEq] at ho
  subst ho
  go_simp
  refine (rfMul_any pw qx b k _ _ HP.out.a.1 HP.out.a.2 HQ.out.b.1 HQ.out.b.2 G7.out.m).mono ?_
  rintro e w8 ⟨rfl, h⟩
  have G8 := Lib.hid (G7.out.fx h)
  have A8 := Lib.hid (A7.out.fx h (by have := G7.out.lt; omega))
  (try have B8 := Lib.hid (B7.out.fx h (by have := G7.out.lt; omega)))
  (try have R8 := Lib.hid (R7.out.fx h (by have := G7.out.lt; omega)))
  (try have P8 := Lib.hid (P7.out.fx h))
  (try have I8 := Lib.hid (I7.out.fx h hbi))
  go_wp2_with fail
  refine hK.out _ _ (⟨A8.out.h4, B8.out.h4⟩) ?_
  clear hK K hHeld
  intro hHeld
  clear h G7 A7
  (try clear B7)
  (try clear R7)
  (try clear P7)
  (try clear I7)
  refine wpAnyH_onlyD 44 (by decide +kernel) (fun o ho K hK => ?_) (by decide +kernel)
  simp only [List.getElem?_toArray, List.getElem?_cons_succ, List.getElem?_cons_zero, Option.some.injEq] at ho
  subst ho
  go_simp
  refine (rfMul_any px qw b k _ _ HP.out.b.1 HP.out.b.2 HQ.out.a.1 HQ.out.a.2 G8.out.m).mono ?_
  rintro e w9 ⟨rfl, h⟩
  have G9 := Lib.hid (G8.out.fx h)
  have A9 := Lib.hid (A8.out.fx h (by have := G8.out.lt; omega))
  (try have B9 := Lib.hid (B8.out.fx h (by have := G8.out.lt; omega)))
  (try have R9 := Lib.hid (R8.out.fx h (by have := G8.out.lt; omega)))
  (try have P9 := Lib.hid (P8.out.fx h))
  (try have I9 := Lib.hid (I8.out.fx h hbi))
  go_wp2_with fail
  refine hK.out _ _ (⟨A9.out.h4, B9.out.h4⟩) ?_
  clear hK K hHeld
  intro hHeld
  clear h G8 A8
  (try clear B8)
  (try clear R8)
  (try clear P8)
  (try clear I8)
  refine wpAnyH_onlyD 45 (by decide +kernel) (fun o ho K hK => ?_) (by decide +kernel)
  simp only [List.getElem?_toArray, List.getElem?_cons_succ, List.getElem?_cons_zero, Option.some.injEq] at ho
  subst ho
  go_simp
  refine (rfAdd_any (mulF pw qx) (mulF px qw) b k _ _ (mulF_in _ _).1 (mulF_in _ _).2 (mulF_in _ _).1 (mulF_in _ _).2 G9.out.m).mono ?_
  rintro e w10 ⟨rfl, h⟩
  have G10 := Lib.hid (G9.out.fx h)
  have A10 := Lib.hid (A9.out.fx h (by have := G9.out.lt; omega))
  (try have B10 := Lib.hid (B9.out.fx h (by have := G9.out.lt; omega)))
  (try have R10 := Lib.hid (R9.out.fx h (by have := G9.out.lt; omega)))
  (try have P10 := Lib.hid (P9.out.fx h))
  (try have I10 := Lib.hid (I9.out.fx h hbi))
  go_wp2_with fail
  refine hK.out _ _ (⟨A10.out.h4, B10.out.h4⟩) ?_
  clear hK K hHeld
  intro hHeld
  clear h G9 A9
  (try clear B9)
  (try clear R9)
  (try clear P9)
  (try clear I9)
  refine wpAnyH_onlyD 51 (by decide +kernel) (fun o ho K hK => ?_) (by decide +kernel)
  simp only [List.getElem?_toArray, List.getElem?_cons_succ, List.getElem?_cons_zero, Option.some.injEq] at ho
  subst ho
  go_simp
  refine (rfMul_any py qz b k _ _ HP.out.c.1 HP.out.c.2 HQ.out.d.1 HQ.out.d.2 G10.out.m).mono ?_
  rintro e w11 ⟨rfl, h⟩
  have G11 := Lib.hid (G10.out.fx h)
  have A11 := Lib.hid (A10.out.fx h (by have := G10.out.lt; omega))
  (try have B11 := Lib.hid (B10.out.fx h (by have := G10.out.lt; omega)))
  (try have R11 := Lib.hid (R10.out.fx h (by have := G10.out.lt; omega)))
  (try have P11 := Lib.hid (P10.out.fx h))
  (try have I11 := Lib.hid (I10.out.fx h hbi))
  go_wp2_with fail
  refine hK.out _ _ (⟨A11.out.h4, B11.out.h4⟩) ?_
  clear hK K hHeld
  intro hHeld
  clear h G10 A10
  (try clear B10)
  (try clear R10)
  (try clear P10)
  (try clear I10)
  refine wpAnyH_onlyD 52 (by decide +kernel) (fun o ho K hK => ?_) (by decide +kernel)
  simp only [List.getElem?_toArray, List.getElem?_cons_succ, List.getElem?_cons_zero, Option.some.injEq] at ho
  subst ho
  go_simp
  refine (rfAdd_any (addF (mulF pw qx) (mulF px qw)) (mulF py qz) b k _ _ (addF_in _ _).1 (addF_in _ _).2 (mulF_in _ _).1 (mulF_in _ _).2 G11.out.m).mono ?_
  rintro e w12 ⟨rfl, h⟩
  have G12 := Lib.hid (G11.out.fx h)
  have A12 := Lib.hid (A11.out.fx h (by have := G11.out.lt; omega))
  (try have B12 := Lib.hid (B11.out.fx h (by have := G11.out.lt; omega)))
  (try have R12 := Lib.hid (R11.out.fx h (by have := G11.out.lt; omega)))
  (try have P12 := Lib.hid (P11.out.fx h))
  (try have I12 := Lib.hid (I11.out.fx h hbi))
  go_wp2_with fail
  refine hK.out _ _ (⟨A12.out.h4, B12.out.h4⟩) ?_
  clear hK K hHeld
  intro hHeld
  clear h G11 A11
  (try clear B11)
  (try clear R11)
  (try clear P11)
  (try clear I11)
  refine wpAnyH_onlyD 58 (by decide +kernel) (fun o ho K hK => ?_) (by decide +kernel)
  simp only [List.getElem?_toArray, List.getElem?_cons_succ, List.getElem?_cons_zero, Option.some.injEq] at ho
  subst ho
  go_simp
  refine (rfMul_any pz qy b k _ _ HP.out.d.1 HP.out.d.2 HQ.out.c.1 HQ.out.c.2 G12.out.m).mono ?_
  rintro e w13 ⟨rfl, h⟩
  have G13 := Lib.hid (G12.out.fx h)
  have A13 := Lib.hid (A12.out.fx h (by have := G12.out.lt; omega))
  (try have B13 := Lib.hid (B12.out.fx h (by have := G12.out.lt; omega)))
  (try have R13 := Lib.hid (R12.out.fx h (by have := G12.out.lt; omega)))
  (try have P13 := Lib.hid (P12.out.fx h))
  (try have I13 := Lib.hid (I12.out.fx h hbi))
  go_wp2_with fail
  refine hK.out _ _ (⟨A13.out.h4, B13.out.h4⟩) ?_
  clear hK K hHeld
  intro hHeld
  clear h G12 A12
  (try clear B12)
  (try clear R12)
  (try clear P12)
  (try clear I12)
  refine wpAnyH_onlyD 59 (by decide +kernel) (fun o ho K hK => ?_) (by decide +kernel)
  simp only [List.getElem?_toArray, List.getElem?_cons_succ, List.getElem?_cons_zero, Option.some.injEq] at ho
  subst ho
  go_simp
  refine (rfSub_any (addF (addF (mulF pw qx) (mulF px qw)) (mulF py qz)) (mulF pz qy) b k _ _ (addF_in _ _).1 (addF_in _ _).2 (mulF_in _ _).1 (mulF_in _ _).2 G13.out.m).mono ?_
  rintro e w14 ⟨rfl, h⟩
  have G14 := Lib.hid (G13.out.fx h)
  have A14 := Lib.hid (A13.out.fx h (by have := G13.out.lt; omega))
  (try have B14 := Lib.hid (B13.out.fx h (by have := G13.out.lt; omega)))
  (try have R14 := Lib.hid (R13.out.fx h (by have := G13.out.lt; omega)))
  (try have P14 := Lib.hid (P13.out.fx h))
  (try have I14 := Lib.hid (I13.out.fx h hbi))
  go_wp2_with fail
  refine hK.out _ _ (⟨A14.out.h4, B14.out.h4⟩) ?_
  clear hK K hHeld
  intro hHeld
  clear h G13 A13
  (try clear B13)
  (try clear R13)
  (try clear P13)
  (try clear I13)
  have G14 := Lib.hid (show Flag w w14 b k (o || qWo pw px py pz qw qx qy qz || qXo pw px py pz qw qx qy qz) by have := G14.out; unfold qXo; simp only [← Bool.or_assoc]; exact this)
  refine wpAnyH_onlyD 68 (by decide +kernel) (fun o ho K hK => ?_) (by decide +kernel)
  simp only [List.getElem?_toArray, List.getElem?_cons_succ, List.getElem?_cons_zero, Option.some.injEq] at ho
  subst ho
  go_simp
  refine (rfMul_any pw qy b k _ _ HP.out.a.1 HP.out.a.2 HQ.out.c.1 HQ.out.c.2 G14.out.m).mono ?_
  rintro e w15 ⟨rfl, h⟩
  have G15 := Lib.hid (G14.out.fx h)
  have A15 := Lib.hid (A14.out.fx h (by have := G14.out.lt; omega))
  (try have B15 := Lib.hid (B14.out.fx h (by have := G14.out.lt; omega)))
  (try have R15 := Lib.hid (R14.out.fx h (by have := G14.out.lt; omega)))
  (try have P15 := Lib.hid (P14.out.fx h))
  (try have I15 := Lib.hid (I14.out.fx h hbi))
  go_wp2_with fail
  refine hK.out _ _ (⟨A15.out.h4, B15.out.h4⟩) ?_
  clear hK K hHeld
  intro hHeld
  clear h G14 A14
  (try clear B14)
  (try clear R14)
  (try clear P14)
  (try clear I14)
  refine wpAnyH_onlyD 74 (by decide +kernel) (fun o ho K hK => ?_) (by decide +kernel)
  simp only [List.getElem?_toArray, List.getElem?_cons_succ, List.getElem?_cons_zero, Option.some.injEq] at ho
  subst ho
  go_simp
  refine (rfMul_any px qz b k _ _ HP.out.b.1 HP.out.b.2 HQ.out.d.1 HQ.out.d.2 G15.out.m).mono ?_
  rintro e w16 ⟨rfl, h⟩
  have G16 := Lib.hid (G15.out.fx h)
  have A16 := Lib.hid (A15.out.fx h (by have := G15.out.lt; omega))
  (try have B16 := Lib.hid (B15.out.fx h (by have := G15.out.lt; omega)))
  (try have R16 := Lib.hid (R15.out.fx h (by have := G15.out.lt; omega)))
  (try have P16 := Lib.hid (P15.out.fx h))
  (try have I16 := Lib.hid (I15.out.fx h hbi))
  go_wp2_with fail
  refine hK.out _ _ (⟨A16.out.h4, B16.out.h4⟩) ?_
  clear hK K hHeld
  intro hHeld
  clear h G15 A15
  (try clear B15)
  (try clear R15)
  (try clear P15)
  (try clear I15)
  refine wpAnyH_onlyD 75 (by decide +kernel) (fun o ho K hK => ?_) (by decide +kernel)
  simp only [List.getElem?_toArray, List.getElem?_cons_succ, List.getElem?_cons_zero, Option.some.injEq] at ho
  subst ho
  go_simp
  refine (rfSub_any (mulF pw qy) (mulF px qz) b k _ _ (mulF_in _ _).1 (mulF_in _ _).2 (mulF_in _ _).1 (mulF_in _ _).2 G16.out.m).mono ?_
  rintro e w17 ⟨rfl, h⟩
  have G17 := Lib.hid (G16.out.fx h)
  have A17 := Lib.hid (A16.out.fx h (by have := G16.out.lt; omega))
  (try have B17 := Lib.hid (B16.out.fx h (by have := G16.out.lt; omega)))
  (try have R17 := Lib.hid (R16.out.fx h (by have := G16.out.lt; omega)))
  (try have P17 := Lib.hid (P16.out.fx h))
  (try have I17 := Lib.hid (I16.out.fx h hbi))
  go_wp2_with fail
  refine hK.out _ _ (⟨A17.out.h4, B17.out.h4⟩) ?_
  clear hK K hHeld
  intro hHeld
  clear h G16 A16
  (try clear B16)
  (try clear R16)
  (try clear P16)
  (try clear I16)
  refine wpAnyH_onlyD 81 (by decide +kernel) (fun o ho K hK => ?_) (by decide +kernel)
  simp only [List.getElem?_toArray, List.getElem?_cons_succ, List.getElem?_cons_zero, Option.some.injEq] at ho
  subst ho
  go_simp
  refine (rfMul_any py qw b k _ _ HP.out.c.1 HP.out.c.2 HQ.out.a.1 HQ.out.a.2 G17.out.m).mono ?_
  rintro e w18 ⟨rfl, h⟩
  have G18 := Lib.hid (G17.out.fx h)
  have A18 := Lib.hid (A17.out.fx h (by have := G17.out.lt; omega))
  (try have B18 := Lib.hid (B17.out.fx h (by have := G17.out.lt; omega)))
  (try have R18 := Lib.hid (R17.out.fx h (by have := G17.out.lt; omega)))
  (try have P18 := Lib.hid (P17.out.fx h))
  (try have I18 := Lib.hid (I17.out.fx h hbi))
  go_wp2_with fail
  refine hK.out _ _ (⟨A18.out.h4, B18.out.h4⟩) ?_
  clear hK K hHeld
  intro hHeld
  clear h G17 A17
  (try clear B17)
  (try clear R17)
  (try clear P17)
  (try clear I17)
  refine wpAnyH_onlyD 82 (by decide +kernel) (fun o ho K hK => ?_) (by decide +kernel)
  simp only [List.getElem?_toArray, List.getElem?_cons_succ, List.getElem?_cons_zero, Option.some.injEq] at ho
  subst ho
  go_simp
  refine (rfAdd_any (subF (mulF pw qy) (mulF px qz)) (mulF py qw) b k _ _ (subF_in _ _).1 (subF_in _ _).2 (mulF_in _ _).1 (mulF_in _ _).2 G18.out.m).mono ?_
  rintro e w19 ⟨rfl, h⟩
  have G19 := Lib.hid (G18.out.fx h)
  have A19 := Lib.hid (A18.out.fx h (by have := G18.out.lt; omega))
  (try have B19 := Lib.hid (B18.out.fx h (by have := G18.out.lt; omega)))
  (try have R19 := Lib.hid (R18.out.fx h (by have := G18.out.lt; omega)))
  (try have P19 := Lib.hid (P18.out.fx h))
  (try have I19 := Lib.hid (I18.out.fx h hbi))
  go_wp2_with fail
  refine hK.out _ _ (⟨A19.out.h4, B19.out.h4⟩) ?_
  clear hK K hHeld
  intro hHeld
  clear h G18 A18
  (try clear B18)
  (try clear R18)
  (try clear P18)
  (try clear I18)
  refine wpAnyH_onlyD 88 (by decide +kernel) (fun o ho K hK => ?_) (by decide +kernel)
  simp only [List.getElem?_toArray, List.getElem?_cons_succ, List.getElem?_cons_zero, Option.some.injEq] at ho
  subst ho
  go_simp
  refine (rfMul_any pz qx b k _ _ HP.out.d.1 HP.out.d.2 HQ.out.b.1 HQ.out.b.2 G19.out.m).mono ?_
  rintro e w20 ⟨rfl, h⟩
  have G20 := Lib.hid (G19.out.fx h)
  have A20 := Lib.hid (A19.out.fx h (by have := G19.out.lt; omega))
  (try have B20 := Lib.hid (B19.out.fx h (by have := G19.out.lt; omega)))
  (try have R20 := Lib.hid (R19.out.fx h (by have := G19.out.lt; omega)))
  (try have P20 := Lib.hid (P19.out.fx h))
  (try have I20 := Lib.hid (I19.out.fx h hbi))
  go_wp2_with fail
  refine hK.out _ _ (⟨A20.out.h4, B20.out.h4⟩) ?_
  clear hK K hHeld
  intro hHeld
  clear h G19 A19
  (try clear B19)
  (try clear R19)
  (try clear P19)
  (try clear I19)
  refine wpAnyH_onlyD 89 (by decide +kernel) (fun o ho K hK => ?_) (by decide +kernel)
  simp only [List.getElem?_toArray, List.getElem?_cons_succ, List.getElem?_cons_zero, Option.some.injEq] at ho
  subst ho
  go_simp
  refine (rfAdd_any (addF (subF (mulF pw qy) (mulF px qz)) (mulF py qw)) (mulF pz qx) b k _ _ (addF_in _ _).1 (addF_in _ _).2 (mulF_in _ _).1 (mulF_in _ _).2 G20.out.m).mono ?_
  rintro e w21 ⟨rfl, h⟩
  have G21 := Lib.hid (G20.out.fx h)
  have A21 := Lib.hid (A20.out.fx h (by have := G20.out.lt; omega))
  (try have B21 := Lib.hid (B20.out.fx h (by have := G20.out.lt; omega)))
  (try have R21 := Lib.hid (R20.out.fx h (by have := G20.out.lt; omega)))
  (try have P21 := Lib.hid (P20.out.fx h))
  (try have I21 := Lib.hid (I20.out.fx h hbi))
  go_wp2_with fail
  refine hK.out _ _ (⟨A21.out.h4, B21.out.h4⟩) ?_
  clear hK K hHeld
  intro hHeld
  clear h G20 A20
  (try clear B20)
  (try clear R20)
  (try clear P20)
  (try clear I20)
  have G21 := Lib.hid (show Flag w w21 b k (o || qWo pw px py pz qw qx qy qz || qXo pw px py pz qw qx qy qz || qYo pw px py pz qw qx qy qz) by have := G21.out; unfold qYo; simp only [← Bool.or_assoc]; exact this)
  refine wpAnyH_onlyD 98 (by decide +kernel) (fun o ho K hK => ?_) (by decide +kernel)
  simp only [List.getElem?_toArray, List.getElem?_cons_succ, List.getElem?_cons_zero, Option.some.injEq] at ho
  subst ho
  go_simp
  refine (rfMul_any pw qz b k _ _ HP.out.a.1 HP.out.a.2 HQ.out.d.1 HQ.out.d.2 G21.out.m).mono ?_
  rintro e w22 ⟨rfl, h⟩
  have G22 := Lib.hid (G21.out.fx h)
  have A22 := Lib.hid (A21.out.fx h (by have := G21.out.lt; omega))
  (try have B22 := Lib.hid (B21.out.fx h (by have := G21.out.lt; omega)))
  (try have R22 := Lib.hid (R21.out.fx h (by have := G21.out.lt; omega)))
  (try have P22 := Lib.hid (P21.out.fx h))
  (try have I22 := Lib.hid (I21.out.fx h hbi))
  go_wp2_with fail
  refine hK.out _ _ (⟨A22.out.h4, B22.out.h4⟩) ?_
  clear hK K hHeld
  intro hHeld
  clear h G21 A21
  (try clear B21)
  (try clear R21)
  (try clear P21)
  (try clear I21)
  refine wpAnyH_onlyD 104 (by decide +kernel) (fun o ho K hK => ?_) (by decide +kernel)
  simp only [List.getElem?_toArray, List.getElem?_cons_succ, List.getElem?_cons_zero, Option.some.injEq] at ho
  subst ho
  go_simp
  refine (rfMul_any px qy b k _ _ HP.out.b.1 HP.out.b.2 HQ.out.c.1 HQ.out.c.2 G22.out.m).mono ?_
  rintro e w23 ⟨rfl, h⟩
  have G23 := Lib.hid (G22.out.fx h)
  have A23 := Lib.hid (A22.out.fx h (by have := G22.out.lt; omega))
  (try have B23 := Lib.hid (B22.out.fx h (by have := G22.out.lt; omega)))
  (try have R23 := Lib.hid (R22.out.fx h (by have := G22.out.lt; omega)))
  (try have P23 := Lib.hid (P22.out.fx h))
  (try have I23 := Lib.hid (I22.out.fx h hbi))
  go_wp2_with fail
  refine hK.out _ _ (⟨A23.out.h4, B23.out.h4⟩) ?_
  clear hK K hHeld
  intro hHeld
  clear h G22 A22
  (try clear B22)
  (try clear R22)
  (try clear P22)
  (try clear I22)
  refine wpAnyH_onlyD 105 (by decide +kernel) (fun o ho K hK => ?_) (by decide +kernel)
  simp only [List.getElem?_toArray, List.getElem?_cons_succ, List.getElem?_cons_zero, Option.some.injEq] at ho
  subst ho
  go_simp
  refine (rfAdd_any (mulF pw qz) (mulF px qy) b k _ _ (mulF_in _ _).1 (mulF_in _ _).2 (mulF_in _ _).1 (mulF_in _ _).2 G23.out.m).mono ?_
  rintro e w24 ⟨rfl, h⟩
  have G24 := Lib.hid (G23.out.fx h)
  have A24 := Lib.hid (A23.out.fx h (by have := G23.out.lt; omega))
  (try have B24 := Lib.hid (B23.out.fx h (by have := G23.out.lt; omega)))
  (try have R24 := Lib.hid (R23.out.fx h (by have := G23.out.lt; omega)))
  (try have P24 := Lib.hid (P23.out.fx h))
  (try have I24 := Lib.hid (I23.out.fx h hbi))
  go_wp2_with fail
  refine hK.out _ _ (⟨A24.out.h4, B24.out.h4⟩) ?_
  clear hK K hHeld
  intro hHeld
  clear h G23 A23
  (try clear B23)
  (try clear R23)
  (try clear P23)
  (try clear I23)
  refine wpAnyH_onlyD 111 (by decide +kernel) (fun o ho K hK => ?_) (by decide +kernel)
  simp only [List.getElem?_toArray, List.getElem?_cons_succ, List.getElem?_cons_zero, Option.some.injEq] at ho
  subst ho
  go_simp
  refine (rfMul_any py qx b k _ _ HP.out.c.1 HP.out.c.2 HQ.out.b.1 HQ.out.b.2 G24.out.m).mono ?_
  rintro e w25 ⟨rfl, h⟩
  have G25 := Lib.hid (G24.out.fx h)
  have A25 := Lib.hid (A24.out.fx h (by have := G24.out.lt; omega))
  (try have B25 := Lib.hid (B24.out.fx h (by have := G24.out.lt; omega)))
  (try have R25 := Lib.hid (R24.out.fx h (by have := G24.out.lt; omega)))
  (try have P25 := Lib.hid (P24.out.fx h))
  (try have I25 := Lib.hid (I24.out.fx h hbi))
  go_wp2_with fail
  refine hK.out _ _ (⟨A25.out.h4, B25.out.h4⟩) ?_
  clear hK K hHeld
  intro hHeld
  clear h G24 A24
  (try clear B24)
  (try clear R24)
  (try clear P24)
  (try clear I24)
  refine wpAnyH_onlyD 112 (by decide +kernel) (fun o ho K hK => ?_) (by decide +kernel)
  simp only [List.getElem?_toArray, List.getElem?_cons_succ, List.getElem?_cons_zero, Option.some.injEq] at ho
  subst ho
  go_simp
  refine (rfSub_any (addF (mulF pw qz) (mulF px qy)) (mulF py qx) b k _ _ (addF_in _ _).1 (addF_in _ _).2 (mulF_in _ _).1 (mulF_in _ _).2 G25.out.m).mono ?_
  rintro e w26 ⟨rfl, h⟩
  have G26 := Lib.hid (G25.out.fx h)
  have A26 := Lib.hid (A25.out.fx h (by have := G25.out.lt; omega))
  (try have B26 := Lib.hid (B25.out.fx h (by have := G25.out.lt; omega)))
  (try have R26 := Lib.hid (R25.out.fx h (by have := G25.out.lt; omega)))
  (try have P26 := Lib.hid (P25.out.fx h))
  (try have I26 := Lib.hid (I25.out.fx h hbi))
  go_wp2_with fail
  refine hK.out _ _ (⟨A26.out.h4, B26.out.h4⟩) ?_
  clear hK K hHeld
  intro hHeld
  clear h G25 A25
  (try clear B25)
  (try clear R25)
  (try clear P25)
  (try clear I25)
  refine wpAnyH_onlyD 118 (by decide +kernel) (fun o ho K hK => ?_) (by decide +kernel)
  simp only [List.getElem?_toArray, List.getElem?_cons_succ, List.getElem?_cons_zero, Option.some.injEq] at ho
  subst ho
  go_simp
  refine (rfMul_any pz qw b k _ _ HP.out.d.1 HP.out.d.2 HQ.out.a.1 HQ.out.a.2 G26.out.m).mono ?_
  rintro e w27 ⟨rfl, h⟩
  have G27 := Lib.hid (G26.out.fx h)
  have A27 := Lib.hid (A26.out.fx h (by have := G26.out.lt; omega))
  (try have B27 := Lib.hid (B26.out.fx h (by have := G26.out.lt; omega)))
  (try have R27 := Lib.hid (R26.out.fx h (by have := G26.out.lt; omega)))
  (try have P27 := Lib.hid (P26.out.fx h))
  (try have I27 := Lib.hid (I26.out.fx h hbi))
  go_wp2_with fail
  refine hK.out _ _ (⟨A27.out.h4, B27.out.h4⟩) ?_
  clear hK K hHeld
  intro hHeld
  clear h G26 A26
  (try clear B26)
  (try clear R26)
  (try clear P26)
  (try clear I26)
  refine wpAnyH_onlyD 119 (by decide +kernel) (fun o ho K hK => ?_) (by decide +kernel)
  simp only [List.getElem?_toArray, List.getElem?_cons_succ, List.getElem?_cons_zero, Option.some.injEq] at ho
  subst ho
  go_simp
  refine (rfAdd_any (subF (addF (mulF pw qz) (mulF px qy)) (mulF py qx)) (mulF pz qw) b k _ _ (subF_in _ _).1 (subF_in _ _).2 (mulF_in _ _).1 (mulF_in _ _).2 G27.out.m).mono ?_
  rintro e w28 ⟨rfl, h⟩
  have G28 := Lib.hid (G27.out.fx h)
  have A28 := Lib.hid (A27.out.fx h (by have := G27.out.lt; omega))
  (try have B28 := Lib.hid (B27.out.fx h (by have := G27.out.lt; omega)))
  (try have R28 := Lib.hid (R27.out.fx h (by have := G27.out.lt; omega)))
  (try have P28 := Lib.hid (P27.out.fx h))
  (try have I28 := Lib.hid (I27.out.fx h hbi))
  go_wp2_with fail
  refine hK.out _ _ (⟨A28.out.h4, B28.out.h4⟩) ?_
  clear hK K hHeld
  intro hHeld
  clear h G27 A27
  (try clear B27)
  (try clear R27)
  (try clear P27)
  (try clear I27)
  have G28 := Lib.hid (show Flag w w28 b k (o || qWo pw px py pz qw qx qy qz || qXo pw px py pz qw qx qy qz || qYo pw px py pz qw qx qy qz || qZo pw px py pz qw qx qy qz) by have := G28.out; unfold qZo; simp only [← Bool.or_assoc]; exact this)
  refine wpAnyH_takeD 120 127 (v := ?_) (by decide +kernel) (by decide +kernel) (by decide +kernel) (by decide +kernel) (by rfl) (fun _ _ _ h => h) ?_ hHeld ?_
  rotate_left 1
  (intro o ho W hSw; simp only [List.getElem?_toArray, List.getElem?_cons_succ, List.getElem?_cons_zero, Option.some.injEq] at ho; subst ho; (try dsimp only at hSw); go_simp; try with_reducible rfl)
  (try simp only [Act.put, List.setIfInBounds_toArray, List.set_cons_zero, List.set_cons_succ])
  obtain ⟨r0, r1, r2, r3⟩ := R28.out.h4
  have rf := R28.out.f
  refine wpAnyH_onlyD 121 (by decide +kernel) (fun o ho K hK => ?_) (by decide +kernel)
  simp only [List.getElem?_toArray, List.getElem?_cons_succ, List.getElem?_cons_zero, Option.some.injEq] at ho
  subst ho
  go_simp
  refine hK.out _ _ (⟨(((((A28.out.far (by omega) _ _).far (by omega) _ _).far (by omega) _ _).far (by omega) _ _).h4), (((((B28.out.far (by omega) _ _).far (by omega) _ _).far (by omega) _ _).far (by omega) _ _).h4)⟩) ?_
  clear hK K hHeld
  intro hHeld
  refine wpAnyH_done (by kernel_rfl) ?_ _
  go_wp2
  exact bodyPost_ret (v := .agg #[.int .i64 (qW pw px py pz qw qx qy qz), .int .i64 (qX pw px py pz qw qx qy qz), .int .i64 (qY pw px py pz qw qx qy qz), .int .i64 (qZ pw px py pz qw qx qy qz)]) (by simp [results, Try.results10, go_sem, r0, r1, r2, r3, qW, qX, qY, qZ]) rfl ⟨rfl, Flag.set (Flag.set (Flag.set (Flag.set G28.out.f (by omega) _ _) (by omega) _ _) (by omega) _ _) (by omega) _ _⟩
end Go.Proofs.Ytldcmiomfahaoaa
