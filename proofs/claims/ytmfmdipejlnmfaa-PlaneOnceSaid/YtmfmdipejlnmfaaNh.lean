/- The contract of the document's dot of ways. -/
import Derived.Test.YtmfmdipejlnmfaaNf
namespace Go.Proofs.Ytmfmdipejlnmfaa
open Go.RowKit
set_option linter.unusedVariables false
set_option linter.unusedSimpArgs false

/-- the inner product of the ways from a to b and from a to p -/
def dotP (a b p : Pt) : Int := (b.x - a.x) * (p.x - a.x) + (b.y - a.y) * (p.y - a.y)
theorem mul_49 {x y : Int} (x0 : -562949953421312 ≤ x) (x1 : x ≤ 562949953421312) (y0 : -562949953421312 ≤ y) (y1 : y ≤ 562949953421312) : -316912650057057350374175801344 ≤ x * y ∧ x * y ≤ 316912650057057350374175801344 := by
  have h1 : 0 ≤ (562949953421312 - x) * (562949953421312 + y) := Int.mul_nonneg (by omega) (by omega)
  have h2 : 0 ≤ (562949953421312 + x) * (562949953421312 - y) := Int.mul_nonneg (by omega) (by omega)
  have h3 : 0 ≤ (562949953421312 - x) * (562949953421312 - y) := Int.mul_nonneg (by omega) (by omega)
  have h4 : 0 ≤ (562949953421312 + x) * (562949953421312 + y) := Int.mul_nonneg (by omega) (by omega)
  have e1 : (562949953421312 - x) * (562949953421312 + y) = 316912650057057350374175801344 + 562949953421312 * y - 562949953421312 * x - x * y := by grind
  have e2 : (562949953421312 + x) * (562949953421312 - y) = 316912650057057350374175801344 - 562949953421312 * y + 562949953421312 * x - x * y := by grind
  have e3 : (562949953421312 - x) * (562949953421312 - y) = 316912650057057350374175801344 - 562949953421312 * y - 562949953421312 * x + x * y := by grind
  have e4 : (562949953421312 + x) * (562949953421312 + y) = 316912650057057350374175801344 + 562949953421312 * y + 562949953421312 * x + x * y := by grind
  omega
theorem dotP_fit {ax ay bx by' px py : Int} (h1 : Rg ax) (h2 : Rg ay) (h3 : Rg bx) (h4 : Rg by') (h5 : Rg px) (h6 : Rg py) :
    In128 ((bx - ax) * (px - ax)) ∧ In128 ((by' - ay) * (py - ay)) ∧ clipW ((bx - ax) * (px - ax) + (by' - ay) * (py - ay)) = dotP ⟨ax, ay⟩ ⟨bx, by'⟩ ⟨px, py⟩ ∧ In128 (dotP ⟨ax, ay⟩ ⟨bx, by'⟩ ⟨px, py⟩) := by
  unfold Rg at *
  have q1 := mul_49 (x := bx - ax) (y := px - ax) (by omega) (by omega) (by omega) (by omega)
  have q2 := mul_49 (x := by' - ay) (y := py - ay) (by omega) (by omega) (by omega) (by omega)
  unfold dotP
  simp only []
  generalize (bx - ax) * (px - ax) = k at *
  generalize (by' - ay) * (py - ay) = m at *
  have i1 : In128 (k + m) := by unfold In128; omega
  refine ⟨by unfold In128; omega, by unfold In128; omega, ?_, by unfold In128; omega⟩
  unfold clipW
  rw [if_pos i1]
/-- the blocks of dot -/
def DtL (w : World) (ax ay bx by' px py : Int) : List (Nat × List Value) := [(w.heap.size, [.int .i64 ax, .int .i64 ay]), (w.heap.size + 1, [.int .i64 bx, .int .i64 by']), (w.heap.size + 1 + 1, [.int .i64 px, .int .i64 py]), (w.heap.size + 1 + 1 + 1, [.bool false, .int .u64 0, .int .u64 0, .int .u64 0, .int .u64 0])]
theorem dt_r {w W : World} {ax ay bx by' px py : Int} (k : St w W (DtL w ax ay bx by' px py)) : BW W (w.heap.size + 1 + 1 + 1) [.bool false, .int .u64 0, .int .u64 0, .int .u64 0, .int .u64 0] := k.b _ _ (by unfold DtL; simp)
theorem dt_sv {w W : World} {ax ay bx by' px py : Int} (k : St w W (DtL w ax ay bx by' px py)) : (W.cell? ⟨w.heap.size, 0, none⟩ = some (.int .i64 ax) ∧ W.cell? ⟨w.heap.size, 1, none⟩ = some (.int .i64 ay)) ∧ (W.cell? ⟨w.heap.size + 1, 0, none⟩ = some (.int .i64 bx) ∧ W.cell? ⟨w.heap.size + 1, 1, none⟩ = some (.int .i64 by')) ∧ (W.cell? ⟨w.heap.size + 1 + 1, 0, none⟩ = some (.int .i64 px) ∧ W.cell? ⟨w.heap.size + 1 + 1, 1, none⟩ = some (.int .i64 py)) :=
  ⟨(k.b _ _ (by unfold DtL; simp)).h2', (k.b _ _ (by unfold DtL; simp)).h2', (k.b _ _ (by unfold DtL; simp)).h2'⟩
set_option maxRecDepth 100000 in
set_option maxHeartbeats 8000000 in
theorem rPDot_any (ax ay bx by' px py A : Int) (w : World) (h1 : Rg ax) (h2 : Rg ay) (h3 : Rg bx) (h4 : Rg by') (h5 : Rg px) (h6 : Rg py) (hA : dotP ⟨ax, ay⟩ ⟨bx, by'⟩ ⟨px, py⟩ = A) :
    Calls Try.prog 39 #[.agg #[.int .i64 ax, .int .i64 ay], .agg #[.int .i64 bx, .int .i64 by'], .agg #[.int .i64 px, .int .i64 py]] w fun e w' => e = .returned (.agg #[.bool (decide (A < 0)), .int .u64 (d0 (A.natAbs)), .int .u64 (d1 (A.natAbs)), .int .u64 (d2 (A.natAbs)), .int .u64 (d3 (A.natAbs))]) ∧ Below w.heap.size w w' := by
  obtain ⟨f1, f2, f4, f5⟩ := dotP_fit h1 h2 h3 h4 h5 h6
  rw [hA] at f4 f5
  have u1 : IntKind.i64.wrap (bx - ax) = bx - ax := IntWalk.i64_in _ (by unfold Rg at *; omega)
  have u2 : IntKind.i64.wrap (px - ax) = px - ax := IntWalk.i64_in _ (by unfold Rg at *; omega)
  have u3 : IntKind.i64.wrap (by' - ay) = by' - ay := IntWalk.i64_in _ (by unfold Rg at *; omega)
  have u4 : IntKind.i64.wrap (py - ay) = py - ay := IntWalk.i64_in _ (by unfold Rg at *; omega)
  have X1 := Lib.hid (fun (W : World) => rMul_any (bx - ax) (px - ax) W (by unfold Rg at *; omega) (by unfold Rg at *; omega) (by unfold Rg at *; omega) (by unfold Rg at *; omega))
  have X2 := Lib.hid (fun (W : World) => rMul_any (by' - ay) (py - ay) W (by unfold Rg at *; omega) (by unfold Rg at *; omega) (by unfold Rg at *; omega) (by unfold Rg at *; omega))
  have X4 := Lib.hid (fun (W : World) => rAdd_any ((bx - ax) * (px - ax)) ((by' - ay) * (py - ay)) W f1 f2)
  rw [f4] at X4
  generalize (bx - ax) * (px - ax) = k at *
  generalize (by' - ay) * (py - ay) = m at *
  clear f1 f2 f4 f5 hA
  generalize fitW (k + m) = fw at *
  have U := Lib.hid (And.intro u1 (And.intro u2 (And.intro u3 u4)))
  clear u1 u2 u3 u4 h1 h2 h3 h4 h5 h6
  go_enter Try.func39, Try.ntmps39
  go_wp2_with fail
  refine wp_gen (S := fun W => St w W (DtL w ax ay bx by' px py))
    (St.cons ((((BW.new w w.heap.size [_, _] _ rfl).alloc _).alloc _).alloc _) (St.cons (((BW.new _ _ [_, _] _ (by simp)).alloc _).alloc _) (St.cons ((BW.new _ _ [_, _] _ (by simp)).alloc _) (St.cons (BW.new _ _ [_, _, _, _, _] _ (by simp)) (St.nil (by repeat (first | exact Below.refl _ _ | assumption | refine Below.setCell ?_ (by first | omega | (simp; done) | (simp; omega)) _ | refine Below.alloc ?_ (by first | omega | (simp; done) | (simp; omega)) _ | refine below_drewN ?_ _ | refine Below.drew ?_ | refine Below.trans ?_ (Below.mono (by assumption) (by first | omega | (simp; done) | (simp; omega)))))))))) (fun W0 hS => ?_)
  have K0 := Lib.hid hS.drew
  clear hS
  go_cut [7] (fun t W => ArCut w A t W)
  case first =>
    refine wp_region_held_drew (S := fun W => (W.cell? ⟨w.heap.size, 0, none⟩ = some (.int .i64 ax) ∧ W.cell? ⟨w.heap.size, 1, none⟩ = some (.int .i64 ay)) ∧ (W.cell? ⟨w.heap.size + 1, 0, none⟩ = some (.int .i64 bx) ∧ W.cell? ⟨w.heap.size + 1, 1, none⟩ = some (.int .i64 by')) ∧ (W.cell? ⟨w.heap.size + 1 + 1, 0, none⟩ = some (.int .i64 px) ∧ W.cell? ⟨w.heap.size + 1 + 1, 1, none⟩ = some (.int .i64 py))) (by kernel_rfl) (dt_sv K0.out) (fun hHeld => ?_)
    generalize W0.drew = w0 at *
    refine wpAnyH_takeD 0 10 (v := ?_) (by kernel_rfl) (by kernel_rfl) (by kernel_rfl) (by kernel_rfl) (by rfl) (fun _ _ _ h => h) ?_ hHeld ?_
    rotate_left 1
    (intro o ho W hSw; simp only [List.getElem?_toArray, List.getElem?_cons_succ, List.getElem?_cons_zero, Option.some.injEq] at ho; subst ho; (try dsimp only at hSw); go_simp; try with_reducible rfl)
    (try simp only [Act.put, List.setIfInBounds_toArray, List.set_cons_zero, List.set_cons_succ])
    refine wpAnyH_takeD 1 11 (v := ?_) (by kernel_rfl) (by kernel_rfl) (by kernel_rfl) (by kernel_rfl) (by rfl) (fun _ _ _ h => h) ?_ hHeld ?_
    rotate_left 1
    (intro o ho W hSw; simp only [List.getElem?_toArray, List.getElem?_cons_succ, List.getElem?_cons_zero, Option.some.injEq] at ho; subst ho; (try dsimp only at hSw); go_simp; try with_reducible rfl)
    (try simp only [Act.put, List.setIfInBounds_toArray, List.set_cons_zero, List.set_cons_succ])
    refine wpAnyH_takeD 2 12 (v := ?_) (by kernel_rfl) (by kernel_rfl) (by kernel_rfl) (by kernel_rfl) (by rfl) (fun _ _ _ h => h) ?_ hHeld ?_
    rotate_left 1
    (intro o ho W hSw; simp only [List.getElem?_toArray, List.getElem?_cons_succ, List.getElem?_cons_zero, Option.some.injEq] at ho; subst ho; (try dsimp only at hSw); go_simp; try with_reducible rfl)
    (try simp only [Act.put, List.setIfInBounds_toArray, List.set_cons_zero, List.set_cons_succ])
    refine wpAnyH_takeD 3 13 (v := ?_) (by kernel_rfl) (by kernel_rfl) (by kernel_rfl) (by kernel_rfl) (by rfl) (fun _ _ _ h => h) ?_ hHeld ?_
    rotate_left 1
    (intro o ho W hSw; simp only [List.getElem?_toArray, List.getElem?_cons_succ, List.getElem?_cons_zero, Option.some.injEq] at ho; subst ho; (try dsimp only at hSw); go_simp; try with_reducible rfl)
    (try simp only [Act.put, List.setIfInBounds_toArray, List.set_cons_zero, List.set_cons_succ])
    refine wpAnyH_takeD 4 14 (v := ?_) (by kernel_rfl) (by kernel_rfl) (by kernel_rfl) (by kernel_rfl) (by rfl) (fun _ _ _ h => h) ?_ hHeld ?_
    rotate_left 1
    (intro o ho W hSw; simp only [List.getElem?_toArray, List.getElem?_cons_succ, List.getElem?_cons_zero, Option.some.injEq] at ho; subst ho; (try dsimp only at hSw); go_simp; try with_reducible rfl)
    (try simp only [Act.put, List.setIfInBounds_toArray, List.set_cons_zero, List.set_cons_succ])
    refine wpAnyH_takeD 5 15 (v := ?_) (by kernel_rfl) (by kernel_rfl) (by kernel_rfl) (by kernel_rfl) (by rfl) (fun _ _ _ h => h) ?_ hHeld ?_
    rotate_left 1
    (intro o ho W hSw; simp only [List.getElem?_toArray, List.getElem?_cons_succ, List.getElem?_cons_zero, Option.some.injEq] at ho; subst ho; (try dsimp only at hSw); go_simp; try with_reducible rfl)
    (try simp only [Act.put, List.setIfInBounds_toArray, List.set_cons_zero, List.set_cons_succ])
    refine wpAnyH_takeD 6 16 (v := ?_) (by kernel_rfl) (by kernel_rfl) (by kernel_rfl) (by kernel_rfl) (by rfl) (fun _ _ _ h => h) ?_ hHeld ?_
    rotate_left 1
    (intro o ho W hSw; simp only [List.getElem?_toArray, List.getElem?_cons_succ, List.getElem?_cons_zero, Option.some.injEq] at ho; subst ho; (try dsimp only at hSw); go_simp; try with_reducible rfl)
    (try simp only [Act.put, List.setIfInBounds_toArray, List.set_cons_zero, List.set_cons_succ])
    refine wpAnyH_takeD 7 17 (v := ?_) (by kernel_rfl) (by kernel_rfl) (by kernel_rfl) (by kernel_rfl) (by rfl) (fun _ _ _ h => h) ?_ hHeld ?_
    rotate_left 1
    (intro o ho W hSw; simp only [List.getElem?_toArray, List.getElem?_cons_succ, List.getElem?_cons_zero, Option.some.injEq] at ho; subst ho; (try dsimp only at hSw); go_simp; try with_reducible rfl)
    (try simp only [Act.put, List.setIfInBounds_toArray, List.set_cons_zero, List.set_cons_succ])
    refine wpAnyH_takeD 8 18 (v := ?_) (by kernel_rfl) (by kernel_rfl) (by kernel_rfl) (by kernel_rfl) (by rfl) (fun _ _ _ h => h) ?_ hHeld ?_
    rotate_left 1
    (intro o ho W hSw; simp only [List.getElem?_toArray, List.getElem?_cons_succ, List.getElem?_cons_zero, Option.some.injEq] at ho; subst ho; (try dsimp only at hSw); go_simp; try with_reducible rfl)
    (try simp only [Act.put, List.setIfInBounds_toArray, List.set_cons_zero, List.set_cons_succ])
    refine wpAnyH_takeD 9 19 (v := ?_) (by kernel_rfl) (by kernel_rfl) (by kernel_rfl) (by kernel_rfl) (by rfl) (fun _ _ _ h => h) ?_ hHeld ?_
    rotate_left 1
    (intro o ho W hSw; simp only [List.getElem?_toArray, List.getElem?_cons_succ, List.getElem?_cons_zero, Option.some.injEq] at ho; subst ho; (try dsimp only at hSw); go_simp; try with_reducible rfl)
    (try simp only [Act.put, List.setIfInBounds_toArray, List.set_cons_zero, List.set_cons_succ])
    refine wpAnyH_takeD 11 21 (v := ?_) (by kernel_rfl) (by kernel_rfl) (by kernel_rfl) (by kernel_rfl) (by rfl) (fun _ _ _ h => h) ?_ hHeld ?_
    rotate_left 1
    (intro o ho W hSw; simp only [List.getElem?_toArray, List.getElem?_cons_succ, List.getElem?_cons_zero, Option.some.injEq] at ho; subst ho; (try dsimp only at hSw); go_simp; try with_reducible rfl)
    (try simp only [Act.put, List.setIfInBounds_toArray, List.set_cons_zero, List.set_cons_succ])
    refine wpAnyH_takeD 12 22 (v := ?_) (by kernel_rfl) (by kernel_rfl) (by kernel_rfl) (by kernel_rfl) (by rfl) (fun _ _ _ h => h) ?_ hHeld ?_
    rotate_left 1
    (intro o ho W hSw; simp only [List.getElem?_toArray, List.getElem?_cons_succ, List.getElem?_cons_zero, Option.some.injEq] at ho; subst ho; (try dsimp only at hSw); go_simp; try with_reducible rfl)
    (try simp only [Act.put, List.setIfInBounds_toArray, List.set_cons_zero, List.set_cons_succ])
    refine wpAnyH_takeD 13 23 (v := ?_) (by kernel_rfl) (by kernel_rfl) (by kernel_rfl) (by kernel_rfl) (by rfl) (fun _ _ _ h => h) ?_ hHeld ?_
    rotate_left 1
    (intro o ho W hSw; simp only [List.getElem?_toArray, List.getElem?_cons_succ, List.getElem?_cons_zero, Option.some.injEq] at ho; subst ho; (try dsimp only at hSw); go_simp; try with_reducible rfl)
    (try simp only [Act.put, List.setIfInBounds_toArray, List.set_cons_zero, List.set_cons_succ])
    refine wpAnyH_takeD 14 24 (v := ?_) (by kernel_rfl) (by kernel_rfl) (by kernel_rfl) (by kernel_rfl) (by rfl) (fun _ _ _ h => h) ?_ hHeld ?_
    rotate_left 1
    (intro o ho W hSw; simp only [List.getElem?_toArray, List.getElem?_cons_succ, List.getElem?_cons_zero, Option.some.injEq] at ho; subst ho; (try dsimp only at hSw); go_simp; try with_reducible rfl)
    (try simp only [Act.put, List.setIfInBounds_toArray, List.set_cons_zero, List.set_cons_succ])
    refine wpAnyH_takeD 15 25 (v := ?_) (by kernel_rfl) (by kernel_rfl) (by kernel_rfl) (by kernel_rfl) (by rfl) (fun _ _ _ h => h) ?_ hHeld ?_
    rotate_left 1
    (intro o ho W hSw; simp only [List.getElem?_toArray, List.getElem?_cons_succ, List.getElem?_cons_zero, Option.some.injEq] at ho; subst ho; (try dsimp only at hSw); go_simp; try with_reducible rfl)
    (try simp only [Act.put, List.setIfInBounds_toArray, List.set_cons_zero, List.set_cons_succ])
    refine wpAnyH_takeD 16 26 (v := ?_) (by kernel_rfl) (by kernel_rfl) (by kernel_rfl) (by kernel_rfl) (by rfl) (fun _ _ _ h => h) ?_ hHeld ?_
    rotate_left 1
    (intro o ho W hSw; simp only [List.getElem?_toArray, List.getElem?_cons_succ, List.getElem?_cons_zero, Option.some.injEq] at ho; subst ho; (try dsimp only at hSw); go_simp; try with_reducible rfl)
    (try simp only [Act.put, List.setIfInBounds_toArray, List.set_cons_zero, List.set_cons_succ])
    refine wpAnyH_takeD 17 27 (v := ?_) (by kernel_rfl) (by kernel_rfl) (by kernel_rfl) (by kernel_rfl) (by rfl) (fun _ _ _ h => h) ?_ hHeld ?_
    rotate_left 1
    (intro o ho W hSw; simp only [List.getElem?_toArray, List.getElem?_cons_succ, List.getElem?_cons_zero, Option.some.injEq] at ho; subst ho; (try dsimp only at hSw); go_simp; try with_reducible rfl)
    (try simp only [Act.put, List.setIfInBounds_toArray, List.set_cons_zero, List.set_cons_succ])
    refine wpAnyH_takeD 18 28 (v := ?_) (by kernel_rfl) (by kernel_rfl) (by kernel_rfl) (by kernel_rfl) (by rfl) (fun _ _ _ h => h) ?_ hHeld ?_
    rotate_left 1
    (intro o ho W hSw; simp only [List.getElem?_toArray, List.getElem?_cons_succ, List.getElem?_cons_zero, Option.some.injEq] at ho; subst ho; (try dsimp only at hSw); go_simp; try with_reducible rfl)
    (try simp only [Act.put, List.setIfInBounds_toArray, List.set_cons_zero, List.set_cons_succ])
    refine wpAnyH_takeD 19 29 (v := ?_) (by kernel_rfl) (by kernel_rfl) (by kernel_rfl) (by kernel_rfl) (by rfl) (fun _ _ _ h => h) ?_ hHeld ?_
    rotate_left 1
    (intro o ho W hSw; simp only [List.getElem?_toArray, List.getElem?_cons_succ, List.getElem?_cons_zero, Option.some.injEq] at ho; subst ho; (try dsimp only at hSw); go_simp; try with_reducible rfl)
    (try simp only [Act.put, List.setIfInBounds_toArray, List.set_cons_zero, List.set_cons_succ])
    refine wpAnyH_takeD 20 30 (v := ?_) (by kernel_rfl) (by kernel_rfl) (by kernel_rfl) (by kernel_rfl) (by rfl) (fun _ _ _ h => h) ?_ hHeld ?_
    rotate_left 1
    (intro o ho W hSw; simp only [List.getElem?_toArray, List.getElem?_cons_succ, List.getElem?_cons_zero, Option.some.injEq] at ho; subst ho; (try dsimp only at hSw); go_simp; try with_reducible rfl)
    (try simp only [Act.put, List.setIfInBounds_toArray, List.set_cons_zero, List.set_cons_succ])
    rw [U.out.1, U.out.2.1, U.out.2.2.1, U.out.2.2.2]
    refine wpAnyH_twoD 10 26 (by kernel_rfl) (fun o ho K hK => ?_) (fun o ho K hK => ?_) (by kernel_rfl) (by kernel_rfl)
    · skip
      simp only [List.getElem?_toArray, List.getElem?_cons_succ, List.getElem?_cons_zero, Option.some.injEq] at ho
      subst ho
      go_simp
      refine (X1.out _).mono ?_
      rintro e w1 ⟨rfl, h⟩
      have K1 := Lib.hid (K0.out.step h)
      (try have V1 := Lib.hid (V0.out.below h V0.out.lt))
      go_wp2_with fail
      refine hK.out _ _ (dt_sv K1.out) ?_
      clear hK K hHeld
      intro hHeld
      clear h K0
      (try clear V0)
      refine wpAnyH_twoD 21 26 (by kernel_rfl) (fun o ho K hK => ?_) (fun o ho K hK => ?_) (by kernel_rfl) (by kernel_rfl)
      · skip
        simp only [List.getElem?_toArray, List.getElem?_cons_succ, List.getElem?_cons_zero, Option.some.injEq] at ho
        subst ho
        go_simp
        refine (X2.out _).mono ?_
        rintro e w2 ⟨rfl, h⟩
        have K2 := Lib.hid (K1.out.step h)
        (try have V2 := Lib.hid (V1.out.below h V1.out.lt))
        go_wp2_with fail
        refine hK.out _ _ (dt_sv K2.out) ?_
        clear hK K hHeld
        intro hHeld
        clear h K1
        (try clear V1)
        refine wpAnyH_twoD 22 26 (by kernel_rfl) (fun o ho K hK => ?_) (fun o ho K hK => ?_) (by kernel_rfl) (by kernel_rfl)
        · skip
          simp only [List.getElem?_toArray, List.getElem?_cons_succ, List.getElem?_cons_zero, Option.some.injEq] at ho
          subst ho
          go_simp
          refine (X4.out _).mono ?_
          rintro e w3 ⟨rfl, h⟩
          have K3 := Lib.hid (K2.out.step h)
          (try have V3 := Lib.hid (V2.out.below h V2.out.lt))
          go_wp2_with fail
          refine hK.out _ _ (dt_sv K3.out) ?_
          clear hK K hHeld
          intro hHeld
          clear h K2
          (try clear V2)
          refine wpAnyH_takeD 23 9 (v := ?_) (by kernel_rfl) (by kernel_rfl) (by kernel_rfl) (by kernel_rfl) (by rfl) (fun _ _ _ h => h) ?_ hHeld ?_
          rotate_left 1
          (intro o ho W hSw; simp only [List.getElem?_toArray, List.getElem?_cons_succ, List.getElem?_cons_zero, Option.some.injEq] at ho; subst ho; (try dsimp only at hSw); go_simp; try with_reducible rfl)
          (try simp only [Act.put, List.setIfInBounds_toArray, List.set_cons_zero, List.set_cons_succ])
          refine wpAnyH_takeD 24 33 (v := ?_) (by kernel_rfl) (by kernel_rfl) (by kernel_rfl) (by kernel_rfl) (by rfl) (fun _ _ _ h => h) ?_ hHeld ?_
          rotate_left 1
          (intro o ho W hSw; simp only [List.getElem?_toArray, List.getElem?_cons_succ, List.getElem?_cons_zero, Option.some.injEq] at ho; subst ho; (try dsimp only at hSw); go_simp; try with_reducible rfl)
          (try simp only [Act.put, List.setIfInBounds_toArray, List.set_cons_zero, List.set_cons_succ])
          refine wpAnyH_takeD 25 34 (v := ?_) (by kernel_rfl) (by kernel_rfl) (by kernel_rfl) (by kernel_rfl) (by rfl) (fun _ _ _ h => h) ?_ hHeld ?_
          rotate_left 1
          (intro o ho W hSw; simp only [List.getElem?_toArray, List.getElem?_cons_succ, List.getElem?_cons_zero, Option.some.injEq] at ho; subst ho; (try dsimp only at hSw); go_simp; try with_reducible rfl)
          (try simp only [Act.put, List.setIfInBounds_toArray, List.set_cons_zero, List.set_cons_succ])
          refine wpAnyH_onlyD 26 (by kernel_rfl) (fun o ho K hK => ?_) (by kernel_rfl)
          simp only [List.getElem?_toArray, List.getElem?_cons_succ, List.getElem?_cons_zero, Option.some.injEq] at ho
          subst ho
          go_simp
          refine hK.out _ _ (dt_sv (K3.out.alloc _)) ?_
          clear hK K hHeld
          intro hHeld
          have K4 := Lib.hid (K3.out.alloc (.cells #[.bool false, .int .u64 0, .int .u64 0, .int .u64 0, .int .u64 0] 48))
          have V4 := Lib.hid (BW.new w3 w3.heap.size [.bool false, .int .u64 0, .int .u64 0, .int .u64 0, .int .u64 0] 48 rfl)
          have hne := ar_ne K3.out
          have hr4 : w.heap.size + 1 + 1 + 1 < w3.heap.size := (dt_r K3.out).lt
          have hz4 : w.heap.size ≤ w3.heap.size := K3.out.l.size
          clear K3
          generalize w3.alloc (.cells #[.bool false, .int .u64 0, .int .u64 0, .int .u64 0, .int .u64 0] 48) = wa at *
          generalize w3.heap.size = n4 at *
          have v0 := V4.out.c 0 _ rfl
          have v1 := V4.out.c 1 _ rfl
          have v2 := V4.out.c 2 _ rfl
          have v3 := V4.out.c 3 _ rfl
          have v4 := V4.out.c 4 _ rfl
          have vf := V4.out.f
          refine wpAnyH_onlyD 27 (by kernel_rfl) (fun o ho K hK => ?_) (by kernel_rfl)
          simp only [List.getElem?_toArray, List.getElem?_cons_succ, List.getElem?_cons_zero, Option.some.injEq] at ho
          subst ho
          go_simp
          refine hK.out _ _ (dt_sv (K4.out.far5 (by omega) hne _ _ _ _ _)) ?_
          clear hK K hHeld
          intro hHeld
          refine wpAnyH_takeD 28 8 (v := ?_) (by kernel_rfl) (by kernel_rfl) (by kernel_rfl) (by kernel_rfl) (by rfl) (fun _ _ _ h => h) ?_ hHeld ?_
          rotate_left 1
          (intro o ho W hSw; simp only [List.getElem?_toArray, List.getElem?_cons_succ, List.getElem?_cons_zero, Option.some.injEq] at ho; subst ho; (try dsimp only at hSw); go_simp; try with_reducible rfl)
          (try simp only [Act.put, List.setIfInBounds_toArray, List.set_cons_zero, List.set_cons_succ])
          refine wpAnyH_done (by kernel_rfl) ?_ _
          go_wp2_with fail
          go_meet
          exact ⟨_, rfl, V4.out.put5 _ _ _ _ _, (dt_r K4.out).far5 (by omega) _ _ _ _ _, below_put5 K4.out.l (by omega) _ _ _ _ _⟩
        · skip
          simp only [List.getElem?_toArray, List.getElem?_cons_succ, List.getElem?_cons_zero, Option.some.injEq] at ho
          subst ho
          go_simp
          refine hK.out _ _ (dt_sv (K2.out.alloc _)) ?_
          clear hK K hHeld
          intro hHeld
          have K3 := Lib.hid (K2.out.alloc (.cells #[.bool false, .int .u64 0, .int .u64 0, .int .u64 0, .int .u64 0] 48))
          have V3 := Lib.hid (BW.new w2 w2.heap.size [.bool false, .int .u64 0, .int .u64 0, .int .u64 0, .int .u64 0] 48 rfl)
          have hne := ar_ne K2.out
          have hr4 : w.heap.size + 1 + 1 + 1 < w2.heap.size := (dt_r K2.out).lt
          have hz4 : w.heap.size ≤ w2.heap.size := K2.out.l.size
          clear K2
          generalize w2.alloc (.cells #[.bool false, .int .u64 0, .int .u64 0, .int .u64 0, .int .u64 0] 48) = wa at *
          generalize w2.heap.size = n4 at *
          refine wpAnyH_onlyD 22 (by kernel_rfl) (fun o ho K hK => ?_) (by kernel_rfl)
          simp only [List.getElem?_toArray, List.getElem?_cons_succ, List.getElem?_cons_zero, Option.some.injEq] at ho
          subst ho
          go_simp
          refine (X4.out _).mono ?_
          rintro e w4 ⟨rfl, h⟩
          have K4 := Lib.hid (K3.out.step h)
          (try have V4 := Lib.hid (V3.out.below h V3.out.lt))
          go_wp2_with fail
          refine hK.out _ _ (dt_sv K4.out) ?_
          clear hK K hHeld
          intro hHeld
          clear h K3
          (try clear V3)
          refine wpAnyH_takeD 23 9 (v := ?_) (by kernel_rfl) (by kernel_rfl) (by kernel_rfl) (by kernel_rfl) (by rfl) (fun _ _ _ h => h) ?_ hHeld ?_
          rotate_left 1
          (intro o ho W hSw; simp only [List.getElem?_toArray, List.getElem?_cons_succ, List.getElem?_cons_zero, Option.some.injEq] at ho; subst ho; (try dsimp only at hSw); go_simp; try with_reducible rfl)
          (try simp only [Act.put, List.setIfInBounds_toArray, List.set_cons_zero, List.set_cons_succ])
          refine wpAnyH_takeD 24 33 (v := ?_) (by kernel_rfl) (by kernel_rfl) (by kernel_rfl) (by kernel_rfl) (by rfl) (fun _ _ _ h => h) ?_ hHeld ?_
          rotate_left 1
          (intro o ho W hSw; simp only [List.getElem?_toArray, List.getElem?_cons_succ, List.getElem?_cons_zero, Option.some.injEq] at ho; subst ho; (try dsimp only at hSw); go_simp; try with_reducible rfl)
          (try simp only [Act.put, List.setIfInBounds_toArray, List.set_cons_zero, List.set_cons_succ])
          refine wpAnyH_takeD 25 34 (v := ?_) (by kernel_rfl) (by kernel_rfl) (by kernel_rfl) (by kernel_rfl) (by rfl) (fun _ _ _ h => h) ?_ hHeld ?_
          rotate_left 1
          (intro o ho W hSw; simp only [List.getElem?_toArray, List.getElem?_cons_succ, List.getElem?_cons_zero, Option.some.injEq] at ho; subst ho; (try dsimp only at hSw); go_simp; try with_reducible rfl)
          (try simp only [Act.put, List.setIfInBounds_toArray, List.set_cons_zero, List.set_cons_succ])
          have v0 := V4.out.c 0 _ rfl
          have v1 := V4.out.c 1 _ rfl
          have v2 := V4.out.c 2 _ rfl
          have v3 := V4.out.c 3 _ rfl
          have v4 := V4.out.c 4 _ rfl
          have vf := V4.out.f
          refine wpAnyH_onlyD 27 (by kernel_rfl) (fun o ho K hK => ?_) (by kernel_rfl)
          simp only [List.getElem?_toArray, List.getElem?_cons_succ, List.getElem?_cons_zero, Option.some.injEq] at ho
          subst ho
          go_simp
          refine hK.out _ _ (dt_sv (K4.out.far5 (by omega) hne _ _ _ _ _)) ?_
          clear hK K hHeld
          intro hHeld
          refine wpAnyH_takeD 28 8 (v := ?_) (by kernel_rfl) (by kernel_rfl) (by kernel_rfl) (by kernel_rfl) (by rfl) (fun _ _ _ h => h) ?_ hHeld ?_
          rotate_left 1
          (intro o ho W hSw; simp only [List.getElem?_toArray, List.getElem?_cons_succ, List.getElem?_cons_zero, Option.some.injEq] at ho; subst ho; (try dsimp only at hSw); go_simp; try with_reducible rfl)
          (try simp only [Act.put, List.setIfInBounds_toArray, List.set_cons_zero, List.set_cons_succ])
          refine wpAnyH_done (by kernel_rfl) ?_ _
          go_wp2_with fail
          go_meet
          exact ⟨_, rfl, V4.out.put5 _ _ _ _ _, (dt_r K4.out).far5 (by omega) _ _ _ _ _, below_put5 K4.out.l (by omega) _ _ _ _ _⟩
      · skip
        simp only [List.getElem?_toArray, List.getElem?_cons_succ, List.getElem?_cons_zero, Option.some.injEq] at ho
        subst ho
        go_simp
        refine hK.out _ _ (dt_sv (K1.out.alloc _)) ?_
        clear hK K hHeld
        intro hHeld
        have K2 := Lib.hid (K1.out.alloc (.cells #[.bool false, .int .u64 0, .int .u64 0, .int .u64 0, .int .u64 0] 48))
        have V2 := Lib.hid (BW.new w1 w1.heap.size [.bool false, .int .u64 0, .int .u64 0, .int .u64 0, .int .u64 0] 48 rfl)
        have hne := ar_ne K1.out
        have hr4 : w.heap.size + 1 + 1 + 1 < w1.heap.size := (dt_r K1.out).lt
        have hz4 : w.heap.size ≤ w1.heap.size := K1.out.l.size
        clear K1
        generalize w1.alloc (.cells #[.bool false, .int .u64 0, .int .u64 0, .int .u64 0, .int .u64 0] 48) = wa at *
        generalize w1.heap.size = n4 at *
        refine wpAnyH_onlyD 21 (by kernel_rfl) (fun o ho K hK => ?_) (by kernel_rfl)
        simp only [List.getElem?_toArray, List.getElem?_cons_succ, List.getElem?_cons_zero, Option.some.injEq] at ho
        subst ho
        go_simp
        refine (X2.out _).mono ?_
        rintro e w3 ⟨rfl, h⟩
        have K3 := Lib.hid (K2.out.step h)
        (try have V3 := Lib.hid (V2.out.below h V2.out.lt))
        go_wp2_with fail
        refine hK.out _ _ (dt_sv K3.out) ?_
        clear hK K hHeld
        intro hHeld
        clear h K2
        (try clear V2)
        refine wpAnyH_onlyD 22 (by kernel_rfl) (fun o ho K hK => ?_) (by kernel_rfl)
        simp only [List.getElem?_toArray, List.getElem?_cons_succ, List.getElem?_cons_zero, Option.some.injEq] at ho
        subst ho
        go_simp
        refine (X4.out _).mono ?_
        rintro e w4 ⟨rfl, h⟩
        have K4 := Lib.hid (K3.out.step h)
        (try have V4 := Lib.hid (V3.out.below h V3.out.lt))
        go_wp2_with fail
        refine hK.out _ _ (dt_sv K4.out) ?_
        clear hK K hHeld
        intro hHeld
        clear h K3
        (try clear V3)
        refine wpAnyH_takeD 23 9 (v := ?_) (by kernel_rfl) (by kernel_rfl) (by kernel_rfl) (by kernel_rfl) (by rfl) (fun _ _ _ h => h) ?_ hHeld ?_
        rotate_left 1
        (intro o ho W hSw; simp only [List.getElem?_toArray, List.getElem?_cons_succ, List.getElem?_cons_zero, Option.some.injEq] at ho; subst ho; (try dsimp only at hSw); go_simp; try with_reducible rfl)
        (try simp only [Act.put, List.setIfInBounds_toArray, List.set_cons_zero, List.set_cons_succ])
        refine wpAnyH_takeD 24 33 (v := ?_) (by kernel_rfl) (by kernel_rfl) (by kernel_rfl) (by kernel_rfl) (by rfl) (fun _ _ _ h => h) ?_ hHeld ?_
        rotate_left 1
        (intro o ho W hSw; simp only [List.getElem?_toArray, List.getElem?_cons_succ, List.getElem?_cons_zero, Option.some.injEq] at ho; subst ho; (try dsimp only at hSw); go_simp; try with_reducible rfl)
        (try simp only [Act.put, List.setIfInBounds_toArray, List.set_cons_zero, List.set_cons_succ])
        refine wpAnyH_takeD 25 34 (v := ?_) (by kernel_rfl) (by kernel_rfl) (by kernel_rfl) (by kernel_rfl) (by rfl) (fun _ _ _ h => h) ?_ hHeld ?_
        rotate_left 1
        (intro o ho W hSw; simp only [List.getElem?_toArray, List.getElem?_cons_succ, List.getElem?_cons_zero, Option.some.injEq] at ho; subst ho; (try dsimp only at hSw); go_simp; try with_reducible rfl)
        (try simp only [Act.put, List.setIfInBounds_toArray, List.set_cons_zero, List.set_cons_succ])
        have v0 := V4.out.c 0 _ rfl
        have v1 := V4.out.c 1 _ rfl
        have v2 := V4.out.c 2 _ rfl
        have v3 := V4.out.c 3 _ rfl
        have v4 := V4.out.c 4 _ rfl
        have vf := V4.out.f
        refine wpAnyH_onlyD 27 (by kernel_rfl) (fun o ho K hK => ?_) (by kernel_rfl)
        simp only [List.getElem?_toArray, List.getElem?_cons_succ, List.getElem?_cons_zero, Option.some.injEq] at ho
        subst ho
        go_simp
        refine hK.out _ _ (dt_sv (K4.out.far5 (by omega) hne _ _ _ _ _)) ?_
        clear hK K hHeld
        intro hHeld
        refine wpAnyH_takeD 28 8 (v := ?_) (by kernel_rfl) (by kernel_rfl) (by kernel_rfl) (by kernel_rfl) (by rfl) (fun _ _ _ h => h) ?_ hHeld ?_
        rotate_left 1
        (intro o ho W hSw; simp only [List.getElem?_toArray, List.getElem?_cons_succ, List.getElem?_cons_zero, Option.some.injEq] at ho; subst ho; (try dsimp only at hSw); go_simp; try with_reducible rfl)
        (try simp only [Act.put, List.setIfInBounds_toArray, List.set_cons_zero, List.set_cons_succ])
        refine wpAnyH_done (by kernel_rfl) ?_ _
        go_wp2_with fail
        go_meet
        exact ⟨_, rfl, V4.out.put5 _ _ _ _ _, (dt_r K4.out).far5 (by omega) _ _ _ _ _, below_put5 K4.out.l (by omega) _ _ _ _ _⟩
    · skip
      simp only [List.getElem?_toArray, List.getElem?_cons_succ, List.getElem?_cons_zero, Option.some.injEq] at ho
      subst ho
      go_simp
      refine hK.out _ _ (dt_sv (K0.out.alloc _)) ?_
      clear hK K hHeld
      intro hHeld
      have K1 := Lib.hid (K0.out.alloc (.cells #[.bool false, .int .u64 0, .int .u64 0, .int .u64 0, .int .u64 0] 48))
      have V1 := Lib.hid (BW.new w0 w0.heap.size [.bool false, .int .u64 0, .int .u64 0, .int .u64 0, .int .u64 0] 48 rfl)
      have hne := ar_ne K0.out
      have hr4 : w.heap.size + 1 + 1 + 1 < w0.heap.size := (dt_r K0.out).lt
      have hz4 : w.heap.size ≤ w0.heap.size := K0.out.l.size
      clear K0
      generalize w0.alloc (.cells #[.bool false, .int .u64 0, .int .u64 0, .int .u64 0, .int .u64 0] 48) = wa at *
      generalize w0.heap.size = n4 at *
      refine wpAnyH_onlyD 10 (by kernel_rfl) (fun o ho K hK => ?_) (by kernel_rfl)
      simp only [List.getElem?_toArray, List.getElem?_cons_succ, List.getElem?_cons_zero, Option.some.injEq] at ho
      subst ho
      go_simp
      refine (X1.out _).mono ?_
      rintro e w2 ⟨rfl, h⟩
      have K2 := Lib.hid (K1.out.step h)
      (try have V2 := Lib.hid (V1.out.below h V1.out.lt))
      go_wp2_with fail
      refine hK.out _ _ (dt_sv K2.out) ?_
      clear hK K hHeld
      intro hHeld
      clear h K1
      (try clear V1)
      refine wpAnyH_onlyD 21 (by kernel_rfl) (fun o ho K hK => ?_) (by kernel_rfl)
      simp only [List.getElem?_toArray, List.getElem?_cons_succ, List.getElem?_cons_zero, Option.some.injEq] at ho
      subst ho
      go_simp
      refine (X2.out _).mono ?_
      rintro e w3 ⟨rfl, h⟩
      have K3 := Lib.hid (K2.out.step h)
      (try have V3 := Lib.hid (V2.out.below h V2.out.lt))
      go_wp2_with fail
      refine hK.out _ _ (dt_sv K3.out) ?_
      clear hK K hHeld
      intro hHeld
      clear h K2
      (try clear V2)
      refine wpAnyH_onlyD 22 (by kernel_rfl) (fun o ho K hK => ?_) (by kernel_rfl)
      simp only [List.getElem?_toArray, List.getElem?_cons_succ, List.getElem?_cons_zero, Option.some.injEq] at ho
      subst ho
      go_simp
      refine (X4.out _).mono ?_
      rintro e w4 ⟨rfl, h⟩
      have K4 := Lib.hid (K3.out.step h)
      (try have V4 := Lib.hid (V3.out.below h V3.out.lt))
      go_wp2_with fail
      refine hK.out _ _ (dt_sv K4.out) ?_
      clear hK K hHeld
      intro hHeld
      clear h K3
      (try clear V3)
      refine wpAnyH_takeD 23 9 (v := ?_) (by kernel_rfl) (by kernel_rfl) (by kernel_rfl) (by kernel_rfl) (by rfl) (fun _ _ _ h => h) ?_ hHeld ?_
      rotate_left 1
      (intro o ho W hSw; simp only [List.getElem?_toArray, List.getElem?_cons_succ, List.getElem?_cons_zero, Option.some.injEq] at ho; subst ho; (try dsimp only at hSw); go_simp; try with_reducible rfl)
      (try simp only [Act.put, List.setIfInBounds_toArray, List.set_cons_zero, List.set_cons_succ])
      refine wpAnyH_takeD 24 33 (v := ?_) (by kernel_rfl) (by kernel_rfl) (by kernel_rfl) (by kernel_rfl) (by rfl) (fun _ _ _ h => h) ?_ hHeld ?_
      rotate_left 1
      (intro o ho W hSw; simp only [List.getElem?_toArray, List.getElem?_cons_succ, List.getElem?_cons_zero, Option.some.injEq] at ho; subst ho; (try dsimp only at hSw); go_simp; try with_reducible rfl)
      (try simp only [Act.put, List.setIfInBounds_toArray, List.set_cons_zero, List.set_cons_succ])
      refine wpAnyH_takeD 25 34 (v := ?_) (by kernel_rfl) (by kernel_rfl) (by kernel_rfl) (by kernel_rfl) (by rfl) (fun _ _ _ h => h) ?_ hHeld ?_
      rotate_left 1
      (intro o ho W hSw; simp only [List.getElem?_toArray, List.getElem?_cons_succ, List.getElem?_cons_zero, Option.some.injEq] at ho; subst ho; (try dsimp only at hSw); go_simp; try with_reducible rfl)
      (try simp only [Act.put, List.setIfInBounds_toArray, List.set_cons_zero, List.set_cons_succ])
      have v0 := V4.out.c 0 _ rfl
      have v1 := V4.out.c 1 _ rfl
      have v2 := V4.out.c 2 _ rfl
      have v3 := V4.out.c 3 _ rfl
      have v4 := V4.out.c 4 _ rfl
      have vf := V4.out.f
      refine wpAnyH_onlyD 27 (by kernel_rfl) (fun o ho K hK => ?_) (by kernel_rfl)
      simp only [List.getElem?_toArray, List.getElem?_cons_succ, List.getElem?_cons_zero, Option.some.injEq] at ho
      subst ho
      go_simp
      refine hK.out _ _ (dt_sv (K4.out.far5 (by omega) hne _ _ _ _ _)) ?_
      clear hK K hHeld
      intro hHeld
      refine wpAnyH_takeD 28 8 (v := ?_) (by kernel_rfl) (by kernel_rfl) (by kernel_rfl) (by kernel_rfl) (by rfl) (fun _ _ _ h => h) ?_ hHeld ?_
      rotate_left 1
      (intro o ho W hSw; simp only [List.getElem?_toArray, List.getElem?_cons_succ, List.getElem?_cons_zero, Option.some.injEq] at ho; subst ho; (try dsimp only at hSw); go_simp; try with_reducible rfl)
      (try simp only [Act.put, List.setIfInBounds_toArray, List.set_cons_zero, List.set_cons_succ])
      refine wpAnyH_done (by kernel_rfl) ?_ _
      go_wp2_with fail
      go_meet
      exact ⟨_, rfl, V4.out.put5 _ _ _ _ _, (dt_r K4.out).far5 (by omega) _ _ _ _ _, below_put5 K4.out.l (by omega) _ _ _ _ _⟩
  case rest =>
    obtain ⟨n4, rfl, HV, HR, HL⟩ := hcut
    clear K0 X1 X2 X4
    obtain ⟨v0, v1, v2, v3, v4⟩ := HV.h5
    have hv := HV.lt
    have R0 := Lib.hid HR
    have LL := Lib.hid HL
    obtain ⟨r0, r1, r2, r3, r4⟩ := HR.h5
    have rf := HR.f
    clear HV HR HL
    go_wp2
    exact bodyPost_ret (v := .agg #[.bool (decide (A < 0)), .int .u64 (d0 (A.natAbs)), .int .u64 (d1 (A.natAbs)), .int .u64 (d2 (A.natAbs)), .int .u64 (d3 (A.natAbs))]) (by simp [results, Try.results39, go_sem, r0, r1, r2, r3, r4]) rfl ⟨rfl, below_put5 LL.out (by omega) _ _ _ _ _⟩
end Go.Proofs.Ytmfmdipejlnmfaa
