/- The program's plane: area, dot, beside, Side. -/
import Derived.Test.YtmfmdipejlnmfaaNy
namespace Go.Proofs.Ytmfmdipejlnmfaa
open Go.RowKit
set_option linter.unusedVariables false
set_option linter.unusedSimpArgs false

/-- the blocks of three points -/
def PaL (w : World) (ax ay bx by' px py : Int) : List (Nat × List Value) := [(w.heap.size, [.int .i64 ax, .int .i64 ay]), (w.heap.size + 1, [.int .i64 bx, .int .i64 by']), (w.heap.size + 1 + 1, [.int .i64 px, .int .i64 py])]
theorem pa_sv {w W : World} {ax ay bx by' px py : Int} (k : St w W (PaL w ax ay bx by' px py)) : (W.cell? ⟨w.heap.size, 0, none⟩ = some (.int .i64 ax) ∧ W.cell? ⟨w.heap.size, 1, none⟩ = some (.int .i64 ay)) ∧ (W.cell? ⟨w.heap.size + 1, 0, none⟩ = some (.int .i64 bx) ∧ W.cell? ⟨w.heap.size + 1, 1, none⟩ = some (.int .i64 by')) ∧ (W.cell? ⟨w.heap.size + 1 + 1, 0, none⟩ = some (.int .i64 px) ∧ W.cell? ⟨w.heap.size + 1 + 1, 1, none⟩ = some (.int .i64 py)) :=
  ⟨(k.b _ _ (by unfold PaL; simp)).h2', (k.b _ _ (by unfold PaL; simp)).h2', (k.b _ _ (by unfold PaL; simp)).h2'⟩
theorem pa_lt {w W : World} {ax ay bx by' px py : Int} (k : St w W (PaL w ax ay bx by' px py)) : w.heap.size + 1 + 1 < W.heap.size := (k.b (w.heap.size + 1 + 1) [.int .i64 px, .int .i64 py] (by unfold PaL; simp)).lt
theorem pa_new {w : World} {ax ay bx by' px py : Int} {W : World} (h0 : BW W w.heap.size [.int .i64 ax, .int .i64 ay]) (h1 : BW W (w.heap.size + 1) [.int .i64 bx, .int .i64 by']) (h2 : BW W (w.heap.size + 1 + 1) [.int .i64 px, .int .i64 py]) (h : Below w.heap.size w W) : St w W (PaL w ax ay bx by' px py) :=
  St.cons h0 (St.cons h1 (St.cons h2 (St.nil h)))
theorem pa_far {w W : World} {ax ay bx by' px py : Int} (k : St w W (PaL w ax ay bx by' px py)) {r : Nat} (h : w.heap.size + 1 + 1 < r) (u0 u1 : Value) : St w ((W.setCell ⟨r, 0, none⟩ u0).setCell ⟨r, 1, none⟩ u1) (PaL w ax ay bx by' px py) := by
  have n : ∀ m q, (m, q) ∈ PaL w ax ay bx by' px py → r ≠ m := fun m q e => by
    unfold PaL at e; simp at e; rcases e with e | e | e <;> (have := e.1; omega)
  exact (k.far (by omega) n 0 u0).far (by omega) n 1 u1
theorem fits_u {x y : Int} (h1 : Rg x) (h2 : Rg y) : IntKind.i64.wrap (y - x) = y - x := IntWalk.i64_in _ (by unfold Rg at *; omega)
theorem fits_b {x y : Int} (h1 : Rg x) (h2 : Rg y) : -9223372036854775808 ≤ y - x ∧ y - x ≤ 9223372036854775807 := by unfold Rg at *; omega
set_option maxRecDepth 100000 in
set_option maxHeartbeats 4000000 in
theorem plArea_any (ax ay bx by' px py A : Int) (w : World) (h1 : Rg ax) (h2 : Rg ay) (h3 : Rg bx) (h4 : Rg by') (h5 : Rg px) (h6 : Rg py) (hA : area ⟨ax, ay⟩ ⟨bx, by'⟩ ⟨px, py⟩ = A) :
    Calls Try.prog 21 #[.agg #[.int .i64 ax, .int .i64 ay], .agg #[.int .i64 bx, .int .i64 by'], .agg #[.int .i64 px, .int .i64 py]] w fun e w' => e = .returned (.agg #[.int .i64 (hiW A), .int .u64 (loW A)]) ∧ Below w.heap.size w w' := by
  obtain ⟨f1, f2, f3, f4, f5⟩ := area_fit h1 h2 h3 h4 h5 h6
  have X1 := Lib.hid (fun (W : World) => plProduct_any (bx - ax) (py - ay) _ W rfl (fits_b h1 h3).1 (fits_b h1 h3).2 (fits_b h2 h6).1 (fits_b h2 h6).2)
  have X2 := Lib.hid (fun (W : World) => plProduct_any (by' - ay) (px - ax) _ W rfl (fits_b h2 h4).1 (fits_b h2 h4).2 (fits_b h1 h5).1 (fits_b h1 h5).2)
  have X4 := Lib.hid (fun (W : World) => plMinus_any ((bx - ax) * (py - ay)) ((by' - ay) * (px - ax)) A W f1 f2 f3 hA (hA ▸ f5))
  have U := Lib.hid (And.intro (fits_u h1 h3) (And.intro (fits_u h2 h6) (And.intro (fits_u h2 h4) (fits_u h1 h5))))
  generalize (bx - ax) * (py - ay) = k at *
  generalize (by' - ay) * (px - ax) = m at *
  clear f1 f2 f3 f4 f5 hA h1 h2 h3 h4 h5 h6
  go_enter Try.func21, Try.ntmps21
  go_wp2_with fail
  refine wp_gen (S := fun W => St w W (PaL w ax ay bx by' px py) ∧ BW W (w.heap.size + 1 + 1 + 1) [.int .i64 0, .int .u64 0])
    ⟨pa_new ((((BW.new w w.heap.size [_, _] _ rfl).alloc _).alloc _).alloc _) (((BW.new _ _ [_, _] _ (by simp)).alloc _).alloc _) ((BW.new _ _ [_, _] _ (by simp)).alloc _) (by repeat (first | exact Below.refl _ _ | assumption | refine Below.setCell ?_ (by first | omega | (simp; done) | (simp; omega)) _ | refine Below.alloc ?_ (by first | omega | (simp; done) | (simp; omega)) _ | refine below_drewN ?_ _ | refine Below.drew ?_ | refine Below.trans ?_ (Below.mono (by assumption) (by first | omega | (simp; done) | (simp; omega))))), BW.new _ _ [_, _] _ (by simp)⟩ (fun W0 hS => ?_)
  have K0 := Lib.hid hS.1.drew
  have V0 := Lib.hid hS.2.drew
  clear hS
  refine wp_region_held_drew (S := fun W => (W.cell? ⟨w.heap.size, 0, none⟩ = some (.int .i64 ax) ∧ W.cell? ⟨w.heap.size, 1, none⟩ = some (.int .i64 ay)) ∧ (W.cell? ⟨w.heap.size + 1, 0, none⟩ = some (.int .i64 bx) ∧ W.cell? ⟨w.heap.size + 1, 1, none⟩ = some (.int .i64 by')) ∧ (W.cell? ⟨w.heap.size + 1 + 1, 0, none⟩ = some (.int .i64 px) ∧ W.cell? ⟨w.heap.size + 1 + 1, 1, none⟩ = some (.int .i64 py))) (by kernel_rfl) (pa_sv K0.out) (fun hHeld => ?_)
  generalize W0.drew = w0 at *
  refine wpAnyH_takeD 0 7 (v := ?_) (by kernel_rfl) (by kernel_rfl) (by kernel_rfl) (by kernel_rfl) (by rfl) (fun _ _ _ h => h) ?_ hHeld ?_
  rotate_left 1
  (intro o ho W hSw; simp only [List.getElem?_toArray, List.getElem?_cons_succ, List.getElem?_cons_zero, Option.some.injEq] at ho; subst ho; (try dsimp only at hSw); go_simp; try with_reducible rfl)
  (try simp only [Act.put, List.setIfInBounds_toArray, List.set_cons_zero, List.set_cons_succ])
  refine wpAnyH_takeD 1 8 (v := ?_) (by kernel_rfl) (by kernel_rfl) (by kernel_rfl) (by kernel_rfl) (by rfl) (fun _ _ _ h => h) ?_ hHeld ?_
  rotate_left 1
  (intro o ho W hSw; simp only [List.getElem?_toArray, List.getElem?_cons_succ, List.getElem?_cons_zero, Option.some.injEq] at ho; subst ho; (try dsimp only at hSw); go_simp; try with_reducible rfl)
  (try simp only [Act.put, List.setIfInBounds_toArray, List.set_cons_zero, List.set_cons_succ])
  refine wpAnyH_takeD 2 9 (v := ?_) (by kernel_rfl) (by kernel_rfl) (by kernel_rfl) (by kernel_rfl) (by rfl) (fun _ _ _ h => h) ?_ hHeld ?_
  rotate_left 1
  (intro o ho W hSw; simp only [List.getElem?_toArray, List.getElem?_cons_succ, List.getElem?_cons_zero, Option.some.injEq] at ho; subst ho; (try dsimp only at hSw); go_simp; try with_reducible rfl)
  (try simp only [Act.put, List.setIfInBounds_toArray, List.set_cons_zero, List.set_cons_succ])
  refine wpAnyH_takeD 3 10 (v := ?_) (by kernel_rfl) (by kernel_rfl) (by kernel_rfl) (by kernel_rfl) (by rfl) (fun _ _ _ h => h) ?_ hHeld ?_
  rotate_left 1
  (intro o ho W hSw; simp only [List.getElem?_toArray, List.getElem?_cons_succ, List.getElem?_cons_zero, Option.some.injEq] at ho; subst ho; (try dsimp only at hSw); go_simp; try with_reducible rfl)
  (try simp only [Act.put, List.setIfInBounds_toArray, List.set_cons_zero, List.set_cons_succ])
  refine wpAnyH_takeD 4 11 (v := ?_) (by kernel_rfl) (by kernel_rfl) (by kernel_rfl) (by kernel_rfl) (by rfl) (fun _ _ _ h => h) ?_ hHeld ?_
  rotate_left 1
  (intro o ho W hSw; simp only [List.getElem?_toArray, List.getElem?_cons_succ, List.getElem?_cons_zero, Option.some.injEq] at ho; subst ho; (try dsimp only at hSw); go_simp; try with_reducible rfl)
  (try simp only [Act.put, List.setIfInBounds_toArray, List.set_cons_zero, List.set_cons_succ])
  refine wpAnyH_takeD 5 12 (v := ?_) (by kernel_rfl) (by kernel_rfl) (by kernel_rfl) (by kernel_rfl) (by rfl) (fun _ _ _ h => h) ?_ hHeld ?_
  rotate_left 1
  (intro o ho W hSw; simp only [List.getElem?_toArray, List.getElem?_cons_succ, List.getElem?_cons_zero, Option.some.injEq] at ho; subst ho; (try dsimp only at hSw); go_simp; try with_reducible rfl)
  (try simp only [Act.put, List.setIfInBounds_toArray, List.set_cons_zero, List.set_cons_succ])
  refine wpAnyH_takeD 6 13 (v := ?_) (by kernel_rfl) (by kernel_rfl) (by kernel_rfl) (by kernel_rfl) (by rfl) (fun _ _ _ h => h) ?_ hHeld ?_
  rotate_left 1
  (intro o ho W hSw; simp only [List.getElem?_toArray, List.getElem?_cons_succ, List.getElem?_cons_zero, Option.some.injEq] at ho; subst ho; (try dsimp only at hSw); go_simp; try with_reducible rfl)
  (try simp only [Act.put, List.setIfInBounds_toArray, List.set_cons_zero, List.set_cons_succ])
  refine wpAnyH_takeD 7 14 (v := ?_) (by kernel_rfl) (by kernel_rfl) (by kernel_rfl) (by kernel_rfl) (by rfl) (fun _ _ _ h => h) ?_ hHeld ?_
  rotate_left 1
  (intro o ho W hSw; simp only [List.getElem?_toArray, List.getElem?_cons_succ, List.getElem?_cons_zero, Option.some.injEq] at ho; subst ho; (try dsimp only at hSw); go_simp; try with_reducible rfl)
  (try simp only [Act.put, List.setIfInBounds_toArray, List.set_cons_zero, List.set_cons_succ])
  refine wpAnyH_takeD 8 15 (v := ?_) (by kernel_rfl) (by kernel_rfl) (by kernel_rfl) (by kernel_rfl) (by rfl) (fun _ _ _ h => h) ?_ hHeld ?_
  rotate_left 1
  (intro o ho W hSw; simp only [List.getElem?_toArray, List.getElem?_cons_succ, List.getElem?_cons_zero, Option.some.injEq] at ho; subst ho; (try dsimp only at hSw); go_simp; try with_reducible rfl)
  (try simp only [Act.put, List.setIfInBounds_toArray, List.set_cons_zero, List.set_cons_succ])
  refine wpAnyH_takeD 9 16 (v := ?_) (by kernel_rfl) (by kernel_rfl) (by kernel_rfl) (by kernel_rfl) (by rfl) (fun _ _ _ h => h) ?_ hHeld ?_
  rotate_left 1
  (intro o ho W hSw; simp only [List.getElem?_toArray, List.getElem?_cons_succ, List.getElem?_cons_zero, Option.some.injEq] at ho; subst ho; (try dsimp only at hSw); go_simp; try with_reducible rfl)
  (try simp only [Act.put, List.setIfInBounds_toArray, List.set_cons_zero, List.set_cons_succ])
  refine wpAnyH_takeD 11 18 (v := ?_) (by kernel_rfl) (by kernel_rfl) (by kernel_rfl) (by kernel_rfl) (by rfl) (fun _ _ _ h => h) ?_ hHeld ?_
  rotate_left 1
  (intro o ho W hSw; simp only [List.getElem?_toArray, List.getElem?_cons_succ, List.getElem?_cons_zero, Option.some.injEq] at ho; subst ho; (try dsimp only at hSw); go_simp; try with_reducible rfl)
  (try simp only [Act.put, List.setIfInBounds_toArray, List.set_cons_zero, List.set_cons_succ])
  refine wpAnyH_takeD 12 19 (v := ?_) (by kernel_rfl) (by kernel_rfl) (by kernel_rfl) (by kernel_rfl) (by rfl) (fun _ _ _ h => h) ?_ hHeld ?_
  rotate_left 1
  (intro o ho W hSw; simp only [List.getElem?_toArray, List.getElem?_cons_succ, List.getElem?_cons_zero, Option.some.injEq] at ho; subst ho; (try dsimp only at hSw); go_simp; try with_reducible rfl)
  (try simp only [Act.put, List.setIfInBounds_toArray, List.set_cons_zero, List.set_cons_succ])
  refine wpAnyH_takeD 13 20 (v := ?_) (by kernel_rfl) (by kernel_rfl) (by kernel_rfl) (by kernel_rfl) (by rfl) (fun _ _ _ h => h) ?_ hHeld ?_
  rotate_left 1
  (intro o ho W hSw; simp only [List.getElem?_toArray, List.getElem?_cons_succ, List.getElem?_cons_zero, Option.some.injEq] at ho; subst ho; (try dsimp only at hSw); go_simp; try with_reducible rfl)
  (try simp only [Act.put, List.setIfInBounds_toArray, List.set_cons_zero, List.set_cons_succ])
  refine wpAnyH_takeD 14 21 (v := ?_) (by kernel_rfl) (by kernel_rfl) (by kernel_rfl) (by kernel_rfl) (by rfl) (fun _ _ _ h => h) ?_ hHeld ?_
  rotate_left 1
  (intro o ho W hSw; simp only [List.getElem?_toArray, List.getElem?_cons_succ, List.getElem?_cons_zero, Option.some.injEq] at ho; subst ho; (try dsimp only at hSw); go_simp; try with_reducible rfl)
  (try simp only [Act.put, List.setIfInBounds_toArray, List.set_cons_zero, List.set_cons_succ])
  refine wpAnyH_takeD 15 22 (v := ?_) (by kernel_rfl) (by kernel_rfl) (by kernel_rfl) (by kernel_rfl) (by rfl) (fun _ _ _ h => h) ?_ hHeld ?_
  rotate_left 1
  (intro o ho W hSw; simp only [List.getElem?_toArray, List.getElem?_cons_succ, List.getElem?_cons_zero, Option.some.injEq] at ho; subst ho; (try dsimp only at hSw); go_simp; try with_reducible rfl)
  (try simp only [Act.put, List.setIfInBounds_toArray, List.set_cons_zero, List.set_cons_succ])
  refine wpAnyH_takeD 16 23 (v := ?_) (by kernel_rfl) (by kernel_rfl) (by kernel_rfl) (by kernel_rfl) (by rfl) (fun _ _ _ h => h) ?_ hHeld ?_
  rotate_left 1
  (intro o ho W hSw; simp only [List.getElem?_toArray, List.getElem?_cons_succ, List.getElem?_cons_zero, Option.some.injEq] at ho; subst ho; (try dsimp only at hSw); go_simp; try with_reducible rfl)
  (try simp only [Act.put, List.setIfInBounds_toArray, List.set_cons_zero, List.set_cons_succ])
  refine wpAnyH_takeD 17 24 (v := ?_) (by kernel_rfl) (by kernel_rfl) (by kernel_rfl) (by kernel_rfl) (by rfl) (fun _ _ _ h => h) ?_ hHeld ?_
  rotate_left 1
  (intro o ho W hSw; simp only [List.getElem?_toArray, List.getElem?_cons_succ, List.getElem?_cons_zero, Option.some.injEq] at ho; subst ho; (try dsimp only at hSw); go_simp; try with_reducible rfl)
  (try simp only [Act.put, List.setIfInBounds_toArray, List.set_cons_zero, List.set_cons_succ])
  refine wpAnyH_takeD 18 25 (v := ?_) (by kernel_rfl) (by kernel_rfl) (by kernel_rfl) (by kernel_rfl) (by rfl) (fun _ _ _ h => h) ?_ hHeld ?_
  rotate_left 1
  (intro o ho W hSw; simp only [List.getElem?_toArray, List.getElem?_cons_succ, List.getElem?_cons_zero, Option.some.injEq] at ho; subst ho; (try dsimp only at hSw); go_simp; try with_reducible rfl)
  (try simp only [Act.put, List.setIfInBounds_toArray, List.set_cons_zero, List.set_cons_succ])
  refine wpAnyH_takeD 19 26 (v := ?_) (by kernel_rfl) (by kernel_rfl) (by kernel_rfl) (by kernel_rfl) (by rfl) (fun _ _ _ h => h) ?_ hHeld ?_
  rotate_left 1
  (intro o ho W hSw; simp only [List.getElem?_toArray, List.getElem?_cons_succ, List.getElem?_cons_zero, Option.some.injEq] at ho; subst ho; (try dsimp only at hSw); go_simp; try with_reducible rfl)
  (try simp only [Act.put, List.setIfInBounds_toArray, List.set_cons_zero, List.set_cons_succ])
  refine wpAnyH_takeD 20 27 (v := ?_) (by kernel_rfl) (by kernel_rfl) (by kernel_rfl) (by kernel_rfl) (by rfl) (fun _ _ _ h => h) ?_ hHeld ?_
  rotate_left 1
  (intro o ho W hSw; simp only [List.getElem?_toArray, List.getElem?_cons_succ, List.getElem?_cons_zero, Option.some.injEq] at ho; subst ho; (try dsimp only at hSw); go_simp; try with_reducible rfl)
  (try simp only [Act.put, List.setIfInBounds_toArray, List.set_cons_zero, List.set_cons_succ])
  rw [U.out.1, U.out.2.1, U.out.2.2.1, U.out.2.2.2]
  refine wpAnyH_onlyD 10 (by kernel_rfl) (fun o ho K hK => ?_) (by kernel_rfl)
  simp only [List.getElem?_toArray, List.getElem?_cons_succ, List.getElem?_cons_zero, Option.some.injEq] at ho
  subst ho
  go_simp
  refine (X1.out _).mono ?_
  rintro e w1 ⟨rfl, h⟩
  have K1 := Lib.hid (K0.out.step h)
  have V1 := Lib.hid (V0.out.below h V0.out.lt)
  go_wp2_with fail
  refine hK.out _ _ (pa_sv K1.out) ?_
  clear hK K hHeld
  intro hHeld
  clear h K0 V0
  refine wpAnyH_onlyD 21 (by kernel_rfl) (fun o ho K hK => ?_) (by kernel_rfl)
  simp only [List.getElem?_toArray, List.getElem?_cons_succ, List.getElem?_cons_zero, Option.some.injEq] at ho
  subst ho
  go_simp
  refine (X2.out _).mono ?_
  rintro e w2 ⟨rfl, h⟩
  have K2 := Lib.hid (K1.out.step h)
  have V2 := Lib.hid (V1.out.below h V1.out.lt)
  go_wp2_with fail
  refine hK.out _ _ (pa_sv K2.out) ?_
  clear hK K hHeld
  intro hHeld
  clear h K1 V1
  refine wpAnyH_onlyD 22 (by kernel_rfl) (fun o ho K hK => ?_) (by kernel_rfl)
  simp only [List.getElem?_toArray, List.getElem?_cons_succ, List.getElem?_cons_zero, Option.some.injEq] at ho
  subst ho
  go_simp
  refine (X4.out _).mono ?_
  rintro e w3 ⟨rfl, h⟩
  have K3 := Lib.hid (K2.out.step h)
  have V3 := Lib.hid (V2.out.below h V2.out.lt)
  go_wp2_with fail
  refine hK.out _ _ (pa_sv K3.out) ?_
  clear hK K hHeld
  intro hHeld
  clear h K2 V2
  clear X1 X2 X4
  have r0 := V3.out.c 0 _ rfl
  have r1 := V3.out.c 1 _ rfl
  have rf := V3.out.f
  refine wpAnyH_onlyD 23 (by kernel_rfl) (fun o ho K hK => ?_) (by kernel_rfl)
  simp only [List.getElem?_toArray, List.getElem?_cons_succ, List.getElem?_cons_zero, Option.some.injEq] at ho
  subst ho
  go_simp
  refine hK.out _ _ (pa_sv (pa_far K3.out (by omega) _ _)) ?_
  clear hK K hHeld
  intro hHeld
  refine wpAnyH_done (by kernel_rfl) ?_ _
  go_wp2
  exact bodyPost_ret (v := .agg #[.int .i64 (hiW A), .int .u64 (loW A)]) (by simp [results, Try.results21, go_sem, r0, r1]) rfl ⟨rfl, below_put2 K3.out.l (by omega) _ _⟩
set_option maxRecDepth 100000 in
set_option maxHeartbeats 4000000 in
theorem plDot_any (ax ay bx by' px py A : Int) (w : World) (h1 : Rg ax) (h2 : Rg ay) (h3 : Rg bx) (h4 : Rg by') (h5 : Rg px) (h6 : Rg py) (hA : dotP ⟨ax, ay⟩ ⟨bx, by'⟩ ⟨px, py⟩ = A) :
    Calls Try.prog 35 #[.agg #[.int .i64 ax, .int .i64 ay], .agg #[.int .i64 bx, .int .i64 by'], .agg #[.int .i64 px, .int .i64 py]] w fun e w' => e = .returned (.agg #[.int .i64 (hiW A), .int .u64 (loW A)]) ∧ Below w.heap.size w w' := by
  obtain ⟨f1, f2, f4, f5⟩ := dotP_fit h1 h2 h3 h4 h5 h6
  have X1 := Lib.hid (fun (W : World) => plProduct_any (bx - ax) (px - ax) _ W rfl (fits_b h1 h3).1 (fits_b h1 h3).2 (fits_b h1 h5).1 (fits_b h1 h5).2)
  have X2 := Lib.hid (fun (W : World) => plProduct_any (by' - ay) (py - ay) _ W rfl (fits_b h2 h4).1 (fits_b h2 h4).2 (fits_b h2 h6).1 (fits_b h2 h6).2)
  have X4 := Lib.hid (fun (W : World) => plPlus_any ((bx - ax) * (px - ax)) ((by' - ay) * (py - ay)) A W f1 f2 hA (hA ▸ f5))
  have U := Lib.hid (And.intro (fits_u h1 h3) (And.intro (fits_u h1 h5) (And.intro (fits_u h2 h4) (fits_u h2 h6))))
  generalize (bx - ax) * (px - ax) = k at *
  generalize (by' - ay) * (py - ay) = m at *
  clear f1 f2 f4 f5 hA h1 h2 h3 h4 h5 h6
  go_enter Try.func35, Try.ntmps35
  go_wp2_with fail
  refine wp_gen (S := fun W => St w W (PaL w ax ay bx by' px py) ∧ BW W (w.heap.size + 1 + 1 + 1) [.int .i64 0, .int .u64 0])
    ⟨pa_new ((((BW.new w w.heap.size [_, _] _ rfl).alloc _).alloc _).alloc _) (((BW.new _ _ [_, _] _ (by simp)).alloc _).alloc _) ((BW.new _ _ [_, _] _ (by simp)).alloc _) (by repeat (first | exact Below.refl _ _ | assumption | refine Below.setCell ?_ (by first | omega | (simp; done) | (simp; omega)) _ | refine Below.alloc ?_ (by first | omega | (simp; done) | (simp; omega)) _ | refine below_drewN ?_ _ | refine Below.drew ?_ | refine Below.trans ?_ (Below.mono (by assumption) (by first | omega | (simp; done) | (simp; omega))))), BW.new _ _ [_, _] _ (by simp)⟩ (fun W0 hS => ?_)
  have K0 := Lib.hid hS.1.drew
  have V0 := Lib.hid hS.2.drew
  clear hS
  refine wp_region_held_drew (S := fun W => (W.cell? ⟨w.heap.size, 0, none⟩ = some (.int .i64 ax) ∧ W.cell? ⟨w.heap.size, 1, none⟩ = some (.int .i64 ay)) ∧ (W.cell? ⟨w.heap.size + 1, 0, none⟩ = some (.int .i64 bx) ∧ W.cell? ⟨w.heap.size + 1, 1, none⟩ = some (.int .i64 by')) ∧ (W.cell? ⟨w.heap.size + 1 + 1, 0, none⟩ = some (.int .i64 px) ∧ W.cell? ⟨w.heap.size + 1 + 1, 1, none⟩ = some (.int .i64 py))) (by kernel_rfl) (pa_sv K0.out) (fun hHeld => ?_)
  generalize W0.drew = w0 at *
  refine wpAnyH_takeD 0 7 (v := ?_) (by kernel_rfl) (by kernel_rfl) (by kernel_rfl) (by kernel_rfl) (by rfl) (fun _ _ _ h => h) ?_ hHeld ?_
  rotate_left 1
  (intro o ho W hSw; simp only [List.getElem?_toArray, List.getElem?_cons_succ, List.getElem?_cons_zero, Option.some.injEq] at ho; subst ho; (try dsimp only at hSw); go_simp; try with_reducible rfl)
  (try simp only [Act.put, List.setIfInBounds_toArray, List.set_cons_zero, List.set_cons_succ])
  refine wpAnyH_takeD 1 8 (v := ?_) (by kernel_rfl) (by kernel_rfl) (by kernel_rfl) (by kernel_rfl) (by rfl) (fun _ _ _ h => h) ?_ hHeld ?_
  rotate_left 1
  (intro o ho W hSw; simp only [List.getElem?_toArray, List.getElem?_cons_succ, List.getElem?_cons_zero, Option.some.injEq] at ho; subst ho; (try dsimp only at hSw); go_simp; try with_reducible rfl)
  (try simp only [Act.put, List.setIfInBounds_toArray, List.set_cons_zero, List.set_cons_succ])
  refine wpAnyH_takeD 2 9 (v := ?_) (by kernel_rfl) (by kernel_rfl) (by kernel_rfl) (by kernel_rfl) (by rfl) (fun _ _ _ h => h) ?_ hHeld ?_
  rotate_left 1
  (intro o ho W hSw; simp only [List.getElem?_toArray, List.getElem?_cons_succ, List.getElem?_cons_zero, Option.some.injEq] at ho; subst ho; (try dsimp only at hSw); go_simp; try with_reducible rfl)
  (try simp only [Act.put, List.setIfInBounds_toArray, List.set_cons_zero, List.set_cons_succ])
  refine wpAnyH_takeD 3 10 (v := ?_) (by kernel_rfl) (by kernel_rfl) (by kernel_rfl) (by kernel_rfl) (by rfl) (fun _ _ _ h => h) ?_ hHeld ?_
  rotate_left 1
  (intro o ho W hSw; simp only [List.getElem?_toArray, List.getElem?_cons_succ, List.getElem?_cons_zero, Option.some.injEq] at ho; subst ho; (try dsimp only at hSw); go_simp; try with_reducible rfl)
  (try simp only [Act.put, List.setIfInBounds_toArray, List.set_cons_zero, List.set_cons_succ])
  refine wpAnyH_takeD 4 11 (v := ?_) (by kernel_rfl) (by kernel_rfl) (by kernel_rfl) (by kernel_rfl) (by rfl) (fun _ _ _ h => h) ?_ hHeld ?_
  rotate_left 1
  (intro o ho W hSw; simp only [List.getElem?_toArray, List.getElem?_cons_succ, List.getElem?_cons_zero, Option.some.injEq] at ho; subst ho; (try dsimp only at hSw); go_simp; try with_reducible rfl)
  (try simp only [Act.put, List.setIfInBounds_toArray, List.set_cons_zero, List.set_cons_succ])
  refine wpAnyH_takeD 5 12 (v := ?_) (by kernel_rfl) (by kernel_rfl) (by kernel_rfl) (by kernel_rfl) (by rfl) (fun _ _ _ h => h) ?_ hHeld ?_
  rotate_left 1
  (intro o ho W hSw; simp only [List.getElem?_toArray, List.getElem?_cons_succ, List.getElem?_cons_zero, Option.some.injEq] at ho; subst ho; (try dsimp only at hSw); go_simp; try with_reducible rfl)
  (try simp only [Act.put, List.setIfInBounds_toArray, List.set_cons_zero, List.set_cons_succ])
  refine wpAnyH_takeD 6 13 (v := ?_) (by kernel_rfl) (by kernel_rfl) (by kernel_rfl) (by kernel_rfl) (by rfl) (fun _ _ _ h => h) ?_ hHeld ?_
  rotate_left 1
  (intro o ho W hSw; simp only [List.getElem?_toArray, List.getElem?_cons_succ, List.getElem?_cons_zero, Option.some.injEq] at ho; subst ho; (try dsimp only at hSw); go_simp; try with_reducible rfl)
  (try simp only [Act.put, List.setIfInBounds_toArray, List.set_cons_zero, List.set_cons_succ])
  refine wpAnyH_takeD 7 14 (v := ?_) (by kernel_rfl) (by kernel_rfl) (by kernel_rfl) (by kernel_rfl) (by rfl) (fun _ _ _ h => h) ?_ hHeld ?_
  rotate_left 1
  (intro o ho W hSw; simp only [List.getElem?_toArray, List.getElem?_cons_succ, List.getElem?_cons_zero, Option.some.injEq] at ho; subst ho; (try dsimp only at hSw); go_simp; try with_reducible rfl)
  (try simp only [Act.put, List.setIfInBounds_toArray, List.set_cons_zero, List.set_cons_succ])
  refine wpAnyH_takeD 8 15 (v := ?_) (by kernel_rfl) (by kernel_rfl) (by kernel_rfl) (by kernel_rfl) (by rfl) (fun _ _ _ h => h) ?_ hHeld ?_
  rotate_left 1
  (intro o ho W hSw; simp only [List.getElem?_toArray, List.getElem?_cons_succ, List.getElem?_cons_zero, Option.some.injEq] at ho; subst ho; (try dsimp only at hSw); go_simp; try with_reducible rfl)
  (try simp only [Act.put, List.setIfInBounds_toArray, List.set_cons_zero, List.set_cons_succ])
  refine wpAnyH_takeD 9 16 (v := ?_) (by kernel_rfl) (by kernel_rfl) (by kernel_rfl) (by kernel_rfl) (by rfl) (fun _ _ _ h => h) ?_ hHeld ?_
  rotate_left 1
  (intro o ho W hSw; simp only [List.getElem?_toArray, List.getElem?_cons_succ, List.getElem?_cons_zero, Option.some.injEq] at ho; subst ho; (try dsimp only at hSw); go_simp; try with_reducible rfl)
  (try simp only [Act.put, List.setIfInBounds_toArray, List.set_cons_zero, List.set_cons_succ])
  refine wpAnyH_takeD 11 18 (v := ?_) (by kernel_rfl) (by kernel_rfl) (by kernel_rfl) (by kernel_rfl) (by rfl) (fun _ _ _ h => h) ?_ hHeld ?_
  rotate_left 1
  (intro o ho W hSw; simp only [List.getElem?_toArray, List.getElem?_cons_succ, List.getElem?_cons_zero, Option.some.injEq] at ho; subst ho; (try dsimp only at hSw); go_simp; try with_reducible rfl)
  (try simp only [Act.put, List.setIfInBounds_toArray, List.set_cons_zero, List.set_cons_succ])
  refine wpAnyH_takeD 12 19 (v := ?_) (by kernel_rfl) (by kernel_rfl) (by kernel_rfl) (by kernel_rfl) (by rfl) (fun _ _ _ h => h) ?_ hHeld ?_
  rotate_left 1
  (intro o ho W hSw; simp only [List.getElem?_toArray, List.getElem?_cons_succ, List.getElem?_cons_zero, Option.some.injEq] at ho; subst ho; (try dsimp only at hSw); go_simp; try with_reducible rfl)
  (try simp only [Act.put, List.setIfInBounds_toArray, List.set_cons_zero, List.set_cons_succ])
  refine wpAnyH_takeD 13 20 (v := ?_) (by kernel_rfl) (by kernel_rfl) (by kernel_rfl) (by kernel_rfl) (by rfl) (fun _ _ _ h => h) ?_ hHeld ?_
  rotate_left 1
  (intro o ho W hSw; simp only [List.getElem?_toArray, List.getElem?_cons_succ, List.getElem?_cons_zero, Option.some.injEq] at ho; subst ho; (try dsimp only at hSw); go_simp; try with_reducible rfl)
  (try simp only [Act.put, List.setIfInBounds_toArray, List.set_cons_zero, List.set_cons_succ])
  refine wpAnyH_takeD 14 21 (v := ?_) (by kernel_rfl) (by kernel_rfl) (by kernel_rfl) (by kernel_rfl) (by rfl) (fun _ _ _ h => h) ?_ hHeld ?_
  rotate_left 1
  (intro o ho W hSw; simp only [List.getElem?_toArray, List.getElem?_cons_succ, List.getElem?_cons_zero, Option.some.injEq] at ho; subst ho; (try dsimp only at hSw); go_simp; try with_reducible rfl)
  (try simp only [Act.put, List.setIfInBounds_toArray, List.set_cons_zero, List.set_cons_succ])
  refine wpAnyH_takeD 15 22 (v := ?_) (by kernel_rfl) (by kernel_rfl) (by kernel_rfl) (by kernel_rfl) (by rfl) (fun _ _ _ h => h) ?_ hHeld ?_
  rotate_left 1
  (intro o ho W hSw; simp only [List.getElem?_toArray, List.getElem?_cons_succ, List.getElem?_cons_zero, Option.some.injEq] at ho; subst ho; (try dsimp only at hSw); go_simp; try with_reducible rfl)
  (try simp only [Act.put, List.setIfInBounds_toArray, List.set_cons_zero, List.set_cons_succ])
  refine wpAnyH_takeD 16 23 (v := ?_) (by kernel_rfl) (by kernel_rfl) (by kernel_rfl) (by kernel_rfl) (by rfl) (fun _ _ _ h => h) ?_ hHeld ?_
  rotate_left 1
  (intro o ho W hSw; simp only [List.getElem?_toArray, List.getElem?_cons_succ, List.getElem?_cons_zero, Option.some.injEq] at ho; subst ho; (try dsimp only at hSw); go_simp; try with_reducible rfl)
  (try simp only [Act.put, List.setIfInBounds_toArray, List.set_cons_zero, List.set_cons_succ])
  refine wpAnyH_takeD 17 24 (v := ?_) (by kernel_rfl) (by kernel_rfl) (by kernel_rfl) (by kernel_rfl) (by rfl) (fun _ _ _ h => h) ?_ hHeld ?_
  rotate_left 1
  (intro o ho W hSw; simp only [List.getElem?_toArray, List.getElem?_cons_succ, List.getElem?_cons_zero, Option.some.injEq] at ho; subst ho; (try dsimp only at hSw); go_simp; try with_reducible rfl)
  (try simp only [Act.put, List.setIfInBounds_toArray, List.set_cons_zero, List.set_cons_succ])
  refine wpAnyH_takeD 18 25 (v := ?_) (by kernel_rfl) (by kernel_rfl) (by kernel_rfl) (by kernel_rfl) (by rfl) (fun _ _ _ h => h) ?_ hHeld ?_
  rotate_left 1
  (intro o ho W hSw; simp only [List.getElem?_toArray, List.getElem?_cons_succ, List.getElem?_cons_zero, Option.some.injEq] at ho; subst ho; (try dsimp only at hSw); go_simp; try with_reducible rfl)
  (try simp only [Act.put, List.setIfInBounds_toArray, List.set_cons_zero, List.set_cons_succ])
  refine wpAnyH_takeD 19 26 (v := ?_) (by kernel_rfl) (by kernel_rfl) (by kernel_rfl) (by kernel_rfl) (by rfl) (fun _ _ _ h => h) ?_ hHeld ?_
  rotate_left 1
  (intro o ho W hSw; simp only [List.getElem?_toArray, List.getElem?_cons_succ, List.getElem?_cons_zero, Option.some.injEq] at ho; subst ho; (try dsimp only at hSw); go_simp; try with_reducible rfl)
  (try simp only [Act.put, List.setIfInBounds_toArray, List.set_cons_zero, List.set_cons_succ])
  refine wpAnyH_takeD 20 27 (v := ?_) (by kernel_rfl) (by kernel_rfl) (by kernel_rfl) (by kernel_rfl) (by rfl) (fun _ _ _ h => h) ?_ hHeld ?_
  rotate_left 1
  (intro o ho W hSw; simp only [List.getElem?_toArray, List.getElem?_cons_succ, List.getElem?_cons_zero, Option.some.injEq] at ho; subst ho; (try dsimp only at hSw); go_simp; try with_reducible rfl)
  (try simp only [Act.put, List.setIfInBounds_toArray, List.set_cons_zero, List.set_cons_succ])
  rw [U.out.1, U.out.2.1, U.out.2.2.1, U.out.2.2.2]
  refine wpAnyH_onlyD 10 (by kernel_rfl) (fun o ho K hK => ?_) (by kernel_rfl)
  simp only [List.getElem?_toArray, List.getElem?_cons_succ, List.getElem?_cons_zero, Option.some.injEq] at ho
  subst ho
  go_simp
  refine (X1.out _).mono ?_
  rintro e w1 ⟨rfl, h⟩
  have K1 := Lib.hid (K0.out.step h)
  have V1 := Lib.hid (V0.out.below h V0.out.lt)
  go_wp2_with fail
  refine hK.out _ _ (pa_sv K1.out) ?_
  clear hK K hHeld
  intro hHeld
  clear h K0 V0
  refine wpAnyH_onlyD 21 (by kernel_rfl) (fun o ho K hK => ?_) (by kernel_rfl)
  simp only [List.getElem?_toArray, List.getElem?_cons_succ, List.getElem?_cons_zero, Option.some.injEq] at ho
  subst ho
  go_simp
  refine (X2.out _).mono ?_
  rintro e w2 ⟨rfl, h⟩
  have K2 := Lib.hid (K1.out.step h)
  have V2 := Lib.hid (V1.out.below h V1.out.lt)
  go_wp2_with fail
  refine hK.out _ _ (pa_sv K2.out) ?_
  clear hK K hHeld
  intro hHeld
  clear h K1 V1
  refine wpAnyH_onlyD 22 (by kernel_rfl) (fun o ho K hK => ?_) (by kernel_rfl)
  simp only [List.getElem?_toArray, List.getElem?_cons_succ, List.getElem?_cons_zero, Option.some.injEq] at ho
  subst ho
  go_simp
  refine (X4.out _).mono ?_
  rintro e w3 ⟨rfl, h⟩
  have K3 := Lib.hid (K2.out.step h)
  have V3 := Lib.hid (V2.out.below h V2.out.lt)
  go_wp2_with fail
  refine hK.out _ _ (pa_sv K3.out) ?_
  clear hK K hHeld
  intro hHeld
  clear h K2 V2
  clear X1 X2 X4
  have r0 := V3.out.c 0 _ rfl
  have r1 := V3.out.c 1 _ rfl
  have rf := V3.out.f
  refine wpAnyH_onlyD 23 (by kernel_rfl) (fun o ho K hK => ?_) (by kernel_rfl)
  simp only [List.getElem?_toArray, List.getElem?_cons_succ, List.getElem?_cons_zero, Option.some.injEq] at ho
  subst ho
  go_simp
  refine hK.out _ _ (pa_sv (pa_far K3.out (by omega) _ _)) ?_
  clear hK K hHeld
  intro hHeld
  refine wpAnyH_done (by kernel_rfl) ?_ _
  go_wp2
  exact bodyPost_ret (v := .agg #[.int .i64 (hiW A), .int .u64 (loW A)]) (by simp [results, Try.results35, go_sem, r0, r1]) rfl ⟨rfl, below_put2 K3.out.l (by omega) _ _⟩
theorem cmp_sgn' (n : Int) : cmpI n 0 = sgnA n := by
  unfold cmpI sgnA
  split <;> (try split) <;> (try split) <;> omega
theorem sgnA_nn {n : Int} : 0 ≤ sgnA n ↔ 0 ≤ n := by unfold sgnA; split <;> (try split) <;> omega
set_option maxHeartbeats 2000000 in
theorem plBeside_any (ax ay bx by' px py : Int) (w : World) (h1 : Rg ax) (h2 : Rg ay) (h3 : Rg bx) (h4 : Rg by') (h5 : Rg px) (h6 : Rg py) :
    Calls Try.prog 33 #[.agg #[.int .i64 ax, .int .i64 ay], .agg #[.int .i64 bx, .int .i64 by'], .agg #[.int .i64 px, .int .i64 py]] w fun e w' => e = .returned (.bool (decide (0 ≤ dotP ⟨ax, ay⟩ ⟨bx, by'⟩ ⟨px, py⟩ ∧ 0 ≤ dotP ⟨bx, by'⟩ ⟨ax, ay⟩ ⟨px, py⟩))) ∧ Below w.heap.size w w' := by
  have X1 := Lib.hid (fun (W : World) => plDot_any ax ay bx by' px py _ W h1 h2 h3 h4 h5 h6 rfl)
  have X2 := Lib.hid (fun (W : World) => plDot_any bx by' ax ay px py _ W h3 h4 h1 h2 h5 h6 rfl)
  have Y1 := Lib.hid (fun (W : World) => Sign_n _ W (dotP_fit h1 h2 h3 h4 h5 h6).2.2.2)
  have Y2 := Lib.hid (fun (W : World) => Sign_n _ W (dotP_fit h3 h4 h1 h2 h5 h6).2.2.2)
  clear h1 h2 h3 h4 h5 h6
  rw [cmp_sgn'] at Y1 Y2
  obtain ⟨r, hr⟩ : ∃ r, decide (0 ≤ dotP ⟨ax, ay⟩ ⟨bx, by'⟩ ⟨px, py⟩ ∧ 0 ≤ dotP ⟨bx, by'⟩ ⟨ax, ay⟩ ⟨px, py⟩) = r := ⟨_, rfl⟩
  rw [hr]
  generalize dotP ⟨ax, ay⟩ ⟨bx, by'⟩ ⟨px, py⟩ = d at *
  generalize dotP ⟨bx, by'⟩ ⟨ax, ay⟩ ⟨px, py⟩ = f at *
  rw [show decide (0 ≤ d ∧ 0 ≤ f) = decide (0 ≤ sgnA d ∧ 0 ≤ sgnA f) by rw [decide_eq_decide, sgnA_nn, sgnA_nn]] at hr
  have R := Lib.hid hr
  clear hr
  generalize sgnA d = u at *
  generalize sgnA f = v at *
  go_enter Try.func33, Try.ntmps33
  go_wp2_with fail
  refine calls_gen (S := fun W => St w W (PaL w ax ay bx by' px py)) (pa_new (((BW.new w w.heap.size [_, _] _ rfl).alloc _).alloc _) ((BW.new _ _ [_, _] _ (by simp)).alloc _) (BW.new _ _ [_, _] _ (by simp)) (by repeat (first | exact Below.refl _ _ | assumption | refine Below.setCell ?_ (by first | omega | (simp; done) | (simp; omega)) _ | refine Below.alloc ?_ (by first | omega | (simp; done) | (simp; omega)) _ | refine below_drewN ?_ _ | refine Below.drew ?_ | refine Below.trans ?_ (Below.mono (by assumption) (by first | omega | (simp; done) | (simp; omega)))))) (fun W0 hS => ?_)
  have K0 := Lib.hid hS
  clear hS
  refine (X1.out _).mono ?_
  rintro e w1 ⟨rfl, h⟩
  have K1 := Lib.hid (K0.out.step h)
  clear h K0 X1
  go_wp2_with fail
  refine (Y1.out _).mono ?_
  rintro e w2 ⟨rfl, h⟩
  have K2 := Lib.hid (K1.out.step h)
  clear h K1 Y1
  by_cases hu : 0 ≤ u
  · obtain ⟨⟨a0, a1⟩, ⟨b0, b1⟩, ⟨p0, p1⟩⟩ := pa_sv K2.out
    have E := Lib.hid (show decide (0 ≤ v) = r by rw [← R.out, decide_eq_decide]; exact ⟨fun k => ⟨hu, k⟩, fun k => k.2⟩)
    clear R
    go_wp2_with fail
    refine (X2.out _).mono ?_
    rintro e w3 ⟨rfl, h⟩
    have K3 := Lib.hid (K2.out.step h)
    clear h K2 X2 a0 a1 b0 b1 p0 p1
    go_wp2_with fail
    refine (Y2.out _).mono ?_
    rintro e w4 ⟨rfl, h⟩
    have K4 := Lib.hid (K3.out.step h)
    clear h K3 Y2
    go_wp2
    go_ret
    exact ⟨by rw [← E.out]; rfl, K4.out.l⟩
  · have E := Lib.hid (show false = r by rw [← R.out]; symm; rw [decide_eq_false_iff_not]; exact fun k => hu k.1)
    clear R
    go_wp2
    go_ret
    exact ⟨by rw [← E.out]; rfl, K2.out.l⟩
set_option maxHeartbeats 2000000 in
theorem plSide_any (ax ay bx by' px py : Int) (w : World) :
    Calls Try.prog 10 #[.agg #[.int .i64 ax, .int .i64 ay], .agg #[.int .i64 bx, .int .i64 by'], .agg #[.int .i64 px, .int .i64 py]] w fun e w' => e = .returned (.int .i64 (sideP ⟨ax, ay⟩ ⟨bx, by'⟩ ⟨px, py⟩)) ∧ Below w.heap.size w w' := by
  by_cases h : (Rg ax ∧ Rg ay) ∧ (Rg bx ∧ Rg by') ∧ (Rg px ∧ Rg py)
  · have N := Lib.hid (show nearL [⟨ax, ay⟩, ⟨bx, by'⟩, ⟨px, py⟩] = true by rw [nearL3]; exact decide_eq_true h)
    have E := Lib.hid (show sgnA (area ⟨ax, ay⟩ ⟨bx, by'⟩ ⟨px, py⟩) = sideP ⟨ax, ay⟩ ⟨bx, by'⟩ ⟨px, py⟩ from (if_pos (show Pt.near ⟨ax, ay⟩ ∧ Pt.near ⟨bx, by'⟩ ∧ Pt.near ⟨px, py⟩ from h)).symm)
    have F := area_fit h.1.1 h.1.2 h.2.1.1 h.2.1.2 h.2.2.1 h.2.2.2
    have X := Lib.hid (fun (W : World) => plArea_any ax ay bx by' px py _ W h.1.1 h.1.2 h.2.1.1 h.2.1.2 h.2.2.1 h.2.2.2 rfl)
    have S := Lib.hid (fun (W : World) => Sign_n (area ⟨ax, ay⟩ ⟨bx, by'⟩ ⟨px, py⟩) W F.2.2.2.2)
    rw [cmp_sgn', E.out] at S
    generalize sideP ⟨ax, ay⟩ ⟨bx, by'⟩ ⟨px, py⟩ = r at *
    generalize area ⟨ax, ay⟩ ⟨bx, by'⟩ ⟨px, py⟩ = A at *
    clear F E h
    go_enter Try.func10, Try.ntmps10
    go_wp2_with fail
    refine calls_gen (S := fun W => St w W (PaL w ax ay bx by' px py) ∧ PW W (w.heap.size + 1 + 1 + 1) [⟨ax, ay⟩, ⟨bx, by'⟩, ⟨px, py⟩])
      ⟨pa_new ((((BW.new w w.heap.size [_, _] _ rfl).alloc _).alloc _).alloc _) (((BW.new _ _ [_, _] _ (by simp)).alloc _).alloc _) ((BW.new _ _ [_, _] _ (by simp)).alloc _) (by repeat (first | exact Below.refl _ _ | assumption | refine Below.setCell ?_ (by first | omega | (simp; done) | (simp; omega)) _ | refine Below.alloc ?_ (by first | omega | (simp; done) | (simp; omega)) _ | refine below_drewN ?_ _ | refine Below.drew ?_ | refine Below.trans ?_ (Below.mono (by assumption) (by first | omega | (simp; done) | (simp; omega))))), PW.three (BW.new _ _ [_, _, _, _, _, _] _ (by simp))⟩ (fun W0 hS => ?_)
    have K0 := Lib.hid hS.1
    refine (plWithin_any _ 3 _ _ rfl (by omega) hS.2).mono ?_
    clear hS
    rintro e w1 ⟨rfl, h⟩
    have K1 := Lib.hid (K0.out.step h)
    clear h K0
    rw [N.out]
    obtain ⟨⟨a0, a1⟩, ⟨b0, b1⟩, ⟨p0, p1⟩⟩ := pa_sv K1.out
    go_wp2_with fail
    refine (X.out _).mono ?_
    rintro e w2 ⟨rfl, h⟩
    have K2 := Lib.hid (K1.out.step h)
    clear h K1 X a0 a1 b0 b1 p0 p1
    go_wp2_with fail
    refine (S.out _).mono ?_
    rintro e w3 ⟨rfl, h⟩
    have K3 := Lib.hid (K2.out.step h)
    clear h K2 S
    go_wp2
    go_ret
    exact ⟨rfl, K3.out.l⟩
  · have N := Lib.hid (show nearL [⟨ax, ay⟩, ⟨bx, by'⟩, ⟨px, py⟩] = false by rw [nearL3]; exact decide_eq_false h)
    have E := Lib.hid (show (0 : Int) = sideP ⟨ax, ay⟩ ⟨bx, by'⟩ ⟨px, py⟩ from (if_neg (show ¬ (Pt.near ⟨ax, ay⟩ ∧ Pt.near ⟨bx, by'⟩ ∧ Pt.near ⟨px, py⟩) from h)).symm)
    clear h
    go_enter Try.func10, Try.ntmps10
    go_wp2_with fail
    refine calls_gen (S := fun W => St w W (PaL w ax ay bx by' px py) ∧ PW W (w.heap.size + 1 + 1 + 1) [⟨ax, ay⟩, ⟨bx, by'⟩, ⟨px, py⟩])
      ⟨pa_new ((((BW.new w w.heap.size [_, _] _ rfl).alloc _).alloc _).alloc _) (((BW.new _ _ [_, _] _ (by simp)).alloc _).alloc _) ((BW.new _ _ [_, _] _ (by simp)).alloc _) (by repeat (first | exact Below.refl _ _ | assumption | refine Below.setCell ?_ (by first | omega | (simp; done) | (simp; omega)) _ | refine Below.alloc ?_ (by first | omega | (simp; done) | (simp; omega)) _ | refine below_drewN ?_ _ | refine Below.drew ?_ | refine Below.trans ?_ (Below.mono (by assumption) (by first | omega | (simp; done) | (simp; omega))))), PW.three (BW.new _ _ [_, _, _, _, _, _] _ (by simp))⟩ (fun W0 hS => ?_)
    have K0 := Lib.hid hS.1
    refine (plWithin_any _ 3 _ _ rfl (by omega) hS.2).mono ?_
    clear hS
    rintro e w1 ⟨rfl, h⟩
    have K1 := Lib.hid (K0.out.step h)
    clear h K0
    rw [N.out]
    go_wp2
    go_ret
    exact ⟨retI E.out, K1.out.l⟩
end Go.Proofs.Ytmfmdipejlnmfaa
