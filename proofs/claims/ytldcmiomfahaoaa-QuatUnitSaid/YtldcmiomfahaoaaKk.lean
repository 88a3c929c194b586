/- The statements' own unit of stage 6; what fits of a unit attitude's matrix. -/
import Derived.Test.YtldcmiomfahaoaaKh
import Derived.Test.YtldcmiomfahaoaaKy
namespace Go.Proofs.Ytldcmiomfahaoaa
open Go.RowKit
set_option linter.unusedVariables false
set_option linter.unusedSimpArgs false

theorem mat_ok {qw qx qy qz : Int} (t : Att qw qx qy qz) : matO qw qx qy qz = false := by
  obtain ⟨uW, uX, uY, uZ⟩ := t.un
  obtain ⟨_, a1, a2, a3, a4, a5⟩ := diag_of uY uZ
  obtain ⟨_, b1, b2, b3, b4, b5⟩ := diag_of uX uZ
  obtain ⟨_, c1, c2, c3, c4, c5⟩ := diag_of uX uY
  obtain ⟨_, d1, d2, d3, d4⟩ := off_of uX uY uW uZ
  obtain ⟨_, e1, e2, e3, e4⟩ := on_of uX uY uW uZ
  obtain ⟨_, f1, f2, f3, f4⟩ := on_of uX uZ uW uY
  obtain ⟨_, g1, g2, g3, g4⟩ := off_of uX uZ uW uY
  obtain ⟨_, h1, h2, h3, h4⟩ := off_of uY uZ uW uX
  obtain ⟨_, i1, i2, i3, i4⟩ := on_of uY uZ uW uX
  unfold matO
  simp only [a1, a2, a3, a4, a5, b1, b2, b3, b4, b5, c1, c2, c3, c4, c5, d1, d2, d3, d4, e1, e2, e3, e4, f1, f2, f3, f4, g1, g2, g3, g4, h1, h2, h3, h4, i1, i2, i3, i4, Bool.or_false]
theorem dot_ok {a1 a2 a3 b1 b2 b3 : Int} (h : mulO a1 b1 = false ∧ mulO a2 b2 = false ∧ addO (mulF a1 b1) (mulF a2 b2) = false ∧ mulO a3 b3 = false ∧ addO (addF (mulF a1 b1) (mulF a2 b2)) (mulF a3 b3) = false) : dotO a1 a2 a3 b1 b2 b3 = false := by
  unfold dotO
  rw [h.1, h.2.1, h.2.2.1, h.2.2.2.1, h.2.2.2.2]; rfl
/-- attitudes that the statements take -/
def OkQ (qw qx qy qz : Int) : Prop := (false || lenO (qx * qx + qy * qy + qz * qz) || absO qw || addO (lenF (qx * qx + qy * qy + qz * qz)) (absF qw)) = false ∧ 4294967296 ≤ addF (lenF (qx * qx + qy * qy + qz * qz)) (absF qw) ∧ addF (lenF (qx * qx + qy * qy + qz * qz)) (absF qw) ≤ 1099511627776
theorem okQ_att {qw qx qy qz n : Int} (hw : In64 qw) (hn : lenF (qw * qw + qx * qx + qy * qy + qz * qz) = n) (h : OkQ qw qx qy qz) : Att (uW qw n) (uX qx n) (uX qy n) (uX qz n) := by
  obtain ⟨f, lo, hi⟩ := h
  simp only [Bool.or_eq_false_iff] at f
  have K := att_of hw hn f.1.1.2 f.1.2 f.2 lo hi
  have n0 : ¬ n = 0 := by have := K.1; omega
  unfold uW uX
  rw [if_neg n0, if_neg n0, if_neg n0, if_neg n0]
  exact K.2
set_option maxRecDepth 100000 in
set_option maxHeartbeats 4000000 in
theorem qunitLaw_no (qw qx qy qz : Int) (w : World) (hq : In4 qw qx qy qz) (h : ¬ OkQ qw qx qy qz) :
    Calls Try.prog 24 #[.agg #[.int .i64 qw, .int .i64 qx, .int .i64 qy, .int .i64 qz]] w fun e w' => e = .returned (.tuple #[.agg #[.int .i64 0, .int .i64 0, .int .i64 0, .int .i64 0], .bool false]) ∧ Below w.heap.size w w' := by
  unfold OkQ at h
  have X1 := Lib.hid (fun (b : Nat) (W : World) (m : MAt W b 0 false) => VLen_any qx qy qz b 0 false W (in3_of hq.b hq.c hq.d) m)
  have X2 := Lib.hid (fun (b : Nat) (o : Bool) (W : World) (m : MAt W b 0 o) => fxAbs_any qw b 0 o W hq.a.1 hq.a.2 m)
  have X3 := Lib.hid (fun (b : Nat) (o : Bool) (W : World) (m : MAt W b 0 o) => fxAdd_any (lenF (qx * qx + qy * qy + qz * qz)) (absF qw) b 0 o W (by have := lenF_in (qx * qx + qy * qy + qz * qz); omega) (by have := lenF_in (qx * qx + qy * qy + qz * qz); omega) (absF_in hq.a).1 (absF_in hq.a).2 m)
  generalize lenF (qx * qx + qy * qy + qz * qz) = n3 at *
  generalize absF qw = aw at *
  generalize lenO (qx * qx + qy * qy + qz * qz) = f1 at *
  generalize absO qw = f2 at *
  generalize addF n3 aw = nn at *
  generalize addO n3 aw = f3 at *
  clear hq
  by_cases c1 : (false || f1 || f2 || f3) = true
  · have E := Lib.hid c1
    clear h c1
    go_enter Try.func24, Try.ntmps24
    go_wp2_with fail
    refine wp_gen (S := fun W => BW W w.heap.size [.int .i64 qw, .int .i64 qx, .int .i64 qy, .int .i64 qz] ∧ BW W (w.heap.size + 1) [.int .i64 0, .int .i64 0, .int .i64 0, .int .i64 0] ∧ Own w W (w.heap.size + 1 + 1) false ∧ VW W (w.heap.size + 1 + 1 + 1) qx qy qz)
      ⟨(((BW.new w w.heap.size [_, _, _, _] _ rfl).alloc _).alloc _).alloc _, ((BW.new _ (w.heap.size + 1) [_, _, _, _] _ (by simp)).alloc _).alloc _, (own_at (((Below.refl w.heap.size w).alloc (Nat.le_refl _) _).alloc (by simp) _) (by simp) _).more ((Below.refl _ _).alloc (Nat.le_refl _) _), VW.new _ _ qx qy qz _ (by simp)⟩ (fun W0 hS => ?_)
    have A0 := Lib.hid hS.1.drew
    have U0 := Lib.hid hS.2.1.drew
    have T0 := Lib.hid hS.2.2.1.drew
    have B0 := Lib.hid hS.2.2.2.drew
    clear hS
    refine wp_region_held_drew (S := fun W => (W.cell? ⟨w.heap.size, 0, none⟩ = some (.int .i64 qw) ∧ W.cell? ⟨w.heap.size, 1, none⟩ = some (.int .i64 qx) ∧ W.cell? ⟨w.heap.size, 2, none⟩ = some (.int .i64 qy) ∧ W.cell? ⟨w.heap.size, 3, none⟩ = some (.int .i64 qz)) ∧ (W.cell? ⟨w.heap.size + 1 + 1 + 1, 0, none⟩ = some (.int .i64 (qx)) ∧ W.cell? ⟨w.heap.size + 1 + 1 + 1, 1, none⟩ = some (.int .i64 (qy)) ∧ W.cell? ⟨w.heap.size + 1 + 1 + 1, 2, none⟩ = some (.int .i64 (qz)))) (by kernel_rfl) ⟨A0.out.h4, B0.out.held⟩ (fun hHeld => ?_)
    refine wpAnyH_takeD 0 16 (v := ?_) (by kernel_rfl) (by kernel_rfl) (by kernel_rfl) (by kernel_rfl) (by rfl) (fun _ _ _ h => h) ?_ hHeld ?_
    rotate_left 1
    (intro o ho W hSw; simp only [List.getElem?_toArray, List.getElem?_cons_succ, List.getElem?_cons_zero, Option.some.injEq] at ho; subst ho; (try dsimp only at hSw); go_simp; try with_reducible rfl)
    (try simp only [Act.put, List.setIfInBounds_toArray, List.set_cons_zero, List.set_cons_succ])
    refine wpAnyH_takeD 1 17 (v := ?_) (by kernel_rfl) (by kernel_rfl) (by kernel_rfl) (by kernel_rfl) (by rfl) (fun _ _ _ h => h) ?_ hHeld ?_
    rotate_left 1
    (intro o ho W hSw; simp only [List.getElem?_toArray, List.getElem?_cons_succ, List.getElem?_cons_zero, Option.some.injEq] at ho; subst ho; (try dsimp only at hSw); go_simp; try with_reducible rfl)
    (try simp only [Act.put, List.setIfInBounds_toArray, List.set_cons_zero, List.set_cons_succ])
    refine wpAnyH_takeD 2 18 (v := ?_) (by kernel_rfl) (by kernel_rfl) (by kernel_rfl) (by kernel_rfl) (by rfl) (fun _ _ _ h => h) ?_ hHeld ?_
    rotate_left 1
    (intro o ho W hSw; simp only [List.getElem?_toArray, List.getElem?_cons_succ, List.getElem?_cons_zero, Option.some.injEq] at ho; subst ho; (try dsimp only at hSw); go_simp; try with_reducible rfl)
    (try simp only [Act.put, List.setIfInBounds_toArray, List.set_cons_zero, List.set_cons_succ])
    refine wpAnyH_takeD 4 20 (v := ?_) (by kernel_rfl) (by kernel_rfl) (by kernel_rfl) (by kernel_rfl) (by rfl) (fun _ _ _ h => h) ?_ hHeld ?_
    rotate_left 1
    (intro o ho W hSw; simp only [List.getElem?_toArray, List.getElem?_cons_succ, List.getElem?_cons_zero, Option.some.injEq] at ho; subst ho; (try dsimp only at hSw); go_simp; try with_reducible rfl)
    (try simp only [Act.put, List.setIfInBounds_toArray, List.set_cons_zero, List.set_cons_succ])
    refine wpAnyH_takeD 5 21 (v := ?_) (by kernel_rfl) (by kernel_rfl) (by kernel_rfl) (by kernel_rfl) (by rfl) (fun _ _ _ h => h) ?_ hHeld ?_
    rotate_left 1
    (intro o ho W hSw; simp only [List.getElem?_toArray, List.getElem?_cons_succ, List.getElem?_cons_zero, Option.some.injEq] at ho; subst ho; (try dsimp only at hSw); go_simp; try with_reducible rfl)
    (try simp only [Act.put, List.setIfInBounds_toArray, List.set_cons_zero, List.set_cons_succ])
    refine wpAnyH_takeD 6 22 (v := ?_) (by kernel_rfl) (by kernel_rfl) (by kernel_rfl) (by kernel_rfl) (by rfl) (fun _ _ _ h => h) ?_ hHeld ?_
    rotate_left 1
    (intro o ho W hSw; simp only [List.getElem?_toArray, List.getElem?_cons_succ, List.getElem?_cons_zero, Option.some.injEq] at ho; subst ho; (try dsimp only at hSw); go_simp; try with_reducible rfl)
    (try simp only [Act.put, List.setIfInBounds_toArray, List.set_cons_zero, List.set_cons_succ])
    refine wpAnyH_onlyD 3 (by kernel_rfl) (fun o ho K hK => ?_) (by kernel_rfl)
    simp only [List.getElem?_toArray, List.getElem?_cons_succ, List.getElem?_cons_zero, Option.some.injEq] at ho
    subst ho
    go_simp
    refine (X1.out _ _ T0.out.a).mono ?_
    rintro e w1 ⟨rfl, h⟩
    have T1 := Lib.hid (T0.out.fst h)
    have A1 := Lib.hid (A0.out.fx h (by omega))
    (try have B1 := Lib.hid (B0.out.fx h (by omega)))
    (try have U1 := Lib.hid (U0.out.fx h (by omega)))
    (try have V1 := Lib.hid (V0.out.fx h (by omega)))
    go_wp2_with fail
    refine hK.out _ _ (⟨A1.out.h4, B1.out.held⟩) ?_
    clear hK K hHeld
    intro hHeld
    clear h T0 A0
    (try clear B0)
    (try clear U0)
    (try clear V0)
    refine wpAnyH_onlyD 7 (by kernel_rfl) (fun o ho K hK => ?_) (by kernel_rfl)
    simp only [List.getElem?_toArray, List.getElem?_cons_succ, List.getElem?_cons_zero, Option.some.injEq] at ho
    subst ho
    go_simp
    refine (X2.out _ _ _ T1.out.a).mono ?_
    rintro e w2 ⟨rfl, h⟩
    have T2 := Lib.hid (T1.out.fst h)
    have A2 := Lib.hid (A1.out.fx h (by omega))
    (try have B2 := Lib.hid (B1.out.fx h (by omega)))
    (try have U2 := Lib.hid (U1.out.fx h (by omega)))
    (try have V2 := Lib.hid (V1.out.fx h (by omega)))
    go_wp2_with fail
    refine hK.out _ _ (⟨A2.out.h4, B2.out.held⟩) ?_
    clear hK K hHeld
    intro hHeld
    clear h T1 A1
    (try clear B1)
    (try clear U1)
    (try clear V1)
    refine wpAnyH_onlyD 8 (by kernel_rfl) (fun o ho K hK => ?_) (by kernel_rfl)
    simp only [List.getElem?_toArray, List.getElem?_cons_succ, List.getElem?_cons_zero, Option.some.injEq] at ho
    subst ho
    go_simp
    refine (X3.out _ _ _ T2.out.a).mono ?_
    rintro e w3 ⟨rfl, h⟩
    have T3 := Lib.hid (T2.out.fst h)
    have A3 := Lib.hid (A2.out.fx h (by omega))
    (try have B3 := Lib.hid (B2.out.fx h (by omega)))
    (try have U3 := Lib.hid (U2.out.fx h (by omega)))
    (try have V3 := Lib.hid (V2.out.fx h (by omega)))
    go_wp2_with fail
    refine hK.out _ _ (⟨A3.out.h4, B3.out.held⟩) ?_
    clear hK K hHeld
    intro hHeld
    clear h T2 A2
    (try clear B2)
    (try clear U2)
    (try clear V2)
    refine wpAnyH_takeD 9 6 (v := ?_) (by kernel_rfl) (by kernel_rfl) (by kernel_rfl) (by kernel_rfl) (by rfl) (fun _ _ _ h => h) ?_ hHeld ?_
    rotate_left 1
    (intro o ho W hSw; simp only [List.getElem?_toArray, List.getElem?_cons_succ, List.getElem?_cons_zero, Option.some.injEq] at ho; subst ho; (try dsimp only at hSw); go_simp; try with_reducible rfl)
    (try simp only [Act.put, List.setIfInBounds_toArray, List.set_cons_zero, List.set_cons_succ])
    refine wpAnyH_done (by kernel_rfl) ?_ _
    have fc := T3.out.a.c
    obtain ⟨r0, r1, r2, r3⟩ := U3.out.h4
    have rf := U3.out.f
    obtain ⟨a0, a1, a2, a3⟩ := A3.out.h4
    have af := A3.out.f
    clear X1 X2 X3 hHeld
    rw [E.out] at fc
    go_wp2
    exact bodyPost_ret (v := .tuple #[.agg #[.int .i64 0, .int .i64 0, .int .i64 0, .int .i64 0], .bool false]) (by simp [results, Try.results24, go_sem, r0, r1, r2, r3]) rfl ⟨rfl, (((T3.out.bl.setCell (p := ⟨w.heap.size + 1, 0, none⟩) (by simp) _).setCell (p := ⟨w.heap.size + 1, 1, none⟩) (by simp) _).setCell (p := ⟨w.heap.size + 1, 2, none⟩) (by simp) _).setCell (p := ⟨w.heap.size + 1, 3, none⟩) (by simp) _⟩
  · have E := Lib.hid (show (false || f1 || f2 || f3) = false by simpa using c1)
    rw [E.out] at h
    clear c1
    by_cases c2 : nn < 4294967296
    · clear h
      go_enter Try.func24, Try.ntmps24
      go_wp2_with fail
      refine wp_gen (S := fun W => BW W w.heap.size [.int .i64 qw, .int .i64 qx, .int .i64 qy, .int .i64 qz] ∧ BW W (w.heap.size + 1) [.int .i64 0, .int .i64 0, .int .i64 0, .int .i64 0] ∧ Own w W (w.heap.size + 1 + 1) false ∧ VW W (w.heap.size + 1 + 1 + 1) qx qy qz)
        ⟨(((BW.new w w.heap.size [_, _, _, _] _ rfl).alloc _).alloc _).alloc _, ((BW.new _ (w.heap.size + 1) [_, _, _, _] _ (by simp)).alloc _).alloc _, (own_at (((Below.refl w.heap.size w).alloc (Nat.le_refl _) _).alloc (by simp) _) (by simp) _).more ((Below.refl _ _).alloc (Nat.le_refl _) _), VW.new _ _ qx qy qz _ (by simp)⟩ (fun W0 hS => ?_)
      have A0 := Lib.hid hS.1.drew
      have U0 := Lib.hid hS.2.1.drew
      have T0 := Lib.hid hS.2.2.1.drew
      have B0 := Lib.hid hS.2.2.2.drew
      clear hS
      refine wp_region_held_drew (S := fun W => (W.cell? ⟨w.heap.size, 0, none⟩ = some (.int .i64 qw) ∧ W.cell? ⟨w.heap.size, 1, none⟩ = some (.int .i64 qx) ∧ W.cell? ⟨w.heap.size, 2, none⟩ = some (.int .i64 qy) ∧ W.cell? ⟨w.heap.size, 3, none⟩ = some (.int .i64 qz)) ∧ (W.cell? ⟨w.heap.size + 1 + 1 + 1, 0, none⟩ = some (.int .i64 (qx)) ∧ W.cell? ⟨w.heap.size + 1 + 1 + 1, 1, none⟩ = some (.int .i64 (qy)) ∧ W.cell? ⟨w.heap.size + 1 + 1 + 1, 2, none⟩ = some (.int .i64 (qz)))) (by kernel_rfl) ⟨A0.out.h4, B0.out.held⟩ (fun hHeld => ?_)
      refine wpAnyH_takeD 0 16 (v := ?_) (by kernel_rfl) (by kernel_rfl) (by kernel_rfl) (by kernel_rfl) (by rfl) (fun _ _ _ h => h) ?_ hHeld ?_
      rotate_left 1
      (intro o ho W hSw; simp only [List.getElem?_toArray, List.getElem?_cons_succ, List.getElem?_cons_zero, Option.some.injEq] at ho; subst ho; (try dsimp only at hSw); go_simp; try with_reducible rfl)
      (try simp only [Act.put, List.setIfInBounds_toArray, List.set_cons_zero, List.set_cons_succ])
      refine wpAnyH_takeD 1 17 (v := ?_) (by kernel_rfl) (by kernel_rfl) (by kernel_rfl) (by kernel_rfl) (by rfl) (fun _ _ _ h => h) ?_ hHeld ?_
      rotate_left 1
      (intro o ho W hSw; simp only [List.getElem?_toArray, List.getElem?_cons_succ, List.getElem?_cons_zero, Option.some.injEq] at ho; subst ho; (try dsimp only at hSw); go_simp; try with_reducible rfl)
      (try simp only [Act.put, List.setIfInBounds_toArray, List.set_cons_zero, List.set_cons_succ])
      refine wpAnyH_takeD 2 18 (v := ?_) (by kernel_rfl) (by kernel_rfl) (by kernel_rfl) (by kernel_rfl) (by rfl) (fun _ _ _ h => h) ?_ hHeld ?_
      rotate_left 1
      (intro o ho W hSw; simp only [List.getElem?_toArray, List.getElem?_cons_succ, List.getElem?_cons_zero, Option.some.injEq] at ho; subst ho; (try dsimp only at hSw); go_simp; try with_reducible rfl)
      (try simp only [Act.put, List.setIfInBounds_toArray, List.set_cons_zero, List.set_cons_succ])
      refine wpAnyH_takeD 4 20 (v := ?_) (by kernel_rfl) (by kernel_rfl) (by kernel_rfl) (by kernel_rfl) (by rfl) (fun _ _ _ h => h) ?_ hHeld ?_
      rotate_left 1
      (intro o ho W hSw; simp only [List.getElem?_toArray, List.getElem?_cons_succ, List.getElem?_cons_zero, Option.some.injEq] at ho; subst ho; (try dsimp only at hSw); go_simp; try with_reducible rfl)
      (try simp only [Act.put, List.setIfInBounds_toArray, List.set_cons_zero, List.set_cons_succ])
      refine wpAnyH_takeD 5 21 (v := ?_) (by kernel_rfl) (by kernel_rfl) (by kernel_rfl) (by kernel_rfl) (by rfl) (fun _ _ _ h => h) ?_ hHeld ?_
      rotate_left 1
      (intro o ho W hSw; simp only [List.getElem?_toArray, List.getElem?_cons_succ, List.getElem?_cons_zero, Option.some.injEq] at ho; subst ho; (try dsimp only at hSw); go_simp; try with_reducible rfl)
      (try simp only [Act.put, List.setIfInBounds_toArray, List.set_cons_zero, List.set_cons_succ])
      refine wpAnyH_takeD 6 22 (v := ?_) (by kernel_rfl) (by kernel_rfl) (by kernel_rfl) (by kernel_rfl) (by rfl) (fun _ _ _ h => h) ?_ hHeld ?_
      rotate_left 1
      (intro o ho W hSw; simp only [List.getElem?_toArray, List.getElem?_cons_succ, List.getElem?_cons_zero, Option.some.injEq] at ho; subst ho; (try dsimp only at hSw); go_simp; try with_reducible rfl)
      (try simp only [Act.put, List.setIfInBounds_toArray, List.set_cons_zero, List.set_cons_succ])
      refine wpAnyH_onlyD 3 (by kernel_rfl) (fun o ho K hK => ?_) (by kernel_rfl)
      simp only [List.getElem?_toArray, List.getElem?_cons_succ, List.getElem?_cons_zero, Option.some.injEq] at ho
      subst ho
      go_simp
      refine (X1.out _ _ T0.out.a).mono ?_
      rintro e w1 ⟨rfl, h⟩
      have T1 := Lib.hid (T0.out.fst h)
      have A1 := Lib.hid (A0.out.fx h (by omega))
      (try have B1 := Lib.hid (B0.out.fx h (by omega)))
      (try have U1 := Lib.hid (U0.out.fx h (by omega)))
      (try have V1 := Lib.hid (V0.out.fx h (by omega)))
      go_wp2_with fail
      refine hK.out _ _ (⟨A1.out.h4, B1.out.held⟩) ?_
      clear hK K hHeld
      intro hHeld
      clear h T0 A0
      (try clear B0)
      (try clear U0)
      (try clear V0)
      refine wpAnyH_onlyD 7 (by kernel_rfl) (fun o ho K hK => ?_) (by kernel_rfl)
      simp only [List.getElem?_toArray, List.getElem?_cons_succ, List.getElem?_cons_zero, Option.some.injEq] at ho
      subst ho
      go_simp
      refine (X2.out _ _ _ T1.out.a).mono ?_
      rintro e w2 ⟨rfl, h⟩
      have T2 := Lib.hid (T1.out.fst h)
      have A2 := Lib.hid (A1.out.fx h (by omega))
      (try have B2 := Lib.hid (B1.out.fx h (by omega)))
      (try have U2 := Lib.hid (U1.out.fx h (by omega)))
      (try have V2 := Lib.hid (V1.out.fx h (by omega)))
      go_wp2_with fail
      refine hK.out _ _ (⟨A2.out.h4, B2.out.held⟩) ?_
      clear hK K hHeld
      intro hHeld
      clear h T1 A1
      (try clear B1)
      (try clear U1)
      (try clear V1)
      refine wpAnyH_onlyD 8 (by kernel_rfl) (fun o ho K hK => ?_) (by kernel_rfl)
      simp only [List.getElem?_toArray, List.getElem?_cons_succ, List.getElem?_cons_zero, Option.some.injEq] at ho
      subst ho
      go_simp
      refine (X3.out _ _ _ T2.out.a).mono ?_
      rintro e w3 ⟨rfl, h⟩
      have T3 := Lib.hid (T2.out.fst h)
      have A3 := Lib.hid (A2.out.fx h (by omega))
      (try have B3 := Lib.hid (B2.out.fx h (by omega)))
      (try have U3 := Lib.hid (U2.out.fx h (by omega)))
      (try have V3 := Lib.hid (V2.out.fx h (by omega)))
      go_wp2_with fail
      refine hK.out _ _ (⟨A3.out.h4, B3.out.held⟩) ?_
      clear hK K hHeld
      intro hHeld
      clear h T2 A2
      (try clear B2)
      (try clear U2)
      (try clear V2)
      refine wpAnyH_takeD 9 6 (v := ?_) (by kernel_rfl) (by kernel_rfl) (by kernel_rfl) (by kernel_rfl) (by rfl) (fun _ _ _ h => h) ?_ hHeld ?_
      rotate_left 1
      (intro o ho W hSw; simp only [List.getElem?_toArray, List.getElem?_cons_succ, List.getElem?_cons_zero, Option.some.injEq] at ho; subst ho; (try dsimp only at hSw); go_simp; try with_reducible rfl)
      (try simp only [Act.put, List.setIfInBounds_toArray, List.set_cons_zero, List.set_cons_succ])
      refine wpAnyH_done (by kernel_rfl) ?_ _
      have fc := T3.out.a.c
      obtain ⟨r0, r1, r2, r3⟩ := U3.out.h4
      have rf := U3.out.f
      obtain ⟨a0, a1, a2, a3⟩ := A3.out.h4
      have af := A3.out.f
      clear X1 X2 X3 hHeld
      rw [E.out] at fc
      go_wp2
      exact bodyPost_ret (v := .tuple #[.agg #[.int .i64 0, .int .i64 0, .int .i64 0, .int .i64 0], .bool false]) (by simp [results, Try.results24, go_sem, r0, r1, r2, r3]) rfl ⟨rfl, (((T3.out.bl.setCell (p := ⟨w.heap.size + 1, 0, none⟩) (by simp) _).setCell (p := ⟨w.heap.size + 1, 1, none⟩) (by simp) _).setCell (p := ⟨w.heap.size + 1, 2, none⟩) (by simp) _).setCell (p := ⟨w.heap.size + 1, 3, none⟩) (by simp) _⟩
    · have c3 : 1099511627776 < nn := by
        apply Classical.byContradiction
        intro k
        exact h ⟨rfl, by omega, by omega⟩
      clear h
      go_enter Try.func24, Try.ntmps24
      go_wp2_with fail
      refine wp_gen (S := fun W => BW W w.heap.size [.int .i64 qw, .int .i64 qx, .int .i64 qy, .int .i64 qz] ∧ BW W (w.heap.size + 1) [.int .i64 0, .int .i64 0, .int .i64 0, .int .i64 0] ∧ Own w W (w.heap.size + 1 + 1) false ∧ VW W (w.heap.size + 1 + 1 + 1) qx qy qz)
        ⟨(((BW.new w w.heap.size [_, _, _, _] _ rfl).alloc _).alloc _).alloc _, ((BW.new _ (w.heap.size + 1) [_, _, _, _] _ (by simp)).alloc _).alloc _, (own_at (((Below.refl w.heap.size w).alloc (Nat.le_refl _) _).alloc (by simp) _) (by simp) _).more ((Below.refl _ _).alloc (Nat.le_refl _) _), VW.new _ _ qx qy qz _ (by simp)⟩ (fun W0 hS => ?_)
      have A0 := Lib.hid hS.1.drew
      have U0 := Lib.hid hS.2.1.drew
      have T0 := Lib.hid hS.2.2.1.drew
      have B0 := Lib.hid hS.2.2.2.drew
      clear hS
      refine wp_region_held_drew (S := fun W => (W.cell? ⟨w.heap.size, 0, none⟩ = some (.int .i64 qw) ∧ W.cell? ⟨w.heap.size, 1, none⟩ = some (.int .i64 qx) ∧ W.cell? ⟨w.heap.size, 2, none⟩ = some (.int .i64 qy) ∧ W.cell? ⟨w.heap.size, 3, none⟩ = some (.int .i64 qz)) ∧ (W.cell? ⟨w.heap.size + 1 + 1 + 1, 0, none⟩ = some (.int .i64 (qx)) ∧ W.cell? ⟨w.heap.size + 1 + 1 + 1, 1, none⟩ = some (.int .i64 (qy)) ∧ W.cell? ⟨w.heap.size + 1 + 1 + 1, 2, none⟩ = some (.int .i64 (qz)))) (by kernel_rfl) ⟨A0.out.h4, B0.out.held⟩ (fun hHeld => ?_)
      refine wpAnyH_takeD 0 16 (v := ?_) (by kernel_rfl) (by kernel_rfl) (by kernel_rfl) (by kernel_rfl) (by rfl) (fun _ _ _ h => h) ?_ hHeld ?_
      rotate_left 1
      (intro o ho W hSw; simp only [List.getElem?_toArray, List.getElem?_cons_succ, List.getElem?_cons_zero, Option.some.injEq] at ho; subst ho; (try dsimp only at hSw); go_simp; try with_reducible rfl)
      (try simp only [Act.put, List.setIfInBounds_toArray, List.set_cons_zero, List.set_cons_succ])
      refine wpAnyH_takeD 1 17 (v := ?_) (by kernel_rfl) (by kernel_rfl) (by kernel_rfl) (by kernel_rfl) (by rfl) (fun _ _ _ h => h) ?_ hHeld ?_
      rotate_left 1
      (intro o ho W hSw; simp only [List.getElem?_toArray, List.getElem?_cons_succ, List.getElem?_cons_zero, Option.some.injEq] at ho; subst ho; (try dsimp only at hSw); go_simp; try with_reducible rfl)
      (try simp only [Act.put, List.setIfInBounds_toArray, List.set_cons_zero, List.set_cons_succ])
      refine wpAnyH_takeD 2 18 (v := ?_) (by kernel_rfl) (by kernel_rfl) (by kernel_rfl) (by kernel_rfl) (by rfl) (fun _ _ _ h => h) ?_ hHeld ?_
      rotate_left 1
      (intro o ho W hSw; simp only [List.getElem?_toArray, List.getElem?_cons_succ, List.getElem?_cons_zero, Option.some.injEq] at ho; subst ho; (try dsimp only at hSw); go_simp; try with_reducible rfl)
      (try simp only [Act.put, List.setIfInBounds_toArray, List.set_cons_zero, List.set_cons_succ])
      refine wpAnyH_takeD 4 20 (v := ?_) (by kernel_rfl) (by kernel_rfl) (by kernel_rfl) (by kernel_rfl) (by rfl) (fun _ _ _ h => h) ?_ hHeld ?_
      rotate_left 1
      (intro o ho W hSw; simp only [List.getElem?_toArray, List.getElem?_cons_succ, List.getElem?_cons_zero, Option.some.injEq] at ho; subst ho; (try dsimp only at hSw); go_simp; try with_reducible rfl)
      (try simp only [Act.put, List.setIfInBounds_toArray, List.set_cons_zero, List.set_cons_succ])
      refine wpAnyH_takeD 5 21 (v := ?_) (by kernel_rfl) (by kernel_rfl) (by kernel_rfl) (by kernel_rfl) (by rfl) (fun _ _ _ h => h) ?_ hHeld ?_
      rotate_left 1
      (intro o ho W hSw; simp only [List.getElem?_toArray, List.getElem?_cons_succ, List.getElem?_cons_zero, Option.some.injEq] at ho; subst ho; (try dsimp only at hSw); go_simp; try with_reducible rfl)
      (try simp only [Act.put, List.setIfInBounds_toArray, List.set_cons_zero, List.set_cons_succ])
      refine wpAnyH_takeD 6 22 (v := ?_) (by kernel_rfl) (by kernel_rfl) (by kernel_rfl) (by kernel_rfl) (by rfl) (fun _ _ _ h => h) ?_ hHeld ?_
      rotate_left 1
      (intro o ho W hSw; simp only [List.getElem?_toArray, List.getElem?_cons_succ, List.getElem?_cons_zero, Option.some.injEq] at ho; subst ho; (try dsimp only at hSw); go_simp; try with_reducible rfl)
      (try simp only [Act.put, List.setIfInBounds_toArray, List.set_cons_zero, List.set_cons_succ])
      refine wpAnyH_onlyD 3 (by kernel_rfl) (fun o ho K hK => ?_) (by kernel_rfl)
      simp only [List.getElem?_toArray, List.getElem?_cons_succ, List.getElem?_cons_zero, Option.some.injEq] at ho
      subst ho
      go_simp
      refine (X1.out _ _ T0.out.a).mono ?_
      rintro e w1 ⟨rfl, h⟩
      have T1 := Lib.hid (T0.out.fst h)
      have A1 := Lib.hid (A0.out.fx h (by omega))
      (try have B1 := Lib.hid (B0.out.fx h (by omega)))
      (try have U1 := Lib.hid (U0.out.fx h (by omega)))
      (try have V1 := Lib.hid (V0.out.fx h (by omega)))
      go_wp2_with fail
      refine hK.out _ _ (⟨A1.out.h4, B1.out.held⟩) ?_
      clear hK K hHeld
      intro hHeld
      clear h T0 A0
      (try clear B0)
      (try clear U0)
      (try clear V0)
      refine wpAnyH_onlyD 7 (by kernel_rfl) (fun o ho K hK => ?_) (by kernel_rfl)
      simp only [List.getElem?_toArray, List.getElem?_cons_succ, List.getElem?_cons_zero, Option.some.injEq] at ho
      subst ho
      go_simp
      refine (X2.out _ _ _ T1.out.a).mono ?_
      rintro e w2 ⟨rfl, h⟩
      have T2 := Lib.hid (T1.out.fst h)
      have A2 := Lib.hid (A1.out.fx h (by omega))
      (try have B2 := Lib.hid (B1.out.fx h (by omega)))
      (try have U2 := Lib.hid (U1.out.fx h (by omega)))
      (try have V2 := Lib.hid (V1.out.fx h (by omega)))
      go_wp2_with fail
      refine hK.out _ _ (⟨A2.out.h4, B2.out.held⟩) ?_
      clear hK K hHeld
      intro hHeld
      clear h T1 A1
      (try clear B1)
      (try clear U1)
      (try clear V1)
      refine wpAnyH_onlyD 8 (by kernel_rfl) (fun o ho K hK => ?_) (by kernel_rfl)
      simp only [List.getElem?_toArray, List.getElem?_cons_succ, List.getElem?_cons_zero, Option.some.injEq] at ho
      subst ho
      go_simp
      refine (X3.out _ _ _ T2.out.a).mono ?_
      rintro e w3 ⟨rfl, h⟩
      have T3 := Lib.hid (T2.out.fst h)
      have A3 := Lib.hid (A2.out.fx h (by omega))
      (try have B3 := Lib.hid (B2.out.fx h (by omega)))
      (try have U3 := Lib.hid (U2.out.fx h (by omega)))
      (try have V3 := Lib.hid (V2.out.fx h (by omega)))
      go_wp2_with fail
      refine hK.out _ _ (⟨A3.out.h4, B3.out.held⟩) ?_
      clear hK K hHeld
      intro hHeld
      clear h T2 A2
      (try clear B2)
      (try clear U2)
      (try clear V2)
      refine wpAnyH_takeD 9 6 (v := ?_) (by kernel_rfl) (by kernel_rfl) (by kernel_rfl) (by kernel_rfl) (by rfl) (fun _ _ _ h => h) ?_ hHeld ?_
      rotate_left 1
      (intro o ho W hSw; simp only [List.getElem?_toArray, List.getElem?_cons_succ, List.getElem?_cons_zero, Option.some.injEq] at ho; subst ho; (try dsimp only at hSw); go_simp; try with_reducible rfl)
      (try simp only [Act.put, List.setIfInBounds_toArray, List.set_cons_zero, List.set_cons_succ])
      refine wpAnyH_done (by kernel_rfl) ?_ _
      have fc := T3.out.a.c
      obtain ⟨r0, r1, r2, r3⟩ := U3.out.h4
      have rf := U3.out.f
      obtain ⟨a0, a1, a2, a3⟩ := A3.out.h4
      have af := A3.out.f
      clear X1 X2 X3 hHeld
      rw [E.out] at fc
      go_wp2
      exact bodyPost_ret (v := .tuple #[.agg #[.int .i64 0, .int .i64 0, .int .i64 0, .int .i64 0], .bool false]) (by simp [results, Try.results24, go_sem, r0, r1, r2, r3]) rfl ⟨rfl, (((T3.out.bl.setCell (p := ⟨w.heap.size + 1, 0, none⟩) (by simp) _).setCell (p := ⟨w.heap.size + 1, 1, none⟩) (by simp) _).setCell (p := ⟨w.heap.size + 1, 2, none⟩) (by simp) _).setCell (p := ⟨w.heap.size + 1, 3, none⟩) (by simp) _⟩
set_option maxRecDepth 100000 in
set_option maxHeartbeats 4000000 in
theorem qunitLaw_yes (C : QuatC) (qw qx qy qz n : Int) (w : World) (hq : In4 qw qx qy qz) (hn : lenF (qw * qw + qx * qx + qy * qy + qz * qz) = n) (h : OkQ qw qx qy qz) :
    Calls Try.prog 24 #[.agg #[.int .i64 qw, .int .i64 qx, .int .i64 qy, .int .i64 qz]] w fun e w' => e = .returned (.tuple #[.agg #[.int .i64 (uW qw n), .int .i64 (uX qx n), .int .i64 (uX qy n), .int .i64 (uX qz n)], .bool true]) ∧ Below w.heap.size w w' := by
  have X4 := Lib.hid (fun (b : Nat) (W : World) (m : MAt W b 0 false) => C.unit qw qx qy qz n b 0 false W hq hn m)
  generalize uW qw n = u1 at *
  generalize uX qx n = u2 at *
  generalize uX qy n = u3 at *
  generalize uX qz n = u4 at *
  unfold OkQ at h
  have X1 := Lib.hid (fun (b : Nat) (W : World) (m : MAt W b 0 false) => VLen_any qx qy qz b 0 false W (in3_of hq.b hq.c hq.d) m)
  have X2 := Lib.hid (fun (b : Nat) (o : Bool) (W : World) (m : MAt W b 0 o) => fxAbs_any qw b 0 o W hq.a.1 hq.a.2 m)
  have X3 := Lib.hid (fun (b : Nat) (o : Bool) (W : World) (m : MAt W b 0 o) => fxAdd_any (lenF (qx * qx + qy * qy + qz * qz)) (absF qw) b 0 o W (by have := lenF_in (qx * qx + qy * qy + qz * qz); omega) (by have := lenF_in (qx * qx + qy * qy + qz * qz); omega) (absF_in hq.a).1 (absF_in hq.a).2 m)
  generalize lenF (qx * qx + qy * qy + qz * qz) = n3 at *
  generalize absF qw = aw at *
  generalize lenO (qx * qx + qy * qy + qz * qz) = f1 at *
  generalize absO qw = f2 at *
  generalize addF n3 aw = nn at *
  generalize addO n3 aw = f3 at *
  have E := Lib.hid h.1
  have c2 : 4294967296 ≤ nn := h.2.1
  have c3 : nn ≤ 1099511627776 := h.2.2
  clear hq h hn C
  go_enter Try.func24, Try.ntmps24
  go_wp2_with fail
  refine wp_gen (S := fun W => BW W w.heap.size [.int .i64 qw, .int .i64 qx, .int .i64 qy, .int .i64 qz] ∧ BW W (w.heap.size + 1) [.int .i64 0, .int .i64 0, .int .i64 0, .int .i64 0] ∧ Own w W (w.heap.size + 1 + 1) false ∧ VW W (w.heap.size + 1 + 1 + 1) qx qy qz)
    ⟨(((BW.new w w.heap.size [_, _, _, _] _ rfl).alloc _).alloc _).alloc _, ((BW.new _ (w.heap.size + 1) [_, _, _, _] _ (by simp)).alloc _).alloc _, (own_at (((Below.refl w.heap.size w).alloc (Nat.le_refl _) _).alloc (by simp) _) (by simp) _).more ((Below.refl _ _).alloc (Nat.le_refl _) _), VW.new _ _ qx qy qz _ (by simp)⟩ (fun W0 hS => ?_)
  have A0 := Lib.hid hS.1.drew
  have U0 := Lib.hid hS.2.1.drew
  have T0 := Lib.hid hS.2.2.1.drew
  have B0 := Lib.hid hS.2.2.2.drew
  clear hS
  refine wp_region_held_drew (S := fun W => (W.cell? ⟨w.heap.size, 0, none⟩ = some (.int .i64 qw) ∧ W.cell? ⟨w.heap.size, 1, none⟩ = some (.int .i64 qx) ∧ W.cell? ⟨w.heap.size, 2, none⟩ = some (.int .i64 qy) ∧ W.cell? ⟨w.heap.size, 3, none⟩ = some (.int .i64 qz)) ∧ (W.cell? ⟨w.heap.size + 1 + 1 + 1, 0, none⟩ = some (.int .i64 (qx)) ∧ W.cell? ⟨w.heap.size + 1 + 1 + 1, 1, none⟩ = some (.int .i64 (qy)) ∧ W.cell? ⟨w.heap.size + 1 + 1 + 1, 2, none⟩ = some (.int .i64 (qz)))) (by kernel_rfl) ⟨A0.out.h4, B0.out.held⟩ (fun hHeld => ?_)
  refine wpAnyH_takeD 0 16 (v := ?_) (by kernel_rfl) (by kernel_rfl) (by kernel_rfl) (by kernel_rfl) (by rfl) (fun _ _ _ h => h) ?_ hHeld ?_
  rotate_left 1
  (intro o ho W hSw; simp only [List.getElem?_toArray, List.getElem?_cons_succ, List.getElem?_cons_zero, Option.some.injEq] at ho; subst ho; (try dsimp only at hSw); go_simp; try with_reducible rfl)
  (try simp only [Act.put, List.setIfInBounds_toArray, List.set_cons_zero, List.set_cons_succ])
  refine wpAnyH_takeD 1 17 (v := ?_) (by kernel_rfl) (by kernel_rfl) (by kernel_rfl) (by kernel_rfl) (by rfl) (fun _ _ _ h => h) ?_ hHeld ?_
  rotate_left 1
  (intro o ho W hSw; simp only [List.getElem?_toArray, List.getElem?_cons_succ, List.getElem?_cons_zero, Option.some.injEq] at ho; subst ho; (try dsimp only at hSw); go_simp; try with_reducible rfl)
  (try simp only [Act.put, List.setIfInBounds_toArray, List.set_cons_zero, List.set_cons_succ])
  refine wpAnyH_takeD 2 18 (v := ?_) (by kernel_rfl) (by kernel_rfl) (by kernel_rfl) (by kernel_rfl) (by rfl) (fun _ _ _ h => h) ?_ hHeld ?_
  rotate_left 1
  (intro o ho W hSw; simp only [List.getElem?_toArray, List.getElem?_cons_succ, List.getElem?_cons_zero, Option.some.injEq] at ho; subst ho; (try dsimp only at hSw); go_simp; try with_reducible rfl)
  (try simp only [Act.put, List.setIfInBounds_toArray, List.set_cons_zero, List.set_cons_succ])
  refine wpAnyH_takeD 4 20 (v := ?_) (by kernel_rfl) (by kernel_rfl) (by kernel_rfl) (by kernel_rfl) (by rfl) (fun _ _ _ h => h) ?_ hHeld ?_
  rotate_left 1
  (intro o ho W hSw; simp only [List.getElem?_toArray, List.getElem?_cons_succ, List.getElem?_cons_zero, Option.some.injEq] at ho; subst ho; (try dsimp only at hSw); go_simp; try with_reducible rfl)
  (try simp only [Act.put, List.setIfInBounds_toArray, List.set_cons_zero, List.set_cons_succ])
  refine wpAnyH_takeD 5 21 (v := ?_) (by kernel_rfl) (by kernel_rfl) (by kernel_rfl) (by kernel_rfl) (by rfl) (fun _ _ _ h => h) ?_ hHeld ?_
  rotate_left 1
  (intro o ho W hSw; simp only [List.getElem?_toArray, List.getElem?_cons_succ, List.getElem?_cons_zero, Option.some.injEq] at ho; subst ho; (try dsimp only at hSw); go_simp; try with_reducible rfl)
  (try simp only [Act.put, List.setIfInBounds_toArray, List.set_cons_zero, List.set_cons_succ])
  refine wpAnyH_takeD 6 22 (v := ?_) (by kernel_rfl) (by kernel_rfl) (by kernel_rfl) (by kernel_rfl) (by rfl) (fun _ _ _ h => h) ?_ hHeld ?_
  rotate_left 1
  (intro o ho W hSw; simp only [List.getElem?_toArray, List.getElem?_cons_succ, List.getElem?_cons_zero, Option.some.injEq] at ho; subst ho; (try dsimp only at hSw); go_simp; try with_reducible rfl)
  (try simp only [Act.put, List.setIfInBounds_toArray, List.set_cons_zero, List.set_cons_succ])
  refine wpAnyH_onlyD 3 (by kernel_rfl) (fun o ho K hK => ?_) (by kernel_rfl)
  simp only [List.getElem?_toArray, List.getElem?_cons_succ, List.getElem?_cons_zero, Option.some.injEq] at ho
  subst ho
  go_simp
  refine (X1.out _ _ T0.out.a).mono ?_
  rintro e w1 ⟨rfl, h⟩
  have T1 := Lib.hid (T0.out.fst h)
  have A1 := Lib.hid (A0.out.fx h (by omega))
  (try have B1 := Lib.hid (B0.out.fx h (by omega)))
  (try have U1 := Lib.hid (U0.out.fx h (by omega)))
  (try have V1 := Lib.hid (V0.out.fx h (by omega)))
  go_wp2_with fail
  refine hK.out _ _ (⟨A1.out.h4, B1.out.held⟩) ?_
  clear hK K hHeld
  intro hHeld
  clear h T0 A0
  (try clear B0)
  (try clear U0)
  (try clear V0)
  refine wpAnyH_onlyD 7 (by kernel_rfl) (fun o ho K hK => ?_) (by kernel_rfl)
  simp only [List.getElem?_toArray, List.getElem?_cons_succ, List.getElem?_cons_zero, Option.some.injEq] at ho
  subst ho
  go_simp
  refine (X2.out _ _ _ T1.out.a).mono ?_
  rintro e w2 ⟨rfl, h⟩
  have T2 := Lib.hid (T1.out.fst h)
  have A2 := Lib.hid (A1.out.fx h (by omega))
  (try have B2 := Lib.hid (B1.out.fx h (by omega)))
  (try have U2 := Lib.hid (U1.out.fx h (by omega)))
  (try have V2 := Lib.hid (V1.out.fx h (by omega)))
  go_wp2_with fail
  refine hK.out _ _ (⟨A2.out.h4, B2.out.held⟩) ?_
  clear hK K hHeld
  intro hHeld
  clear h T1 A1
  (try clear B1)
  (try clear U1)
  (try clear V1)
  refine wpAnyH_onlyD 8 (by kernel_rfl) (fun o ho K hK => ?_) (by kernel_rfl)
  simp only [List.getElem?_toArray, List.getElem?_cons_succ, List.getElem?_cons_zero, Option.some.injEq] at ho
  subst ho
  go_simp
  refine (X3.out _ _ _ T2.out.a).mono ?_
  rintro e w3 ⟨rfl, h⟩
  have T3 := Lib.hid (T2.out.fst h)
  have A3 := Lib.hid (A2.out.fx h (by omega))
  (try have B3 := Lib.hid (B2.out.fx h (by omega)))
  (try have U3 := Lib.hid (U2.out.fx h (by omega)))
  (try have V3 := Lib.hid (V2.out.fx h (by omega)))
  go_wp2_with fail
  refine hK.out _ _ (⟨A3.out.h4, B3.out.held⟩) ?_
  clear hK K hHeld
  intro hHeld
  clear h T2 A2
  (try clear B2)
  (try clear U2)
  (try clear V2)
  refine wpAnyH_takeD 9 6 (v := ?_) (by kernel_rfl) (by kernel_rfl) (by kernel_rfl) (by kernel_rfl) (by rfl) (fun _ _ _ h => h) ?_ hHeld ?_
  rotate_left 1
  (intro o ho W hSw; simp only [List.getElem?_toArray, List.getElem?_cons_succ, List.getElem?_cons_zero, Option.some.injEq] at ho; subst ho; (try dsimp only at hSw); go_simp; try with_reducible rfl)
  (try simp only [Act.put, List.setIfInBounds_toArray, List.set_cons_zero, List.set_cons_succ])
  refine wpAnyH_done (by kernel_rfl) ?_ _
  have fc := T3.out.a.c
  obtain ⟨r0, r1, r2, r3⟩ := U3.out.h4
  have rf := U3.out.f
  obtain ⟨a0, a1, a2, a3⟩ := A3.out.h4
  have af := A3.out.f
  clear X1 X2 X3 hHeld
  rw [E.out] at fc
  have T3' := Lib.hid (show Own w w3 (w.heap.size + 1 + 1) false by have := T3.out; rw [E.out] at this; exact this)
  go_wp2_with fail
  refine (X4.out _ _ T3'.out.a).mono ?_
  rintro e w4 ⟨rfl, h⟩
  have T4 := Lib.hid (T3'.out.fst h)
  have U4 := Lib.hid (U3.out.fx h (by omega))
  clear h T3 T3' U3 A3 B3 X4 r0 r1 r2 r3 rf a0 a1 a2 a3 af fc
  obtain ⟨r0, r1, r2, r3⟩ := U4.out.h4
  have rf := U4.out.f
  go_wp2
  exact bodyPost_ret (v := .tuple #[.agg #[.int .i64 u1, .int .i64 u2, .int .i64 u3, .int .i64 u4], .bool true]) (by simp [results, Try.results24, go_sem, r0, r1, r2, r3]) rfl ⟨rfl, (((T4.out.bl.setCell (p := ⟨w.heap.size + 1, 0, none⟩) (by simp) _).setCell (p := ⟨w.heap.size + 1, 1, none⟩) (by simp) _).setCell (p := ⟨w.heap.size + 1, 2, none⟩) (by simp) _).setCell (p := ⟨w.heap.size + 1, 3, none⟩) (by simp) _⟩
end Go.Proofs.Ytldcmiomfahaoaa
