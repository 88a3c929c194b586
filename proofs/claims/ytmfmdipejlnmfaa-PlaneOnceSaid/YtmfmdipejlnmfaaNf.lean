/- The contract of the document's Area of places. -/
import Derived.Test.YtmfmdipejlnmfaaNe
namespace Go.Proofs.Ytmfmdipejlnmfaa
open Go.RowKit
set_option linter.unusedVariables false
set_option linter.unusedSimpArgs false

/-- the blocks of Area -/
def ArL (w : World) (n1 : Nat) (ax ay bx by' px py : Int) (b : Bool) (x0 x1 x2 x3 : Int) : List (Nat × List Value) := ((n1, [.bool b, .int .u64 x0, .int .u64 x1, .int .u64 x2, .int .u64 x3]) :: [(w.heap.size, [.int .i64 ax, .int .i64 ay]), (w.heap.size + 1, [.int .i64 bx, .int .i64 by']), (w.heap.size + 1 + 1, [.int .i64 px, .int .i64 py]), (w.heap.size + 1 + 1 + 1, [.bool false, .int .u64 0, .int .u64 0, .int .u64 0, .int .u64 0])])
theorem ar_n {w W : World} {n1 : Nat} {ax ay bx by' px py : Int} {b : Bool} {x0 x1 x2 x3 : Int} (k : St w W (ArL w n1 ax ay bx by' px py b x0 x1 x2 x3)) : BW W n1 [.bool b, .int .u64 x0, .int .u64 x1, .int .u64 x2, .int .u64 x3] := k.b _ _ (List.mem_cons_self ..)
theorem ar_r {w W : World} {n1 : Nat} {ax ay bx by' px py : Int} {b : Bool} {x0 x1 x2 x3 : Int} (k : St w W (ArL w n1 ax ay bx by' px py b x0 x1 x2 x3)) : BW W (w.heap.size + 1 + 1 + 1) [.bool false, .int .u64 0, .int .u64 0, .int .u64 0, .int .u64 0] := k.b _ _ (by unfold ArL; simp)
theorem ar_sv {w W : World} {n1 : Nat} {ax ay bx by' px py : Int} {b : Bool} {x0 x1 x2 x3 : Int} (k : St w W (ArL w n1 ax ay bx by' px py b x0 x1 x2 x3)) : (W.cell? ⟨w.heap.size, 0, none⟩ = some (.int .i64 ax) ∧ W.cell? ⟨w.heap.size, 1, none⟩ = some (.int .i64 ay)) ∧ (W.cell? ⟨w.heap.size + 1, 0, none⟩ = some (.int .i64 bx) ∧ W.cell? ⟨w.heap.size + 1, 1, none⟩ = some (.int .i64 by')) ∧ (W.cell? ⟨w.heap.size + 1 + 1, 0, none⟩ = some (.int .i64 px) ∧ W.cell? ⟨w.heap.size + 1 + 1, 1, none⟩ = some (.int .i64 py)) ∧ (W.cell? ⟨n1, 0, none⟩ = some (.bool b) ∧ W.cell? ⟨n1, 1, none⟩ = some (.int .u64 x0) ∧ W.cell? ⟨n1, 2, none⟩ = some (.int .u64 x1) ∧ W.cell? ⟨n1, 3, none⟩ = some (.int .u64 x2) ∧ W.cell? ⟨n1, 4, none⟩ = some (.int .u64 x3)) :=
  ⟨(k.b _ _ (by unfold ArL; simp)).h2', (k.b _ _ (by unfold ArL; simp)).h2', (k.b _ _ (by unfold ArL; simp)).h2', (ar_n k).h5⟩
/-- the area in a block of its own, and the result's block -/
def ArCut (w : World) (A : Int) (t : Value) (W : World) : Prop := ∃ n4 : Nat, t = .pointer (some ⟨n4, 0, none⟩) ∧ BW W n4 [.bool (decide (A < 0)), .int .u64 (d0 A.natAbs), .int .u64 (d1 A.natAbs), .int .u64 (d2 A.natAbs), .int .u64 (d3 A.natAbs)] ∧ BW W (w.heap.size + 1 + 1 + 1) [.bool false, .int .u64 0, .int .u64 0, .int .u64 0, .int .u64 0] ∧ Below w.heap.size w W
set_option maxRecDepth 100000 in
set_option maxHeartbeats 4000000 in
theorem rArea_any (ax ay bx by' px py A : Int) (w : World) (h1 : Rg ax) (h2 : Rg ay) (h3 : Rg bx) (h4 : Rg by') (h5 : Rg px) (h6 : Rg py) (hA : area ⟨ax, ay⟩ ⟨bx, by'⟩ ⟨px, py⟩ = A) :
    Calls Try.prog 24 #[.agg #[.int .i64 ax, .int .i64 ay], .agg #[.int .i64 bx, .int .i64 by'], .agg #[.int .i64 px, .int .i64 py]] w fun e w' => e = .returned (.agg #[.bool (decide (A < 0)), .int .u64 (d0 (A.natAbs)), .int .u64 (d1 (A.natAbs)), .int .u64 (d2 (A.natAbs)), .int .u64 (d3 (A.natAbs))]) ∧ Below w.heap.size w w' := by
  obtain ⟨f1, f2, f3, f4, f5⟩ := area_fit h1 h2 h3 h4 h5 h6
  rw [hA] at f4 f5
  have u1 : IntKind.i64.wrap (by' - ay) = by' - ay := IntWalk.i64_in _ (by unfold Rg at *; omega)
  have u2 : IntKind.i64.wrap (px - ax) = px - ax := IntWalk.i64_in _ (by unfold Rg at *; omega)
  have u3 : IntKind.i64.wrap (bx - ax) = bx - ax := IntWalk.i64_in _ (by unfold Rg at *; omega)
  have u4 : IntKind.i64.wrap (py - ay) = py - ay := IntWalk.i64_in _ (by unfold Rg at *; omega)
  have X1 := Lib.hid (fun (W : World) => rMul_any (by' - ay) (px - ax) W (by unfold Rg at *; omega) (by unfold Rg at *; omega) (by unfold Rg at *; omega) (by unfold Rg at *; omega))
  have X2 := Lib.hid (fun (W : World) => rMul_any (bx - ax) (py - ay) W (by unfold Rg at *; omega) (by unfold Rg at *; omega) (by unfold Rg at *; omega) (by unfold Rg at *; omega))
  have X4 := Lib.hid (fun (W : World) => rAdd_any ((bx - ax) * (py - ay)) (-((by' - ay) * (px - ax))) W f1 f3)
  rw [f4] at X4
  generalize (bx - ax) * (py - ay) = k at *
  generalize (by' - ay) * (px - ax) = m at *
  have Z := Lib.hid (fun (b : Bool) (W : World) => Zero_any b (m.natAbs : Int) W (by omega) (by unfold In128 at f2; omega))
  have E := nv_neg m
  rw [E.2, ← E.1] at X4
  clear E f1 f2 f3 f4 f5 hA
  generalize d0 (m.natAbs : Int) = x0 at *
  generalize d1 (m.natAbs : Int) = x1 at *
  generalize d2 (m.natAbs : Int) = x2 at *
  generalize d3 (m.natAbs : Int) = x3 at *
  generalize decide ((m.natAbs : Int) = 0) = z at *
  generalize decide (m < 0) = s at *
  generalize fitW (k + -m) = fw at *
  have U := Lib.hid (And.intro u1 (And.intro u2 (And.intro u3 u4)))
  go_enter Try.func24, Try.ntmps24
  go_wp2_with fail
  refine calls_gen (S := fun W => St w W [(w.heap.size, [.int .i64 ax, .int .i64 ay]), (w.heap.size + 1, [.int .i64 bx, .int .i64 by']), (w.heap.size + 1 + 1, [.int .i64 px, .int .i64 py]), (w.heap.size + 1 + 1 + 1, [.bool false, .int .u64 0, .int .u64 0, .int .u64 0, .int .u64 0])])
    (St.cons ((((BW.new w w.heap.size [_, _] _ rfl).alloc _).alloc _).alloc _) (St.cons (((BW.new _ _ [_, _] _ (by simp)).alloc _).alloc _) (St.cons ((BW.new _ _ [_, _] _ (by simp)).alloc _) (St.cons (BW.new _ _ [_, _, _, _, _] _ (by simp)) (St.nil (by repeat (first | exact Below.refl _ _ | assumption | refine Below.setCell ?_ (by first | omega | (simp; done) | (simp; omega)) _ | refine Below.alloc ?_ (by first | omega | (simp; done) | (simp; omega)) _ | refine below_drewN ?_ _ | refine Below.drew ?_ | refine Below.trans ?_ (Below.mono (by assumption) (by first | omega | (simp; done) | (simp; omega)))))))))) (fun W0 hS => ?_)
  have K0 := Lib.hid hS
  clear hS
  refine (X1.out _).mono ?_
  rintro e w1 ⟨rfl, h⟩
  have K1 := Lib.hid (K0.out.step h)
  clear h K0 X1
  go_wp2_with fail
  refine calls_gen (S := fun W => St w W (ArL w w1.heap.size ax ay bx by' px py (!s) x0 x1 x2 x3)) (St.cons (BW.new w1 _ [_, _, _, _, _] _ rfl) (K1.out.alloc _)) (fun W1 hS => ?_)
  have hz : w.heap.size + 1 + 1 + 1 < w1.heap.size := (K1.out.b (w.heap.size + 1 + 1 + 1) [.bool false, .int .u64 0, .int .u64 0, .int .u64 0, .int .u64 0] (by simp)).lt
  clear K1
  generalize w1.heap.size = n1 at *
  have K2 := Lib.hid hS
  clear hS
  refine (Z.out _ _).mono ?_
  rintro e w2 ⟨rfl, h⟩
  have K3 := Lib.hid (K2.out.step h)
  clear h K2 Z
  have K3ne : ∀ (m : Nat) (q : List Value), (m, q) ∈ ([(w.heap.size, [.int .i64 ax, .int .i64 ay]), (w.heap.size + 1, [.int .i64 bx, .int .i64 by']), (w.heap.size + 1 + 1, [.int .i64 px, .int .i64 py]), (w.heap.size + 1 + 1 + 1, [.bool false, .int .u64 0, .int .u64 0, .int .u64 0, .int .u64 0])] : List (Nat × List Value)) → m < n1 := fun m q e => by
    simp at e
    rcases e with e | e | e | e <;> (have := e.1; omega)
  cases z with
  | false =>
    simp only [Bool.not_false, Bool.and_true] at X4
    go_wp2_with fail
    refine wp_gen (S := fun W => St w W (ArL w n1 ax ay bx by' px py (!s) x0 x1 x2 x3)) K3.out (fun W2 hS => ?_)
    have K0 := Lib.hid hS.drew
    clear hS K3
    go_cut [8] (fun t W => ArCut w A t W)
    case first =>
      refine wp_region_held_drew (S := fun W => (W.cell? ⟨w.heap.size, 0, none⟩ = some (.int .i64 ax) ∧ W.cell? ⟨w.heap.size, 1, none⟩ = some (.int .i64 ay)) ∧ (W.cell? ⟨w.heap.size + 1, 0, none⟩ = some (.int .i64 bx) ∧ W.cell? ⟨w.heap.size + 1, 1, none⟩ = some (.int .i64 by')) ∧ (W.cell? ⟨w.heap.size + 1 + 1, 0, none⟩ = some (.int .i64 px) ∧ W.cell? ⟨w.heap.size + 1 + 1, 1, none⟩ = some (.int .i64 py)) ∧ (W.cell? ⟨n1, 0, none⟩ = some (.bool (!s)) ∧ W.cell? ⟨n1, 1, none⟩ = some (.int .u64 x0) ∧ W.cell? ⟨n1, 2, none⟩ = some (.int .u64 x1) ∧ W.cell? ⟨n1, 3, none⟩ = some (.int .u64 x2) ∧ W.cell? ⟨n1, 4, none⟩ = some (.int .u64 x3))) (by kernel_rfl) (ar_sv K0.out) (fun hHeld => ?_)
      generalize W2.drew = w0 at *
      refine wpAnyH_takeD 0 29 (v := ?_) (by kernel_rfl) (by kernel_rfl) (by kernel_rfl) (by kernel_rfl) (by rfl) (fun _ _ _ h => h) ?_ hHeld ?_
      rotate_left 1
      (intro o ho W hSw; simp only [List.getElem?_toArray, List.getElem?_cons_succ, List.getElem?_cons_zero, Option.some.injEq] at ho; subst ho; (try dsimp only at hSw); go_simp; try with_reducible rfl)
      (try simp only [Act.put, List.setIfInBounds_toArray, List.set_cons_zero, List.set_cons_succ])
      refine wpAnyH_takeD 1 30 (v := ?_) (by kernel_rfl) (by kernel_rfl) (by kernel_rfl) (by kernel_rfl) (by rfl) (fun _ _ _ h => h) ?_ hHeld ?_
      rotate_left 1
      (intro o ho W hSw; simp only [List.getElem?_toArray, List.getElem?_cons_succ, List.getElem?_cons_zero, Option.some.injEq] at ho; subst ho; (try dsimp only at hSw); go_simp; try with_reducible rfl)
      (try simp only [Act.put, List.setIfInBounds_toArray, List.set_cons_zero, List.set_cons_succ])
      refine wpAnyH_takeD 2 31 (v := ?_) (by kernel_rfl) (by kernel_rfl) (by kernel_rfl) (by kernel_rfl) (by rfl) (fun _ _ _ h => h) ?_ hHeld ?_
      rotate_left 1
      (intro o ho W hSw; simp only [List.getElem?_toArray, List.getElem?_cons_succ, List.getElem?_cons_zero, Option.some.injEq] at ho; subst ho; (try dsimp only at hSw); go_simp; try with_reducible rfl)
      (try simp only [Act.put, List.setIfInBounds_toArray, List.set_cons_zero, List.set_cons_succ])
      refine wpAnyH_takeD 3 32 (v := ?_) (by kernel_rfl) (by kernel_rfl) (by kernel_rfl) (by kernel_rfl) (by rfl) (fun _ _ _ h => h) ?_ hHeld ?_
      rotate_left 1
      (intro o ho W hSw; simp only [List.getElem?_toArray, List.getElem?_cons_succ, List.getElem?_cons_zero, Option.some.injEq] at ho; subst ho; (try dsimp only at hSw); go_simp; try with_reducible rfl)
      (try simp only [Act.put, List.setIfInBounds_toArray, List.set_cons_zero, List.set_cons_succ])
      refine wpAnyH_takeD 4 33 (v := ?_) (by kernel_rfl) (by kernel_rfl) (by kernel_rfl) (by kernel_rfl) (by rfl) (fun _ _ _ h => h) ?_ hHeld ?_
      rotate_left 1
      (intro o ho W hSw; simp only [List.getElem?_toArray, List.getElem?_cons_succ, List.getElem?_cons_zero, Option.some.injEq] at ho; subst ho; (try dsimp only at hSw); go_simp; try with_reducible rfl)
      (try simp only [Act.put, List.setIfInBounds_toArray, List.set_cons_zero, List.set_cons_succ])
      refine wpAnyH_takeD 5 34 (v := ?_) (by kernel_rfl) (by kernel_rfl) (by kernel_rfl) (by kernel_rfl) (by rfl) (fun _ _ _ h => h) ?_ hHeld ?_
      rotate_left 1
      (intro o ho W hSw; simp only [List.getElem?_toArray, List.getElem?_cons_succ, List.getElem?_cons_zero, Option.some.injEq] at ho; subst ho; (try dsimp only at hSw); go_simp; try with_reducible rfl)
      (try simp only [Act.put, List.setIfInBounds_toArray, List.set_cons_zero, List.set_cons_succ])
      refine wpAnyH_takeD 6 35 (v := ?_) (by kernel_rfl) (by kernel_rfl) (by kernel_rfl) (by kernel_rfl) (by rfl) (fun _ _ _ h => h) ?_ hHeld ?_
      rotate_left 1
      (intro o ho W hSw; simp only [List.getElem?_toArray, List.getElem?_cons_succ, List.getElem?_cons_zero, Option.some.injEq] at ho; subst ho; (try dsimp only at hSw); go_simp; try with_reducible rfl)
      (try simp only [Act.put, List.setIfInBounds_toArray, List.set_cons_zero, List.set_cons_succ])
      refine wpAnyH_takeD 7 36 (v := ?_) (by kernel_rfl) (by kernel_rfl) (by kernel_rfl) (by kernel_rfl) (by rfl) (fun _ _ _ h => h) ?_ hHeld ?_
      rotate_left 1
      (intro o ho W hSw; simp only [List.getElem?_toArray, List.getElem?_cons_succ, List.getElem?_cons_zero, Option.some.injEq] at ho; subst ho; (try dsimp only at hSw); go_simp; try with_reducible rfl)
      (try simp only [Act.put, List.setIfInBounds_toArray, List.set_cons_zero, List.set_cons_succ])
      refine wpAnyH_takeD 8 37 (v := ?_) (by kernel_rfl) (by kernel_rfl) (by kernel_rfl) (by kernel_rfl) (by rfl) (fun _ _ _ h => h) ?_ hHeld ?_
      rotate_left 1
      (intro o ho W hSw; simp only [List.getElem?_toArray, List.getElem?_cons_succ, List.getElem?_cons_zero, Option.some.injEq] at ho; subst ho; (try dsimp only at hSw); go_simp; try with_reducible rfl)
      (try simp only [Act.put, List.setIfInBounds_toArray, List.set_cons_zero, List.set_cons_succ])
      refine wpAnyH_takeD 9 38 (v := ?_) (by kernel_rfl) (by kernel_rfl) (by kernel_rfl) (by kernel_rfl) (by rfl) (fun _ _ _ h => h) ?_ hHeld ?_
      rotate_left 1
      (intro o ho W hSw; simp only [List.getElem?_toArray, List.getElem?_cons_succ, List.getElem?_cons_zero, Option.some.injEq] at ho; subst ho; (try dsimp only at hSw); go_simp; try with_reducible rfl)
      (try simp only [Act.put, List.setIfInBounds_toArray, List.set_cons_zero, List.set_cons_succ])
      refine wpAnyH_takeD 11 40 (v := ?_) (by kernel_rfl) (by kernel_rfl) (by kernel_rfl) (by kernel_rfl) (by rfl) (fun _ _ _ h => h) ?_ hHeld ?_
      rotate_left 1
      (intro o ho W hSw; simp only [List.getElem?_toArray, List.getElem?_cons_succ, List.getElem?_cons_zero, Option.some.injEq] at ho; subst ho; (try dsimp only at hSw); go_simp; try with_reducible rfl)
      (try simp only [Act.put, List.setIfInBounds_toArray, List.set_cons_zero, List.set_cons_succ])
      (try rw [U.out.2.2.1])
      (try rw [U.out.2.2.2])
      refine wpAnyH_twoD 10 16 (by kernel_rfl) (fun o ho K hK => ?_) (fun o ho K hK => ?_) (by kernel_rfl) (by kernel_rfl)
      · skip
        simp only [List.getElem?_toArray, List.getElem?_cons_succ, List.getElem?_cons_zero, Option.some.injEq] at ho
        subst ho
        go_simp
        refine (X2.out _).mono ?_
        rintro e w1 ⟨rfl, h⟩
        have K1 := Lib.hid (K0.out.step h)
        (try have V1 := Lib.hid (V0.out.below h V0.out.lt))
        go_wp2_with fail
        refine hK.out _ _ (ar_sv K1.out) ?_
        clear hK K hHeld
        intro hHeld
        clear h K0
        (try clear V0)
        refine wpAnyH_twoD 12 16 (by kernel_rfl) (fun o ho K hK => ?_) (fun o ho K hK => ?_) (by kernel_rfl) (by kernel_rfl)
        · skip
          simp only [List.getElem?_toArray, List.getElem?_cons_succ, List.getElem?_cons_zero, Option.some.injEq] at ho
          subst ho
          go_simp
          refine (X4.out _).mono ?_
          rintro e w2 ⟨rfl, h⟩
          have K2 := Lib.hid (K1.out.step h)
          (try have V2 := Lib.hid (V1.out.below h V1.out.lt))
          go_wp2_with fail
          refine hK.out _ _ (ar_sv K2.out) ?_
          clear hK K hHeld
          intro hHeld
          clear h K1
          (try clear V1)
          refine wpAnyH_takeD 13 28 (v := ?_) (by kernel_rfl) (by kernel_rfl) (by kernel_rfl) (by kernel_rfl) (by rfl) (fun _ _ _ h => h) ?_ hHeld ?_
          rotate_left 1
          (intro o ho W hSw; simp only [List.getElem?_toArray, List.getElem?_cons_succ, List.getElem?_cons_zero, Option.some.injEq] at ho; subst ho; (try dsimp only at hSw); go_simp; try with_reducible rfl)
          (try simp only [Act.put, List.setIfInBounds_toArray, List.set_cons_zero, List.set_cons_succ])
          refine wpAnyH_takeD 14 42 (v := ?_) (by kernel_rfl) (by kernel_rfl) (by kernel_rfl) (by kernel_rfl) (by rfl) (fun _ _ _ h => h) ?_ hHeld ?_
          rotate_left 1
          (intro o ho W hSw; simp only [List.getElem?_toArray, List.getElem?_cons_succ, List.getElem?_cons_zero, Option.some.injEq] at ho; subst ho; (try dsimp only at hSw); go_simp; try with_reducible rfl)
          (try simp only [Act.put, List.setIfInBounds_toArray, List.set_cons_zero, List.set_cons_succ])
          refine wpAnyH_takeD 15 43 (v := ?_) (by kernel_rfl) (by kernel_rfl) (by kernel_rfl) (by kernel_rfl) (by rfl) (fun _ _ _ h => h) ?_ hHeld ?_
          rotate_left 1
          (intro o ho W hSw; simp only [List.getElem?_toArray, List.getElem?_cons_succ, List.getElem?_cons_zero, Option.some.injEq] at ho; subst ho; (try dsimp only at hSw); go_simp; try with_reducible rfl)
          (try simp only [Act.put, List.setIfInBounds_toArray, List.set_cons_zero, List.set_cons_succ])
          refine wpAnyH_onlyD 16 (by kernel_rfl) (fun o ho K hK => ?_) (by kernel_rfl)
          simp only [List.getElem?_toArray, List.getElem?_cons_succ, List.getElem?_cons_zero, Option.some.injEq] at ho
          subst ho
          go_simp
          refine hK.out _ _ (ar_sv (K2.out.alloc _)) ?_
          clear hK K hHeld
          intro hHeld
          have K3 := Lib.hid (K2.out.alloc (.cells #[.bool false, .int .u64 0, .int .u64 0, .int .u64 0, .int .u64 0] 48))
          have V3 := Lib.hid (BW.new w2 w2.heap.size [.bool false, .int .u64 0, .int .u64 0, .int .u64 0, .int .u64 0] 48 rfl)
          have hne := ar_ne K2.out
          have hr4 : w.heap.size + 1 + 1 + 1 < w2.heap.size := (ar_r K2.out).lt
          have hz4 : w.heap.size ≤ w2.heap.size := K2.out.l.size
          clear K2
          generalize w2.alloc (.cells #[.bool false, .int .u64 0, .int .u64 0, .int .u64 0, .int .u64 0] 48) = wa at *
          generalize w2.heap.size = n4 at *
          have v0 := V3.out.c 0 _ rfl
          have v1 := V3.out.c 1 _ rfl
          have v2 := V3.out.c 2 _ rfl
          have v3 := V3.out.c 3 _ rfl
          have v4 := V3.out.c 4 _ rfl
          have vf := V3.out.f
          refine wpAnyH_onlyD 17 (by kernel_rfl) (fun o ho K hK => ?_) (by kernel_rfl)
          simp only [List.getElem?_toArray, List.getElem?_cons_succ, List.getElem?_cons_zero, Option.some.injEq] at ho
          subst ho
          go_simp
          refine hK.out _ _ (ar_sv (K3.out.far5 (by omega) hne _ _ _ _ _)) ?_
          clear hK K hHeld
          intro hHeld
          refine wpAnyH_takeD 18 9 (v := ?_) (by kernel_rfl) (by kernel_rfl) (by kernel_rfl) (by kernel_rfl) (by rfl) (fun _ _ _ h => h) ?_ hHeld ?_
          rotate_left 1
          (intro o ho W hSw; simp only [List.getElem?_toArray, List.getElem?_cons_succ, List.getElem?_cons_zero, Option.some.injEq] at ho; subst ho; (try dsimp only at hSw); go_simp; try with_reducible rfl)
          (try simp only [Act.put, List.setIfInBounds_toArray, List.set_cons_zero, List.set_cons_succ])
          refine wpAnyH_done (by kernel_rfl) ?_ _
          go_wp2_with fail
          go_meet
          exact ⟨_, rfl, V3.out.put5 _ _ _ _ _, (ar_r K3.out).far5 (by omega) _ _ _ _ _, below_put5 K3.out.l (by omega) _ _ _ _ _⟩
        · skip
          simp only [List.getElem?_toArray, List.getElem?_cons_succ, List.getElem?_cons_zero, Option.some.injEq] at ho
          subst ho
          go_simp
          refine hK.out _ _ (ar_sv (K1.out.alloc _)) ?_
          clear hK K hHeld
          intro hHeld
          have K2 := Lib.hid (K1.out.alloc (.cells #[.bool false, .int .u64 0, .int .u64 0, .int .u64 0, .int .u64 0] 48))
          have V2 := Lib.hid (BW.new w1 w1.heap.size [.bool false, .int .u64 0, .int .u64 0, .int .u64 0, .int .u64 0] 48 rfl)
          have hne := ar_ne K1.out
          have hr4 : w.heap.size + 1 + 1 + 1 < w1.heap.size := (ar_r K1.out).lt
          have hz4 : w.heap.size ≤ w1.heap.size := K1.out.l.size
          clear K1
          generalize w1.alloc (.cells #[.bool false, .int .u64 0, .int .u64 0, .int .u64 0, .int .u64 0] 48) = wa at *
          generalize w1.heap.size = n4 at *
          refine wpAnyH_onlyD 12 (by kernel_rfl) (fun o ho K hK => ?_) (by kernel_rfl)
          simp only [List.getElem?_toArray, List.getElem?_cons_succ, List.getElem?_cons_zero, Option.some.injEq] at ho
          subst ho
          go_simp
          refine (X4.out _).mono ?_
          rintro e w3 ⟨rfl, h⟩
          have K3 := Lib.hid (K2.out.step h)
          (try have V3 := Lib.hid (V2.out.below h V2.out.lt))
          go_wp2_with fail
          refine hK.out _ _ (ar_sv K3.out) ?_
          clear hK K hHeld
          intro hHeld
          clear h K2
          (try clear V2)
          refine wpAnyH_takeD 13 28 (v := ?_) (by kernel_rfl) (by kernel_rfl) (by kernel_rfl) (by kernel_rfl) (by rfl) (fun _ _ _ h => h) ?_ hHeld ?_
          rotate_left 1
          (intro o ho W hSw; simp only [List.getElem?_toArray, List.getElem?_cons_succ, List.getElem?_cons_zero, Option.some.injEq] at ho; subst ho; (try dsimp only at hSw); go_simp; try with_reducible rfl)
          (try simp only [Act.put, List.setIfInBounds_toArray, List.set_cons_zero, List.set_cons_succ])
          refine wpAnyH_takeD 14 42 (v := ?_) (by kernel_rfl) (by kernel_rfl) (by kernel_rfl) (by kernel_rfl) (by rfl) (fun _ _ _ h => h) ?_ hHeld ?_
          rotate_left 1
          (intro o ho W hSw; simp only [List.getElem?_toArray, List.getElem?_cons_succ, List.getElem?_cons_zero, Option.some.injEq] at ho; subst ho; (try dsimp only at hSw); go_simp; try with_reducible rfl)
          (try simp only [Act.put, List.setIfInBounds_toArray, List.set_cons_zero, List.set_cons_succ])
          refine wpAnyH_takeD 15 43 (v := ?_) (by kernel_rfl) (by kernel_rfl) (by kernel_rfl) (by kernel_rfl) (by rfl) (fun _ _ _ h => h) ?_ hHeld ?_
          rotate_left 1
          (intro o ho W hSw; simp only [List.getElem?_toArray, List.getElem?_cons_succ, List.getElem?_cons_zero, Option.some.injEq] at ho; subst ho; (try dsimp only at hSw); go_simp; try with_reducible rfl)
          (try simp only [Act.put, List.setIfInBounds_toArray, List.set_cons_zero, List.set_cons_succ])
          have v0 := V3.out.c 0 _ rfl
          have v1 := V3.out.c 1 _ rfl
          have v2 := V3.out.c 2 _ rfl
          have v3 := V3.out.c 3 _ rfl
          have v4 := V3.out.c 4 _ rfl
          have vf := V3.out.f
          refine wpAnyH_onlyD 17 (by kernel_rfl) (fun o ho K hK => ?_) (by kernel_rfl)
          simp only [List.getElem?_toArray, List.getElem?_cons_succ, List.getElem?_cons_zero, Option.some.injEq] at ho
          subst ho
          go_simp
          refine hK.out _ _ (ar_sv (K3.out.far5 (by omega) hne _ _ _ _ _)) ?_
          clear hK K hHeld
          intro hHeld
          refine wpAnyH_takeD 18 9 (v := ?_) (by kernel_rfl) (by kernel_rfl) (by kernel_rfl) (by kernel_rfl) (by rfl) (fun _ _ _ h => h) ?_ hHeld ?_
          rotate_left 1
          (intro o ho W hSw; simp only [List.getElem?_toArray, List.getElem?_cons_succ, List.getElem?_cons_zero, Option.some.injEq] at ho; subst ho; (try dsimp only at hSw); go_simp; try with_reducible rfl)
          (try simp only [Act.put, List.setIfInBounds_toArray, List.set_cons_zero, List.set_cons_succ])
          refine wpAnyH_done (by kernel_rfl) ?_ _
          go_wp2_with fail
          go_meet
          exact ⟨_, rfl, V3.out.put5 _ _ _ _ _, (ar_r K3.out).far5 (by omega) _ _ _ _ _, below_put5 K3.out.l (by omega) _ _ _ _ _⟩
      · skip
        simp only [List.getElem?_toArray, List.getElem?_cons_succ, List.getElem?_cons_zero, Option.some.injEq] at ho
        subst ho
        go_simp
        refine hK.out _ _ (ar_sv (K0.out.alloc _)) ?_
        clear hK K hHeld
        intro hHeld
        have K1 := Lib.hid (K0.out.alloc (.cells #[.bool false, .int .u64 0, .int .u64 0, .int .u64 0, .int .u64 0] 48))
        have V1 := Lib.hid (BW.new w0 w0.heap.size [.bool false, .int .u64 0, .int .u64 0, .int .u64 0, .int .u64 0] 48 rfl)
        have hne := ar_ne K0.out
        have hr4 : w.heap.size + 1 + 1 + 1 < w0.heap.size := (ar_r K0.out).lt
        have hz4 : w.heap.size ≤ w0.heap.size := K0.out.l.size
        clear K0
        generalize w0.alloc (.cells #[.bool false, .int .u64 0, .int .u64 0, .int .u64 0, .int .u64 0] 48) = wa at *
        generalize w0.heap.size = n4 at *
        refine wpAnyH_onlyD 10 (by kernel_rfl) (fun o ho K hK => ?_) (by kernel_rfl)
        simp only [List.getElem?_toArray, List.getElem?_cons_succ, List.getElem?_cons_zero, Option.some.injEq] at ho
        subst ho
        go_simp
        refine (X2.out _).mono ?_
        rintro e w2 ⟨rfl, h⟩
        have K2 := Lib.hid (K1.out.step h)
        (try have V2 := Lib.hid (V1.out.below h V1.out.lt))
        go_wp2_with fail
        refine hK.out _ _ (ar_sv K2.out) ?_
        clear hK K hHeld
        intro hHeld
        clear h K1
        (try clear V1)
        refine wpAnyH_onlyD 12 (by kernel_rfl) (fun o ho K hK => ?_) (by kernel_rfl)
        simp only [List.getElem?_toArray, List.getElem?_cons_succ, List.getElem?_cons_zero, Option.some.injEq] at ho
        subst ho
        go_simp
        refine (X4.out _).mono ?_
        rintro e w3 ⟨rfl, h⟩
        have K3 := Lib.hid (K2.out.step h)
        (try have V3 := Lib.hid (V2.out.below h V2.out.lt))
        go_wp2_with fail
        refine hK.out _ _ (ar_sv K3.out) ?_
        clear hK K hHeld
        intro hHeld
        clear h K2
        (try clear V2)
        refine wpAnyH_takeD 13 28 (v := ?_) (by kernel_rfl) (by kernel_rfl) (by kernel_rfl) (by kernel_rfl) (by rfl) (fun _ _ _ h => h) ?_ hHeld ?_
        rotate_left 1
        (intro o ho W hSw; simp only [List.getElem?_toArray, List.getElem?_cons_succ, List.getElem?_cons_zero, Option.some.injEq] at ho; subst ho; (try dsimp only at hSw); go_simp; try with_reducible rfl)
        (try simp only [Act.put, List.setIfInBounds_toArray, List.set_cons_zero, List.set_cons_succ])
        refine wpAnyH_takeD 14 42 (v := ?_) (by kernel_rfl) (by kernel_rfl) (by kernel_rfl) (by kernel_rfl) (by rfl) (fun _ _ _ h => h) ?_ hHeld ?_
        rotate_left 1
        (intro o ho W hSw; simp only [List.getElem?_toArray, List.getElem?_cons_succ, List.getElem?_cons_zero, Option.some.injEq] at ho; subst ho; (try dsimp only at hSw); go_simp; try with_reducible rfl)
        (try simp only [Act.put, List.setIfInBounds_toArray, List.set_cons_zero, List.set_cons_succ])
        refine wpAnyH_takeD 15 43 (v := ?_) (by kernel_rfl) (by kernel_rfl) (by kernel_rfl) (by kernel_rfl) (by rfl) (fun _ _ _ h => h) ?_ hHeld ?_
        rotate_left 1
        (intro o ho W hSw; simp only [List.getElem?_toArray, List.getElem?_cons_succ, List.getElem?_cons_zero, Option.some.injEq] at ho; subst ho; (try dsimp only at hSw); go_simp; try with_reducible rfl)
        (try simp only [Act.put, List.setIfInBounds_toArray, List.set_cons_zero, List.set_cons_succ])
        have v0 := V3.out.c 0 _ rfl
        have v1 := V3.out.c 1 _ rfl
        have v2 := V3.out.c 2 _ rfl
        have v3 := V3.out.c 3 _ rfl
        have v4 := V3.out.c 4 _ rfl
        have vf := V3.out.f
        refine wpAnyH_onlyD 17 (by kernel_rfl) (fun o ho K hK => ?_) (by kernel_rfl)
        simp only [List.getElem?_toArray, List.getElem?_cons_succ, List.getElem?_cons_zero, Option.some.injEq] at ho
        subst ho
        go_simp
        refine hK.out _ _ (ar_sv (K3.out.far5 (by omega) hne _ _ _ _ _)) ?_
        clear hK K hHeld
        intro hHeld
        refine wpAnyH_takeD 18 9 (v := ?_) (by kernel_rfl) (by kernel_rfl) (by kernel_rfl) (by kernel_rfl) (by rfl) (fun _ _ _ h => h) ?_ hHeld ?_
        rotate_left 1
        (intro o ho W hSw; simp only [List.getElem?_toArray, List.getElem?_cons_succ, List.getElem?_cons_zero, Option.some.injEq] at ho; subst ho; (try dsimp only at hSw); go_simp; try with_reducible rfl)
        (try simp only [Act.put, List.setIfInBounds_toArray, List.set_cons_zero, List.set_cons_succ])
        refine wpAnyH_done (by kernel_rfl) ?_ _
        go_wp2_with fail
        go_meet
        exact ⟨_, rfl, V3.out.put5 _ _ _ _ _, (ar_r K3.out).far5 (by omega) _ _ _ _ _, below_put5 K3.out.l (by omega) _ _ _ _ _⟩
    case rest =>
      obtain ⟨n4, rfl, HV, HR, HL⟩ := hcut
      clear K0 X2 X4
      obtain ⟨v0, v1, v2, v3, v4⟩ := HV.h5
      have hv := HV.lt
      have R0 := Lib.hid HR
      have LL := Lib.hid HL
      obtain ⟨r0, r1, r2, r3, r4⟩ := HR.h5
      have rf := HR.f
      clear HV HR HL
      go_wp2
      exact bodyPost_ret (v := .agg #[.bool (decide (A < 0)), .int .u64 (d0 (A.natAbs)), .int .u64 (d1 (A.natAbs)), .int .u64 (d2 (A.natAbs)), .int .u64 (d3 (A.natAbs))]) (by simp [results, Try.results24, go_sem, r0, r1, r2, r3, r4]) rfl ⟨rfl, below_put5 LL.out (by omega) _ _ _ _ _⟩
  | true =>
    simp only [Bool.not_true, Bool.and_false] at X4
    have KN := ar_n K3.out
    have n0 := KN.c 0 _ rfl
    have nf := KN.f
    clear KN
    go_wp2_with fail
    refine wp_gen (S := fun W => St w W (ArL w n1 ax ay bx by' px py false x0 x1 x2 x3)) (St.cons ((ar_n K3.out).put (i := 0) _ _ rfl) ((K3.out.tail).far (by omega) (fun m q e => by have := K3ne m q e; omega) 0 _)) (fun W2 hS => ?_)
    have K0 := Lib.hid hS.drew
    clear hS K3
    go_cut [8] (fun t W => ArCut w A t W)
    case first =>
      refine wp_region_held_drew (S := fun W => (W.cell? ⟨w.heap.size, 0, none⟩ = some (.int .i64 ax) ∧ W.cell? ⟨w.heap.size, 1, none⟩ = some (.int .i64 ay)) ∧ (W.cell? ⟨w.heap.size + 1, 0, none⟩ = some (.int .i64 bx) ∧ W.cell? ⟨w.heap.size + 1, 1, none⟩ = some (.int .i64 by')) ∧ (W.cell? ⟨w.heap.size + 1 + 1, 0, none⟩ = some (.int .i64 px) ∧ W.cell? ⟨w.heap.size + 1 + 1, 1, none⟩ = some (.int .i64 py)) ∧ (W.cell? ⟨n1, 0, none⟩ = some (.bool false) ∧ W.cell? ⟨n1, 1, none⟩ = some (.int .u64 x0) ∧ W.cell? ⟨n1, 2, none⟩ = some (.int .u64 x1) ∧ W.cell? ⟨n1, 3, none⟩ = some (.int .u64 x2) ∧ W.cell? ⟨n1, 4, none⟩ = some (.int .u64 x3))) (by kernel_rfl) (ar_sv K0.out) (fun hHeld => ?_)
      generalize W2.drew = w0 at *
      refine wpAnyH_takeD 0 29 (v := ?_) (by kernel_rfl) (by kernel_rfl) (by kernel_rfl) (by kernel_rfl) (by rfl) (fun _ _ _ h => h) ?_ hHeld ?_
      rotate_left 1
      (intro o ho W hSw; simp only [List.getElem?_toArray, List.getElem?_cons_succ, List.getElem?_cons_zero, Option.some.injEq] at ho; subst ho; (try dsimp only at hSw); go_simp; try with_reducible rfl)
      (try simp only [Act.put, List.setIfInBounds_toArray, List.set_cons_zero, List.set_cons_succ])
      refine wpAnyH_takeD 1 30 (v := ?_) (by kernel_rfl) (by kernel_rfl) (by kernel_rfl) (by kernel_rfl) (by rfl) (fun _ _ _ h => h) ?_ hHeld ?_
      rotate_left 1
      (intro o ho W hSw; simp only [List.getElem?_toArray, List.getElem?_cons_succ, List.getElem?_cons_zero, Option.some.injEq] at ho; subst ho; (try dsimp only at hSw); go_simp; try with_reducible rfl)
      (try simp only [Act.put, List.setIfInBounds_toArray, List.set_cons_zero, List.set_cons_succ])
      refine wpAnyH_takeD 2 31 (v := ?_) (by kernel_rfl) (by kernel_rfl) (by kernel_rfl) (by kernel_rfl) (by rfl) (fun _ _ _ h => h) ?_ hHeld ?_
      rotate_left 1
      (intro o ho W hSw; simp only [List.getElem?_toArray, List.getElem?_cons_succ, List.getElem?_cons_zero, Option.some.injEq] at ho; subst ho; (try dsimp only at hSw); go_simp; try with_reducible rfl)
      (try simp only [Act.put, List.setIfInBounds_toArray, List.set_cons_zero, List.set_cons_succ])
      refine wpAnyH_takeD 3 32 (v := ?_) (by kernel_rfl) (by kernel_rfl) (by kernel_rfl) (by kernel_rfl) (by rfl) (fun _ _ _ h => h) ?_ hHeld ?_
      rotate_left 1
      (intro o ho W hSw; simp only [List.getElem?_toArray, List.getElem?_cons_succ, List.getElem?_cons_zero, Option.some.injEq] at ho; subst ho; (try dsimp only at hSw); go_simp; try with_reducible rfl)
      (try simp only [Act.put, List.setIfInBounds_toArray, List.set_cons_zero, List.set_cons_succ])
      refine wpAnyH_takeD 4 33 (v := ?_) (by kernel_rfl) (by kernel_rfl) (by kernel_rfl) (by kernel_rfl) (by rfl) (fun _ _ _ h => h) ?_ hHeld ?_
      rotate_left 1
      (intro o ho W hSw; simp only [List.getElem?_toArray, List.getElem?_cons_succ, List.getElem?_cons_zero, Option.some.injEq] at ho; subst ho; (try dsimp only at hSw); go_simp; try with_reducible rfl)
      (try simp only [Act.put, List.setIfInBounds_toArray, List.set_cons_zero, List.set_cons_succ])
      refine wpAnyH_takeD 5 34 (v := ?_) (by kernel_rfl) (by kernel_rfl) (by kernel_rfl) (by kernel_rfl) (by rfl) (fun _ _ _ h => h) ?_ hHeld ?_
      rotate_left 1
      (intro o ho W hSw; simp only [List.getElem?_toArray, List.getElem?_cons_succ, List.getElem?_cons_zero, Option.some.injEq] at ho; subst ho; (try dsimp only at hSw); go_simp; try with_reducible rfl)
      (try simp only [Act.put, List.setIfInBounds_toArray, List.set_cons_zero, List.set_cons_succ])
      refine wpAnyH_takeD 6 35 (v := ?_) (by kernel_rfl) (by kernel_rfl) (by kernel_rfl) (by kernel_rfl) (by rfl) (fun _ _ _ h => h) ?_ hHeld ?_
      rotate_left 1
      (intro o ho W hSw; simp only [List.getElem?_toArray, List.getElem?_cons_succ, List.getElem?_cons_zero, Option.some.injEq] at ho; subst ho; (try dsimp only at hSw); go_simp; try with_reducible rfl)
      (try simp only [Act.put, List.setIfInBounds_toArray, List.set_cons_zero, List.set_cons_succ])
      refine wpAnyH_takeD 7 36 (v := ?_) (by kernel_rfl) (by kernel_rfl) (by kernel_rfl) (by kernel_rfl) (by rfl) (fun _ _ _ h => h) ?_ hHeld ?_
      rotate_left 1
      (intro o ho W hSw; simp only [List.getElem?_toArray, List.getElem?_cons_succ, List.getElem?_cons_zero, Option.some.injEq] at ho; subst ho; (try dsimp only at hSw); go_simp; try with_reducible rfl)
      (try simp only [Act.put, List.setIfInBounds_toArray, List.set_cons_zero, List.set_cons_succ])
      refine wpAnyH_takeD 8 37 (v := ?_) (by kernel_rfl) (by kernel_rfl) (by kernel_rfl) (by kernel_rfl) (by rfl) (fun _ _ _ h => h) ?_ hHeld ?_
      rotate_left 1
      (intro o ho W hSw; simp only [List.getElem?_toArray, List.getElem?_cons_succ, List.getElem?_cons_zero, Option.some.injEq] at ho; subst ho; (try dsimp only at hSw); go_simp; try with_reducible rfl)
      (try simp only [Act.put, List.setIfInBounds_toArray, List.set_cons_zero, List.set_cons_succ])
      refine wpAnyH_takeD 9 38 (v := ?_) (by kernel_rfl) (by kernel_rfl) (by kernel_rfl) (by kernel_rfl) (by rfl) (fun _ _ _ h => h) ?_ hHeld ?_
      rotate_left 1
      (intro o ho W hSw; simp only [List.getElem?_toArray, List.getElem?_cons_succ, List.getElem?_cons_zero, Option.some.injEq] at ho; subst ho; (try dsimp only at hSw); go_simp; try with_reducible rfl)
      (try simp only [Act.put, List.setIfInBounds_toArray, List.set_cons_zero, List.set_cons_succ])
      refine wpAnyH_takeD 11 40 (v := ?_) (by kernel_rfl) (by kernel_rfl) (by kernel_rfl) (by kernel_rfl) (by rfl) (fun _ _ _ h => h) ?_ hHeld ?_
      rotate_left 1
      (intro o ho W hSw; simp only [List.getElem?_toArray, List.getElem?_cons_succ, List.getElem?_cons_zero, Option.some.injEq] at ho; subst ho; (try dsimp only at hSw); go_simp; try with_reducible rfl)
      (try simp only [Act.put, List.setIfInBounds_toArray, List.set_cons_zero, List.set_cons_succ])
      (try rw [U.out.2.2.1])
      (try rw [U.out.2.2.2])
      refine wpAnyH_twoD 10 16 (by kernel_rfl) (fun o ho K hK => ?_) (fun o ho K hK => ?_) (by kernel_rfl) (by kernel_rfl)
      · skip
        simp only [List.getElem?_toArray, List.getElem?_cons_succ, List.getElem?_cons_zero, Option.some.injEq] at ho
        subst ho
        go_simp
        refine (X2.out _).mono ?_
        rintro e w1 ⟨rfl, h⟩
        have K1 := Lib.hid (K0.out.step h)
        (try have V1 := Lib.hid (V0.out.below h V0.out.lt))
        go_wp2_with fail
        refine hK.out _ _ (ar_sv K1.out) ?_
        clear hK K hHeld
        intro hHeld
        clear h K0
        (try clear V0)
        refine wpAnyH_twoD 12 16 (by kernel_rfl) (fun o ho K hK => ?_) (fun o ho K hK => ?_) (by kernel_rfl) (by kernel_rfl)
        · skip
          simp only [List.getElem?_toArray, List.getElem?_cons_succ, List.getElem?_cons_zero, Option.some.injEq] at ho
          subst ho
          go_simp
          refine (X4.out _).mono ?_
          rintro e w2 ⟨rfl, h⟩
          have K2 := Lib.hid (K1.out.step h)
          (try have V2 := Lib.hid (V1.out.below h V1.out.lt))
          go_wp2_with fail
          refine hK.out _ _ (ar_sv K2.out) ?_
          clear hK K hHeld
          intro hHeld
          clear h K1
          (try clear V1)
          refine wpAnyH_takeD 13 28 (v := ?_) (by kernel_rfl) (by kernel_rfl) (by kernel_rfl) (by kernel_rfl) (by rfl) (fun _ _ _ h => h) ?_ hHeld ?_
          rotate_left 1
          (intro o ho W hSw; simp only [List.getElem?_toArray, List.getElem?_cons_succ, List.getElem?_cons_zero, Option.some.injEq] at ho; subst ho; (try dsimp only at hSw); go_simp; try with_reducible rfl)
          (try simp only [Act.put, List.setIfInBounds_toArray, List.set_cons_zero, List.set_cons_succ])
          refine wpAnyH_takeD 14 42 (v := ?_) (by kernel_rfl) (by kernel_rfl) (by kernel_rfl) (by kernel_rfl) (by rfl) (fun _ _ _ h => h) ?_ hHeld ?_
          rotate_left 1
          (intro o ho W hSw; simp only [List.getElem?_toArray, List.getElem?_cons_succ, List.getElem?_cons_zero, Option.some.injEq] at ho; subst ho; (try dsimp only at hSw); go_simp; try with_reducible rfl)
          (try simp only [Act.put, List.setIfInBounds_toArray, List.set_cons_zero, List.set_cons_succ])
          refine wpAnyH_takeD 15 43 (v := ?_) (by kernel_rfl) (by kernel_rfl) (by kernel_rfl) (by kernel_rfl) (by rfl) (fun _ _ _ h => h) ?_ hHeld ?_
          rotate_left 1
          (intro o ho W hSw; simp only [List.getElem?_toArray, List.getElem?_cons_succ, List.getElem?_cons_zero, Option.some.injEq] at ho; subst ho; (try dsimp only at hSw); go_simp; try with_reducible rfl)
          (try simp only [Act.put, List.setIfInBounds_toArray, List.set_cons_zero, List.set_cons_succ])
          refine wpAnyH_onlyD 16 (by kernel_rfl) (fun o ho K hK => ?_) (by kernel_rfl)
          simp only [List.getElem?_toArray, List.getElem?_cons_succ, List.getElem?_cons_zero, Option.some.injEq] at ho
          subst ho
          go_simp
          refine hK.out _ _ (ar_sv (K2.out.alloc _)) ?_
          clear hK K hHeld
          intro hHeld
          have K3 := Lib.hid (K2.out.alloc (.cells #[.bool false, .int .u64 0, .int .u64 0, .int .u64 0, .int .u64 0] 48))
          have V3 := Lib.hid (BW.new w2 w2.heap.size [.bool false, .int .u64 0, .int .u64 0, .int .u64 0, .int .u64 0] 48 rfl)
          have hne := ar_ne K2.out
          have hr4 : w.heap.size + 1 + 1 + 1 < w2.heap.size := (ar_r K2.out).lt
          have hz4 : w.heap.size ≤ w2.heap.size := K2.out.l.size
          clear K2
          generalize w2.alloc (.cells #[.bool false, .int .u64 0, .int .u64 0, .int .u64 0, .int .u64 0] 48) = wa at *
          generalize w2.heap.size = n4 at *
          have v0 := V3.out.c 0 _ rfl
          have v1 := V3.out.c 1 _ rfl
          have v2 := V3.out.c 2 _ rfl
          have v3 := V3.out.c 3 _ rfl
          have v4 := V3.out.c 4 _ rfl
          have vf := V3.out.f
          refine wpAnyH_onlyD 17 (by kernel_rfl) (fun o ho K hK => ?_) (by kernel_rfl)
          simp only [List.getElem?_toArray, List.getElem?_cons_succ, List.getElem?_cons_zero, Option.some.injEq] at ho
          subst ho
          go_simp
          refine hK.out _ _ (ar_sv (K3.out.far5 (by omega) hne _ _ _ _ _)) ?_
          clear hK K hHeld
          intro hHeld
          refine wpAnyH_takeD 18 9 (v := ?_) (by kernel_rfl) (by kernel_rfl) (by kernel_rfl) (by kernel_rfl) (by rfl) (fun _ _ _ h => h) ?_ hHeld ?_
          rotate_left 1
          (intro o ho W hSw; simp only [List.getElem?_toArray, List.getElem?_cons_succ, List.getElem?_cons_zero, Option.some.injEq] at ho; subst ho; (try dsimp only at hSw); go_simp; try with_reducible rfl)
          (try simp only [Act.put, List.setIfInBounds_toArray, List.set_cons_zero, List.set_cons_succ])
          refine wpAnyH_done (by kernel_rfl) ?_ _
          go_wp2_with fail
          go_meet
          exact ⟨_, rfl, V3.out.put5 _ _ _ _ _, (ar_r K3.out).far5 (by omega) _ _ _ _ _, below_put5 K3.out.l (by omega) _ _ _ _ _⟩
        · skip
          simp only [List.getElem?_toArray, List.getElem?_cons_succ, List.getElem?_cons_zero, Option.some.injEq] at ho
          subst ho
          go_simp
          refine hK.out _ _ (ar_sv (K1.out.alloc _)) ?_
          clear hK K hHeld
          intro hHeld
          have K2 := Lib.hid (K1.out.alloc (.cells #[.bool false, .int .u64 0, .int .u64 0, .int .u64 0, .int .u64 0] 48))
          have V2 := Lib.hid (BW.new w1 w1.heap.size [.bool false, .int .u64 0, .int .u64 0, .int .u64 0, .int .u64 0] 48 rfl)
          have hne := ar_ne K1.out
          have hr4 : w.heap.size + 1 + 1 + 1 < w1.heap.size := (ar_r K1.out).lt
          have hz4 : w.heap.size ≤ w1.heap.size := K1.out.l.size
          clear K1
          generalize w1.alloc (.cells #[.bool false, .int .u64 0, .int .u64 0, .int .u64 0, .int .u64 0] 48) = wa at *
          generalize w1.heap.size = n4 at *
          refine wpAnyH_onlyD 12 (by kernel_rfl) (fun o ho K hK => ?_) (by kernel_rfl)
          simp only [List.getElem?_toArray, List.getElem?_cons_succ, List.getElem?_cons_zero, Option.some.injEq] at ho
          subst ho
          go_simp
          refine (X4.out _).mono ?_
          rintro e w3 ⟨rfl, h⟩
          have K3 := Lib.hid (K2.out.step h)
          (try have V3 := Lib.hid (V2.out.below h V2.out.lt))
          go_wp2_with fail
          refine hK.out _ _ (ar_sv K3.out) ?_
          clear hK K hHeld
          intro hHeld
          clear h K2
          (try clear V2)
          refine wpAnyH_takeD 13 28 (v := ?_) (by kernel_rfl) (by kernel_rfl) (by kernel_rfl) (by kernel_rfl) (by rfl) (fun _ _ _ h => h) ?_ hHeld ?_
          rotate_left 1
          (intro o ho W hSw; simp only [List.getElem?_toArray, List.getElem?_cons_succ, List.getElem?_cons_zero, Option.some.injEq] at ho; subst ho; (try dsimp only at hSw); go_simp; try with_reducible rfl)
          (try simp only [Act.put, List.setIfInBounds_toArray, List.set_cons_zero, List.set_cons_succ])
          refine wpAnyH_takeD 14 42 (v := ?_) (by kernel_rfl) (by kernel_rfl) (by kernel_rfl) (by kernel_rfl) (by rfl) (fun _ _ _ h => h) ?_ hHeld ?_
          rotate_left 1
          (intro o ho W hSw; simp only [List.getElem?_toArray, List.getElem?_cons_succ, List.getElem?_cons_zero, Option.some.injEq] at ho; subst ho; (try dsimp only at hSw); go_simp; try with_reducible rfl)
          (try simp only [Act.put, List.setIfInBounds_toArray, List.set_cons_zero, List.set_cons_succ])
          refine wpAnyH_takeD 15 43 (v := ?_) (by kernel_rfl) (by kernel_rfl) (by kernel_rfl) (by kernel_rfl) (by rfl) (fun _ _ _ h => h) ?_ hHeld ?_
          rotate_left 1
          (intro o ho W hSw; simp only [List.getElem?_toArray, List.getElem?_cons_succ, List.getElem?_cons_zero, Option.some.injEq] at ho; subst ho; (try dsimp only at hSw); go_simp; try with_reducible rfl)
          (try simp only [Act.put, List.setIfInBounds_toArray, List.set_cons_zero, List.set_cons_succ])
          have v0 := V3.out.c 0 _ rfl
          have v1 := V3.out.c 1 _ rfl
          have v2 := V3.out.c 2 _ rfl
          have v3 := V3.out.c 3 _ rfl
          have v4 := V3.out.c 4 _ rfl
          have vf := V3.out.f
          refine wpAnyH_onlyD 17 (by kernel_rfl) (fun o ho K hK => ?_) (by kernel_rfl)
          simp only [List.getElem?_toArray, List.getElem?_cons_succ, List.getElem?_cons_zero, Option.some.injEq] at ho
          subst ho
          go_simp
          refine hK.out _ _ (ar_sv (K3.out.far5 (by omega) hne _ _ _ _ _)) ?_
          clear hK K hHeld
          intro hHeld
          refine wpAnyH_takeD 18 9 (v := ?_) (by kernel_rfl) (by kernel_rfl) (by kernel_rfl) (by kernel_rfl) (by rfl) (fun _ _ _ h => h) ?_ hHeld ?_
          rotate_left 1
          (intro o ho W hSw; simp only [List.getElem?_toArray, List.getElem?_cons_succ, List.getElem?_cons_zero, Option.some.injEq] at ho; subst ho; (try dsimp only at hSw); go_simp; try with_reducible rfl)
          (try simp only [Act.put, List.setIfInBounds_toArray, List.set_cons_zero, List.set_cons_succ])
          refine wpAnyH_done (by kernel_rfl) ?_ _
          go_wp2_with fail
          go_meet
          exact ⟨_, rfl, V3.out.put5 _ _ _ _ _, (ar_r K3.out).far5 (by omega) _ _ _ _ _, below_put5 K3.out.l (by omega) _ _ _ _ _⟩
      · skip
        simp only [List.getElem?_toArray, List.getElem?_cons_succ, List.getElem?_cons_zero, Option.some.injEq] at ho
        subst ho
        go_simp
        refine hK.out _ _ (ar_sv (K0.out.alloc _)) ?_
        clear hK K hHeld
        intro hHeld
        have K1 := Lib.hid (K0.out.alloc (.cells #[.bool false, .int .u64 0, .int .u64 0, .int .u64 0, .int .u64 0] 48))
        have V1 := Lib.hid (BW.new w0 w0.heap.size [.bool false, .int .u64 0, .int .u64 0, .int .u64 0, .int .u64 0] 48 rfl)
        have hne := ar_ne K0.out
        have hr4 : w.heap.size + 1 + 1 + 1 < w0.heap.size := (ar_r K0.out).lt
        have hz4 : w.heap.size ≤ w0.heap.size := K0.out.l.size
        clear K0
        generalize w0.alloc (.cells #[.bool false, .int .u64 0, .int .u64 0, .int .u64 0, .int .u64 0] 48) = wa at *
        generalize w0.heap.size = n4 at *
        refine wpAnyH_onlyD 10 (by kernel_rfl) (fun o ho K hK => ?_) (by kernel_rfl)
        simp only [List.getElem?_toArray, List.getElem?_cons_succ, List.getElem?_cons_zero, Option.some.injEq] at ho
        subst ho
        go_simp
        refine (X2.out _).mono ?_
        rintro e w2 ⟨rfl, h⟩
        have K2 := Lib.hid (K1.out.step h)
        (try have V2 := Lib.hid (V1.out.below h V1.out.lt))
        go_wp2_with fail
        refine hK.out _ _ (ar_sv K2.out) ?_
        clear hK K hHeld
        intro hHeld
        clear h K1
        (try clear V1)
        refine wpAnyH_onlyD 12 (by kernel_rfl) (fun o ho K hK => ?_) (by kernel_rfl)
        simp only [List.getElem?_toArray, List.getElem?_cons_succ, List.getElem?_cons_zero, Option.some.injEq] at ho
        subst ho
        go_simp
        refine (X4.out _).mono ?_
        rintro e w3 ⟨rfl, h⟩
        have K3 := Lib.hid (K2.out.step h)
        (try have V3 := Lib.hid (V2.out.below h V2.out.lt))
        go_wp2_with fail
        refine hK.out _ _ (ar_sv K3.out) ?_
        clear hK K hHeld
        intro hHeld
        clear h K2
        (try clear V2)
        refine wpAnyH_takeD 13 28 (v := ?_) (by kernel_rfl) (by kernel_rfl) (by kernel_rfl) (by kernel_rfl) (by rfl) (fun _ _ _ h => h) ?_ hHeld ?_
        rotate_left 1
        (intro o ho W hSw; simp only [List.getElem?_toArray, List.getElem?_cons_succ, List.getElem?_cons_zero, Option.some.injEq] at ho; subst ho; (try dsimp only at hSw); go_simp; try with_reducible rfl)
        (try simp only [Act.put, List.setIfInBounds_toArray, List.set_cons_zero, List.set_cons_succ])
        refine wpAnyH_takeD 14 42 (v := ?_) (by kernel_rfl) (by kernel_rfl) (by kernel_rfl) (by kernel_rfl) (by rfl) (fun _ _ _ h => h) ?_ hHeld ?_
        rotate_left 1
        (intro o ho W hSw; simp only [List.getElem?_toArray, List.getElem?_cons_succ, List.getElem?_cons_zero, Option.some.injEq] at ho; subst ho; (try dsimp only at hSw); go_simp; try with_reducible rfl)
        (try simp only [Act.put, List.setIfInBounds_toArray, List.set_cons_zero, List.set_cons_succ])
        refine wpAnyH_takeD 15 43 (v := ?_) (by kernel_rfl) (by kernel_rfl) (by kernel_rfl) (by kernel_rfl) (by rfl) (fun _ _ _ h => h) ?_ hHeld ?_
        rotate_left 1
        (intro o ho W hSw; simp only [List.getElem?_toArray, List.getElem?_cons_succ, List.getElem?_cons_zero, Option.some.injEq] at ho; subst ho; (try dsimp only at hSw); go_simp; try with_reducible rfl)
        (try simp only [Act.put, List.setIfInBounds_toArray, List.set_cons_zero, List.set_cons_succ])
        have v0 := V3.out.c 0 _ rfl
        have v1 := V3.out.c 1 _ rfl
        have v2 := V3.out.c 2 _ rfl
        have v3 := V3.out.c 3 _ rfl
        have v4 := V3.out.c 4 _ rfl
        have vf := V3.out.f
        refine wpAnyH_onlyD 17 (by kernel_rfl) (fun o ho K hK => ?_) (by kernel_rfl)
        simp only [List.getElem?_toArray, List.getElem?_cons_succ, List.getElem?_cons_zero, Option.some.injEq] at ho
        subst ho
        go_simp
        refine hK.out _ _ (ar_sv (K3.out.far5 (by omega) hne _ _ _ _ _)) ?_
        clear hK K hHeld
        intro hHeld
        refine wpAnyH_takeD 18 9 (v := ?_) (by kernel_rfl) (by kernel_rfl) (by kernel_rfl) (by kernel_rfl) (by rfl) (fun _ _ _ h => h) ?_ hHeld ?_
        rotate_left 1
        (intro o ho W hSw; simp only [List.getElem?_toArray, List.getElem?_cons_succ, List.getElem?_cons_zero, Option.some.injEq] at ho; subst ho; (try dsimp only at hSw); go_simp; try with_reducible rfl)
        (try simp only [Act.put, List.setIfInBounds_toArray, List.set_cons_zero, List.set_cons_succ])
        refine wpAnyH_done (by kernel_rfl) ?_ _
        go_wp2_with fail
        go_meet
        exact ⟨_, rfl, V3.out.put5 _ _ _ _ _, (ar_r K3.out).far5 (by omega) _ _ _ _ _, below_put5 K3.out.l (by omega) _ _ _ _ _⟩
    case rest =>
      obtain ⟨n4, rfl, HV, HR, HL⟩ := hcut
      clear K0 X2 X4
      obtain ⟨v0, v1, v2, v3, v4⟩ := HV.h5
      have hv := HV.lt
      have R0 := Lib.hid HR
      have LL := Lib.hid HL
      obtain ⟨r0, r1, r2, r3, r4⟩ := HR.h5
      have rf := HR.f
      clear HV HR HL
      go_wp2
      exact bodyPost_ret (v := .agg #[.bool (decide (A < 0)), .int .u64 (d0 (A.natAbs)), .int .u64 (d1 (A.natAbs)), .int .u64 (d2 (A.natAbs)), .int .u64 (d3 (A.natAbs))]) (by simp [results, Try.results24, go_sem, r0, r1, r2, r3, r4]) rfl ⟨rfl, below_put5 LL.out (by omega) _ _ _ _ _⟩
end Go.Proofs.Ytmfmdipejlnmfaa
