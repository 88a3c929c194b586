/- Of chicanelaw05: awake; what a statement's walk keeps of two vectors and two receivers; VecSums. -/
import Derived.Test.YtmjohcgngicpoaaJg
import Derived.Test.YtmjohcgngicpoaaBy
namespace Go.Proofs.Ytmjohcgngicpoaa
open Go.RowKit
set_option linter.unusedVariables false
set_option linter.unusedSimpArgs false

theorem vev1 : crossF 0 0 0 4294967296 = 0 ∧ crossF 0 0 4294967296 0 = 0 ∧ crossF 4294967296 4294967296 0 0 = 4294967296 ∧ (false || mulO 0 0 || mulO 0 4294967296 || subO (mulF 0 0) (mulF 0 4294967296) || mulO 0 0 || mulO 4294967296 0 || subO (mulF 0 0) (mulF 4294967296 0) || mulO 4294967296 4294967296 || mulO 0 0 || subO (mulF 4294967296 4294967296) (mulF 0 0)) = false := by decide +kernel
theorem vev2 : dotF 4294967296 0 8589934592 12884901888 0 4294967296 = 21474836480 ∧ (false || mulO 4294967296 12884901888 || mulO 0 0 || addO (mulF 4294967296 12884901888) (mulF 0 0) || mulO 8589934592 4294967296 || addO (addF (mulF 4294967296 12884901888) (mulF 0 0)) (mulF 8589934592 4294967296)) = false := by decide +kernel
set_option maxHeartbeats 1000000 in
theorem vecAwake_any (w : World) :
    Calls Try.prog 14 #[] w fun e w' => e = .returned (.bool true) ∧ Below w.heap.size w w' := by
  go_enter Try.func14, Try.ntmps14
  go_wp2_with fail
  have m0 : MAt (w.alloc (.cells #[.bool false] 27)) w.heap.size 0 false := MAt.new w _ _
  have M0 := Lib.hid m0
  clear m0
  refine (VCross_any 4294967296 0 0 0 4294967296 0 w.heap.size 0 false _ ⟨by omega, by omega, by omega, by omega, by omega, by omega⟩ ⟨by omega, by omega, by omega, by omega, by omega, by omega⟩ M0.out).mono ?_
  rw [vev1.1, vev1.2.1, vev1.2.2.1, vev1.2.2.2]
  rintro e w1 ⟨rfl, h1⟩
  have M1 := Lib.hid (h1.at M0.out M0.out.lt)
  have B1 := Lib.hid (((Below.refl w.heap.size w).alloc (Nat.le_refl _) _).trans (h1.below (C := w.heap.size) (by simp) (Nat.le_refl _)))
  clear h1
  go_wp2_with fail
  refine (VDot_any 4294967296 0 8589934592 12884901888 0 4294967296 w.heap.size 0 false _ ⟨by omega, by omega, by omega, by omega, by omega, by omega⟩ ⟨by omega, by omega, by omega, by omega, by omega, by omega⟩ M1.out).mono ?_
  rw [vev2.1, vev2.2]
  rintro e w2 ⟨rfl, h2⟩
  have M2 := h2.at M1.out M1.out.lt
  have B2 := Lib.hid (B1.out.trans (h2.below (C := w.heap.size) B1.out.size (Nat.le_refl _)))
  have c2 : w2.cell? ⟨w.heap.size, 0, none⟩ = some (.bool false) := M2.c
  clear h2 M2
  go_wp2
  go_ret
  exact ⟨rfl, B2.out⟩
/-- operation number i, which is not wanted, is passed by; its slot d is named -/
theorem wpAnyH_skipD {P : Program} {md : Region.Mode} {ops : Array Oper} {Q : Exit → Act → World → Prop} {S : World → Prop} (i d : Nat) {fuel : Nat} {listed : Array Bool} {a : Act} {w : World}
    (hi : (ops[i]?.map fun o => o.dst) = some (some d)) (hs : Region.noSelect ops = true) (hf : Region.free md ops listed i = true) (hr : (Region.ready md ops listed).contains i = true)
    (hw : (ops[i]?.map fun o => Region.wanted o (yielded ops a.tmps)) = some false)
    (hQ : ∀ c a w, Q (.panic c) (a.put (some d) undef) w → Q (.panic c) a w) (hS : S w)
    (h : wpAnyH P md ops Q S fuel (listed.setIfInBounds i true) (a.put (some d) undef) w) : wpAnyH P md ops Q S (fuel + 1) listed a w := by
  cases ho : ops[i]? with
  | none => rw [ho] at hi; cases hi
  | some o =>
    rw [ho] at hi hw
    have e : o.dst = some d := Option.some.inj hi
    have hw' : Region.wanted o (yielded ops a.tmps) = false := Option.some.inj hw
    refine wpAnyH_take (i := i) (oi := o) (v := undef) ho hs hf hr ?_ (Or.inr ⟨hw', rfl⟩) hS ?_
    · rw [e]; exact hQ
    · rw [e]; exact h
/-- two receivers anew -/
theorem two_at {w W : World} {n1 n2 : Nat} (h : Below w.heap.size w W) (e1 : n1 = W.heap.size) (e2 : n2 = W.heap.size + 1) (s t : TypeId) :
    Two w ((W.alloc (.cells #[.bool false] s)).alloc (.cells #[.bool false] t)) n1 n2 false false := by
  subst e1; subst e2; exact Two.new h s t
/-- two vectors in memory, and nothing else of w turned -/
def VCut (w : World) (n m : Nat) (a1 a2 a3 b1 b2 b3 : Int) (t : Value) (W : World) : Prop := t = .bool false ∧ VW W n a1 a2 a3 ∧ VW W m b1 b2 b3 ∧ Below w.heap.size w W
set_option maxRecDepth 100000 in
set_option maxHeartbeats 8000000 in
theorem vsums_walk (a1 a2 a3 b1 b2 b3 : Int) (w : World) (ha : In3 a1 a2 a3) (hb : In3 b1 b2 b3) :
    Calls Try.prog 3 #[.agg #[.int .i64 a1, .int .i64 a2, .int .i64 a3], .agg #[.int .i64 b1, .int .i64 b2, .int .i64 b3]] w fun e w' => e = .returned (.bool true) ∧ Below w.heap.size w w' := by
  have X1 := Lib.hid (fun (b : Nat) (W : World) (m : MAt W b 0 false) => VAdd_any a1 a2 a3 b1 b2 b3 b 0 false W ha hb m)
  have Y1 := Lib.hid (fun (b : Nat) (W : World) (m : MAt W b 0 false) => rVAdd_any a1 a2 a3 b1 b2 b3 b 0 false W ha hb m)
  have X2 := Lib.hid (fun (b : Nat) (W : World) (m : MAt W b 0 false) => VSub_any a1 a2 a3 b1 b2 b3 b 0 false W ha hb m)
  have Y2 := Lib.hid (fun (b : Nat) (W : World) (m : MAt W b 0 false) => rVSub_any a1 a2 a3 b1 b2 b3 b 0 false W ha hb m)
  generalize addF a1 b1 = p1 at *
  generalize addF a2 b2 = p2 at *
  generalize addF a3 b3 = p3 at *
  generalize (false || addO a1 b1 || addO a2 b2 || addO a3 b3) = p at *
  generalize subF a1 b1 = q1 at *
  generalize subF a2 b2 = q2 at *
  generalize subF a3 b3 = q3 at *
  generalize (false || subO a1 b1 || subO a2 b2 || subO a3 b3) = q at *
  have X3 := Lib.hid (fun (b : Nat) (W : World) (m : MAt W b 0 q) => VNeg_any b1 b2 b3 b 0 q W hb m)
  have Y3 := Lib.hid (fun (b : Nat) (W : World) (m : MAt W b 0 q) => rVNeg_any b1 b2 b3 b 0 q W hb m)
  generalize subF 0 b1 = r1 at *
  generalize subF 0 b2 = r2 at *
  generalize subF 0 b3 = r3 at *
  generalize (q || subO 0 b1 || subO 0 b2 || subO 0 b3) = r at *
  clear ha hb
  go_enter Try.func3, Try.ntmps3
  go_wp2_with fail
  have A0 := Lib.hid ((((VW.new w w.heap.size a1 a2 a3 24 rfl).alloc (.cells #[.int .i64 b1, .int .i64 b2, .int .i64 b3] 24)).alloc (.cells #[.bool false] 27)).alloc (.cells #[.bool false] 29)).drew
  have B0 := Lib.hid (((VW.new (w.alloc (.cells #[.int .i64 a1, .int .i64 a2, .int .i64 a3] 24)) (w.heap.size + 1) b1 b2 b3 24 (by simp)).alloc (.cells #[.bool false] 27)).alloc (.cells #[.bool false] 29)).drew
  have T0 := Lib.hid (two_at (w := w) (n1 := w.heap.size + 1 + 1) (n2 := w.heap.size + 1 + 1 + 1) (((Below.refl w.heap.size w).alloc (Nat.le_refl _) (.cells #[.int .i64 a1, .int .i64 a2, .int .i64 a3] 24)).alloc (by simp) (.cells #[.int .i64 b1, .int .i64 b2, .int .i64 b3] 24)) (by simp) (by simp) 27 29).drew
  generalize (((w.alloc (.cells #[.int .i64 a1, .int .i64 a2, .int .i64 a3] 24)).alloc (.cells #[.int .i64 b1, .int .i64 b2, .int .i64 b3] 24)).alloc (.cells #[.bool false] 27)).alloc (.cells #[.bool false] 29) = W0 at *
  go_cut [32] (fun t W => VCut w w.heap.size (w.heap.size + 1) a1 a2 a3 b1 b2 b3 t W)
  case first =>
    refine wp_region_held_drew (S := fun W => (W.cell? ⟨w.heap.size, 0, none⟩ = some (.int .i64 (a1)) ∧ W.cell? ⟨w.heap.size, 1, none⟩ = some (.int .i64 (a2)) ∧ W.cell? ⟨w.heap.size, 2, none⟩ = some (.int .i64 (a3))) ∧ (W.cell? ⟨w.heap.size + 1, 0, none⟩ = some (.int .i64 (b1)) ∧ W.cell? ⟨w.heap.size + 1, 1, none⟩ = some (.int .i64 (b2)) ∧ W.cell? ⟨w.heap.size + 1, 2, none⟩ = some (.int .i64 (b3)))) (by kernel_rfl) ⟨A0.out.held, B0.out.held⟩ (fun hHeld => ?_)
    refine wpAnyH_takeD 0 13 (v := ?_) (by kernel_rfl) (by kernel_rfl) (by kernel_rfl) (by kernel_rfl) (by rfl) (fun _ _ _ h => h) ?_ hHeld ?_
    rotate_left 1
    (intro o ho W hSw; simp only [List.getElem?_toArray, List.getElem?_cons_succ, List.getElem?_cons_zero, Option.some.injEq] at ho; subst ho; (try dsimp only at hSw); go_simp; try with_reducible rfl)
    (try simp only [Act.put, List.setIfInBounds_toArray, List.set_cons_zero, List.set_cons_succ])
    refine wpAnyH_takeD 1 14 (v := ?_) (by kernel_rfl) (by kernel_rfl) (by kernel_rfl) (by kernel_rfl) (by rfl) (fun _ _ _ h => h) ?_ hHeld ?_
    rotate_left 1
    (intro o ho W hSw; simp only [List.getElem?_toArray, List.getElem?_cons_succ, List.getElem?_cons_zero, Option.some.injEq] at ho; subst ho; (try dsimp only at hSw); go_simp; try with_reducible rfl)
    (try simp only [Act.put, List.setIfInBounds_toArray, List.set_cons_zero, List.set_cons_succ])
    refine wpAnyH_takeD 2 15 (v := ?_) (by kernel_rfl) (by kernel_rfl) (by kernel_rfl) (by kernel_rfl) (by rfl) (fun _ _ _ h => h) ?_ hHeld ?_
    rotate_left 1
    (intro o ho W hSw; simp only [List.getElem?_toArray, List.getElem?_cons_succ, List.getElem?_cons_zero, Option.some.injEq] at ho; subst ho; (try dsimp only at hSw); go_simp; try with_reducible rfl)
    (try simp only [Act.put, List.setIfInBounds_toArray, List.set_cons_zero, List.set_cons_succ])
    refine wpAnyH_takeD 4 17 (v := ?_) (by kernel_rfl) (by kernel_rfl) (by kernel_rfl) (by kernel_rfl) (by rfl) (fun _ _ _ h => h) ?_ hHeld ?_
    rotate_left 1
    (intro o ho W hSw; simp only [List.getElem?_toArray, List.getElem?_cons_succ, List.getElem?_cons_zero, Option.some.injEq] at ho; subst ho; (try dsimp only at hSw); go_simp; try with_reducible rfl)
    (try simp only [Act.put, List.setIfInBounds_toArray, List.set_cons_zero, List.set_cons_succ])
    refine wpAnyH_takeD 5 18 (v := ?_) (by kernel_rfl) (by kernel_rfl) (by kernel_rfl) (by kernel_rfl) (by rfl) (fun _ _ _ h => h) ?_ hHeld ?_
    rotate_left 1
    (intro o ho W hSw; simp only [List.getElem?_toArray, List.getElem?_cons_succ, List.getElem?_cons_zero, Option.some.injEq] at ho; subst ho; (try dsimp only at hSw); go_simp; try with_reducible rfl)
    (try simp only [Act.put, List.setIfInBounds_toArray, List.set_cons_zero, List.set_cons_succ])
    refine wpAnyH_takeD 6 19 (v := ?_) (by kernel_rfl) (by kernel_rfl) (by kernel_rfl) (by kernel_rfl) (by rfl) (fun _ _ _ h => h) ?_ hHeld ?_
    rotate_left 1
    (intro o ho W hSw; simp only [List.getElem?_toArray, List.getElem?_cons_succ, List.getElem?_cons_zero, Option.some.injEq] at ho; subst ho; (try dsimp only at hSw); go_simp; try with_reducible rfl)
    (try simp only [Act.put, List.setIfInBounds_toArray, List.set_cons_zero, List.set_cons_succ])
    refine wpAnyH_onlyD 3 (by kernel_rfl) (fun o ho K hK => ?_) (by kernel_rfl)
    simp only [List.getElem?_toArray, List.getElem?_cons_succ, List.getElem?_cons_zero, Option.some.injEq] at ho
    subst ho
    go_simp
    refine (X1.out _ _ T0.out.a).mono ?_
    rintro e w1 ⟨rfl, h⟩
    have T1 := Lib.hid (T0.out.fst h)
    have A1 := Lib.hid (A0.out.fx h (by omega))
    (try have B1 := Lib.hid (B0.out.fx h (by omega)))
    (try have U1 := Lib.hid (U0.out.fx h (by omega)))
    (try have V1 := Lib.hid (V0.out.fx h (by omega)))
    go_wp2_with fail
    refine hK.out _ _ (⟨A1.out.held, B1.out.held⟩) (fun hHeld => ?_)
    clear hK K
    clear h T0 A0
    (try clear B0)
    (try clear U0)
    (try clear V0)
    refine wpAnyH_onlyD 7 (by kernel_rfl) (fun o ho K hK => ?_) (by kernel_rfl)
    simp only [List.getElem?_toArray, List.getElem?_cons_succ, List.getElem?_cons_zero, Option.some.injEq] at ho
    subst ho
    go_simp
    refine (Y1.out _ _ T1.out.b).mono ?_
    rintro e w2 ⟨rfl, h⟩
    have T2 := Lib.hid (T1.out.snd h)
    have A2 := Lib.hid (A1.out.fx h (by omega))
    (try have B2 := Lib.hid (B1.out.fx h (by omega)))
    (try have U2 := Lib.hid (U1.out.fx h (by omega)))
    (try have V2 := Lib.hid (V1.out.fx h (by omega)))
    go_wp2_with fail
    refine hK.out _ _ (⟨A2.out.held, B2.out.held⟩) (fun hHeld => ?_)
    clear hK K
    clear h T1 A1
    (try clear B1)
    (try clear U1)
    (try clear V1)
    refine wpAnyH_grow (fun W => ((W.cell? ⟨w.heap.size, 0, none⟩ = some (.int .i64 (a1)) ∧ W.cell? ⟨w.heap.size, 1, none⟩ = some (.int .i64 (a2)) ∧ W.cell? ⟨w.heap.size, 2, none⟩ = some (.int .i64 (a3))) ∧ (W.cell? ⟨w.heap.size + 1, 0, none⟩ = some (.int .i64 (b1)) ∧ W.cell? ⟨w.heap.size + 1, 1, none⟩ = some (.int .i64 (b2)) ∧ W.cell? ⟨w.heap.size + 1, 2, none⟩ = some (.int .i64 (b3)))) ∧ W.cell? ⟨w.heap.size + 1 + 1, 0, none⟩ = some (.bool p) ∧ W.cell? ⟨w.heap.size + 1 + 1 + 1, 0, none⟩ = some (.bool p)) (fun _ h => h.1) ⟨hHeld, T2.out.a.c, T2.out.b.c⟩ (fun hHeld => ?_)
    refine wpAnyH_takeD 8 21 (v := ?_) (by kernel_rfl) (by kernel_rfl) (by kernel_rfl) (by kernel_rfl) (by rfl) (fun _ _ _ h => h) ?_ hHeld ?_
    rotate_left 1
    (intro o ho W hSw; simp only [List.getElem?_toArray, List.getElem?_cons_succ, List.getElem?_cons_zero, Option.some.injEq] at ho; subst ho; (try dsimp only at hSw); go_simp; try with_reducible rfl)
    (try simp only [Act.put, List.setIfInBounds_toArray, List.set_cons_zero, List.set_cons_succ])
    refine wpAnyH_takeD 9 22 (v := ?_) (by kernel_rfl) (by kernel_rfl) (by kernel_rfl) (by kernel_rfl) (by rfl) (fun _ _ _ h => h) ?_ hHeld ?_
    rotate_left 1
    (intro o ho W hSw; simp only [List.getElem?_toArray, List.getElem?_cons_succ, List.getElem?_cons_zero, Option.some.injEq] at ho; subst ho; (try dsimp only at hSw); go_simp; try with_reducible rfl)
    (try simp only [Act.put, List.setIfInBounds_toArray, List.set_cons_zero, List.set_cons_succ])
    refine wpAnyH_takeD 10 23 (v := ?_) (by kernel_rfl) (by kernel_rfl) (by kernel_rfl) (by kernel_rfl) (by rfl) (fun _ _ _ h => h) ?_ hHeld ?_
    rotate_left 1
    (intro o ho W hSw; simp only [List.getElem?_toArray, List.getElem?_cons_succ, List.getElem?_cons_zero, Option.some.injEq] at ho; subst ho; (try dsimp only at hSw); go_simp; try with_reducible rfl)
    (try simp only [Act.put, List.setIfInBounds_toArray, List.set_cons_zero, List.set_cons_succ])
    refine wpAnyH_takeD 11 24 (v := ?_) (by kernel_rfl) (by kernel_rfl) (by kernel_rfl) (by kernel_rfl) (by rfl) (fun _ _ _ h => h) ?_ hHeld ?_
    rotate_left 1
    (intro o ho W hSw; simp only [List.getElem?_toArray, List.getElem?_cons_succ, List.getElem?_cons_zero, Option.some.injEq] at ho; subst ho; (try dsimp only at hSw); go_simp; try with_reducible rfl)
    (try simp only [Act.put, List.setIfInBounds_toArray, List.set_cons_zero, List.set_cons_succ])
    refine wpAnyH_takeD 12 25 (v := ?_) (by kernel_rfl) (by kernel_rfl) (by kernel_rfl) (by kernel_rfl) (by rfl) (fun _ _ _ h => h) ?_ hHeld ?_
    rotate_left 1
    (intro o ho W hSw; simp only [List.getElem?_toArray, List.getElem?_cons_succ, List.getElem?_cons_zero, Option.some.injEq] at ho; subst ho; (try dsimp only at hSw); go_simp; try with_reducible rfl)
    (try simp only [Act.put, List.setIfInBounds_toArray, List.set_cons_zero, List.set_cons_succ])
    refine wpAnyH_takeD 13 26 (v := ?_) (by kernel_rfl) (by kernel_rfl) (by kernel_rfl) (by kernel_rfl) (by rfl) (fun _ _ _ h => h) ?_ hHeld ?_
    rotate_left 1
    (intro o ho W hSw; simp only [List.getElem?_toArray, List.getElem?_cons_succ, List.getElem?_cons_zero, Option.some.injEq] at ho; subst ho; (try dsimp only at hSw); go_simp; try with_reducible rfl)
    (try simp only [Act.put, List.setIfInBounds_toArray, List.set_cons_zero, List.set_cons_succ])
    refine wpAnyH_takeD 14 27 (v := ?_) (by kernel_rfl) (by kernel_rfl) (by kernel_rfl) (by kernel_rfl) (by rfl) (fun _ _ _ h => h) ?_ hHeld ?_
    rotate_left 1
    (intro o ho W hSw; simp only [List.getElem?_toArray, List.getElem?_cons_succ, List.getElem?_cons_zero, Option.some.injEq] at ho; subst ho; (try dsimp only at hSw); go_simp; try with_reducible rfl)
    (try simp only [Act.put, List.setIfInBounds_toArray, List.set_cons_zero, List.set_cons_succ])
    refine wpAnyH_takeD 15 28 (v := ?_) (by kernel_rfl) (by kernel_rfl) (by kernel_rfl) (by kernel_rfl) (by rfl) (fun _ _ _ h => h) ?_ hHeld ?_
    rotate_left 1
    (intro o ho W hSw; simp only [List.getElem?_toArray, List.getElem?_cons_succ, List.getElem?_cons_zero, Option.some.injEq] at ho; subst ho; (try dsimp only at hSw); go_simp; try with_reducible rfl)
    (try simp only [Act.put, List.setIfInBounds_toArray, List.set_cons_zero, List.set_cons_succ])
    refine wpAnyH_takeD 16 29 (v := ?_) (by kernel_rfl) (by kernel_rfl) (by kernel_rfl) (by kernel_rfl) (by rfl) (fun _ _ _ h => h) ?_ hHeld ?_
    rotate_left 1
    (intro o ho W hSw; simp only [List.getElem?_toArray, List.getElem?_cons_succ, List.getElem?_cons_zero, Option.some.injEq] at ho; subst ho; (try dsimp only at hSw); go_simp; try with_reducible rfl)
    (try simp only [Act.put, List.setIfInBounds_toArray, List.set_cons_zero, List.set_cons_succ])
    refine wpAnyH_takeD 17 30 (v := ?_) (by kernel_rfl) (by kernel_rfl) (by kernel_rfl) (by kernel_rfl) (by rfl) (fun _ _ _ h => h) ?_ hHeld ?_
    rotate_left 1
    (intro o ho W hSw; simp only [List.getElem?_toArray, List.getElem?_cons_succ, List.getElem?_cons_zero, Option.some.injEq] at ho; subst ho; (try dsimp only at hSw); go_simp; try with_reducible rfl)
    (try simp only [Act.put, List.setIfInBounds_toArray, List.set_cons_zero, List.set_cons_succ])
    refine wpAnyH_takeD 18 31 (v := ?_) (by kernel_rfl) (by kernel_rfl) (by kernel_rfl) (by kernel_rfl) (by rfl) (fun _ _ _ h => h) ?_ hHeld ?_
    rotate_left 1
    (intro o ho W hSw; simp only [List.getElem?_toArray, List.getElem?_cons_succ, List.getElem?_cons_zero, Option.some.injEq] at ho; subst ho; (try dsimp only at hSw); go_simp; try with_reducible rfl)
    (try simp only [Act.put, List.setIfInBounds_toArray, List.set_cons_zero, List.set_cons_succ])
    refine wpAnyH_takeD 19 32 (v := ?_) (by kernel_rfl) (by kernel_rfl) (by kernel_rfl) (by kernel_rfl) (by rfl) (fun _ _ _ h => h) ?_ hHeld ?_
    rotate_left 1
    (intro o ho W hSw; simp only [List.getElem?_toArray, List.getElem?_cons_succ, List.getElem?_cons_zero, Option.some.injEq] at ho; subst ho; (try dsimp only at hSw); go_simp; try with_reducible rfl)
    (try simp only [Act.put, List.setIfInBounds_toArray, List.set_cons_zero, List.set_cons_succ])
    refine wpAnyH_done (by kernel_rfl) ?_ _
    go_wp2_with fail
    go_meet
    exact ⟨rfl, A2.out, B2.out, T2.out.bl⟩
  case rest =>
    obtain ⟨rfl, HA1, HB1, B⟩ := hcut
    have HB := Lib.hid B
    have zc : w.heap.size ≤ wc.heap.size := B.size
    have v0 := HA1.c0
    have v1 := HA1.c1
    have v2 := HA1.c2
    have u0 := HB1.c0
    have u1 := HB1.c1
    have u2 := HB1.c2
    have HA1 := Lib.hid HA1
    have HB1 := Lib.hid HB1
    clear T0 A0 B0 B
    go_wp2_with fail
    have A0 := Lib.hid ((HA1.out.alloc (.cells #[.bool false] 27)).alloc (.cells #[.bool false] 29)).drew
    have B0 := Lib.hid ((HB1.out.alloc (.cells #[.bool false] 27)).alloc (.cells #[.bool false] 29)).drew
    have T0 := Lib.hid (two_at (w := w) (n1 := wc.heap.size) (n2 := wc.heap.size + 1) HB.out rfl rfl 27 29).drew
    have e1 : w.heap.size < wc.heap.size := HA1.out.lt
    have e2 : w.heap.size + 1 < wc.heap.size := HB1.out.lt
    clear HA1 HB1 v0 v1 v2 u0 u1 u2
    generalize (wc.alloc (.cells #[.bool false] 27)).alloc (.cells #[.bool false] 29) = W0 at *
    generalize wc.heap.size = n1 at *
    refine wp_region_held_drew (S := fun W => (W.cell? ⟨w.heap.size, 0, none⟩ = some (.int .i64 (a1)) ∧ W.cell? ⟨w.heap.size, 1, none⟩ = some (.int .i64 (a2)) ∧ W.cell? ⟨w.heap.size, 2, none⟩ = some (.int .i64 (a3))) ∧ (W.cell? ⟨w.heap.size + 1, 0, none⟩ = some (.int .i64 (b1)) ∧ W.cell? ⟨w.heap.size + 1, 1, none⟩ = some (.int .i64 (b2)) ∧ W.cell? ⟨w.heap.size + 1, 2, none⟩ = some (.int .i64 (b3)))) (by kernel_rfl) ⟨A0.out.held, B0.out.held⟩ (fun hHeld => ?_)
    refine wpAnyH_takeD 0 37 (v := ?_) (by kernel_rfl) (by kernel_rfl) (by kernel_rfl) (by kernel_rfl) (by rfl) (fun _ _ _ h => h) ?_ hHeld ?_
    rotate_left 1
    (intro o ho W hSw; simp only [List.getElem?_toArray, List.getElem?_cons_succ, List.getElem?_cons_zero, Option.some.injEq] at ho; subst ho; (try dsimp only at hSw); go_simp; try with_reducible rfl)
    (try simp only [Act.put, List.setIfInBounds_toArray, List.set_cons_zero, List.set_cons_succ])
    refine wpAnyH_takeD 1 38 (v := ?_) (by kernel_rfl) (by kernel_rfl) (by kernel_rfl) (by kernel_rfl) (by rfl) (fun _ _ _ h => h) ?_ hHeld ?_
    rotate_left 1
    (intro o ho W hSw; simp only [List.getElem?_toArray, List.getElem?_cons_succ, List.getElem?_cons_zero, Option.some.injEq] at ho; subst ho; (try dsimp only at hSw); go_simp; try with_reducible rfl)
    (try simp only [Act.put, List.setIfInBounds_toArray, List.set_cons_zero, List.set_cons_succ])
    refine wpAnyH_takeD 2 39 (v := ?_) (by kernel_rfl) (by kernel_rfl) (by kernel_rfl) (by kernel_rfl) (by rfl) (fun _ _ _ h => h) ?_ hHeld ?_
    rotate_left 1
    (intro o ho W hSw; simp only [List.getElem?_toArray, List.getElem?_cons_succ, List.getElem?_cons_zero, Option.some.injEq] at ho; subst ho; (try dsimp only at hSw); go_simp; try with_reducible rfl)
    (try simp only [Act.put, List.setIfInBounds_toArray, List.set_cons_zero, List.set_cons_succ])
    refine wpAnyH_takeD 4 41 (v := ?_) (by kernel_rfl) (by kernel_rfl) (by kernel_rfl) (by kernel_rfl) (by rfl) (fun _ _ _ h => h) ?_ hHeld ?_
    rotate_left 1
    (intro o ho W hSw; simp only [List.getElem?_toArray, List.getElem?_cons_succ, List.getElem?_cons_zero, Option.some.injEq] at ho; subst ho; (try dsimp only at hSw); go_simp; try with_reducible rfl)
    (try simp only [Act.put, List.setIfInBounds_toArray, List.set_cons_zero, List.set_cons_succ])
    refine wpAnyH_takeD 5 42 (v := ?_) (by kernel_rfl) (by kernel_rfl) (by kernel_rfl) (by kernel_rfl) (by rfl) (fun _ _ _ h => h) ?_ hHeld ?_
    rotate_left 1
    (intro o ho W hSw; simp only [List.getElem?_toArray, List.getElem?_cons_succ, List.getElem?_cons_zero, Option.some.injEq] at ho; subst ho; (try dsimp only at hSw); go_simp; try with_reducible rfl)
    (try simp only [Act.put, List.setIfInBounds_toArray, List.set_cons_zero, List.set_cons_succ])
    refine wpAnyH_takeD 6 43 (v := ?_) (by kernel_rfl) (by kernel_rfl) (by kernel_rfl) (by kernel_rfl) (by rfl) (fun _ _ _ h => h) ?_ hHeld ?_
    rotate_left 1
    (intro o ho W hSw; simp only [List.getElem?_toArray, List.getElem?_cons_succ, List.getElem?_cons_zero, Option.some.injEq] at ho; subst ho; (try dsimp only at hSw); go_simp; try with_reducible rfl)
    (try simp only [Act.put, List.setIfInBounds_toArray, List.set_cons_zero, List.set_cons_succ])
    refine wpAnyH_onlyD 3 (by kernel_rfl) (fun o ho K hK => ?_) (by kernel_rfl)
    simp only [List.getElem?_toArray, List.getElem?_cons_succ, List.getElem?_cons_zero, Option.some.injEq] at ho
    subst ho
    go_simp
    refine (X2.out _ _ T0.out.a).mono ?_
    rintro e w1 ⟨rfl, h⟩
    have T1 := Lib.hid (T0.out.fst h)
    have A1 := Lib.hid (A0.out.fx h (by omega))
    (try have B1 := Lib.hid (B0.out.fx h (by omega)))
    (try have U1 := Lib.hid (U0.out.fx h (by omega)))
    (try have V1 := Lib.hid (V0.out.fx h (by omega)))
    go_wp2_with fail
    refine hK.out _ _ (⟨A1.out.held, B1.out.held⟩) (fun hHeld => ?_)
    clear hK K
    clear h T0 A0
    (try clear B0)
    (try clear U0)
    (try clear V0)
    refine wpAnyH_onlyD 7 (by kernel_rfl) (fun o ho K hK => ?_) (by kernel_rfl)
    simp only [List.getElem?_toArray, List.getElem?_cons_succ, List.getElem?_cons_zero, Option.some.injEq] at ho
    subst ho
    go_simp
    refine (Y2.out _ _ T1.out.b).mono ?_
    rintro e w2 ⟨rfl, h⟩
    have T2 := Lib.hid (T1.out.snd h)
    have A2 := Lib.hid (A1.out.fx h (by omega))
    (try have B2 := Lib.hid (B1.out.fx h (by omega)))
    (try have U2 := Lib.hid (U1.out.fx h (by omega)))
    (try have V2 := Lib.hid (V1.out.fx h (by omega)))
    go_wp2_with fail
    refine hK.out _ _ (⟨A2.out.held, B2.out.held⟩) (fun hHeld => ?_)
    clear hK K
    clear h T1 A1
    (try clear B1)
    (try clear U1)
    (try clear V1)
    refine wpAnyH_takeD 8 45 (v := ?_) (by kernel_rfl) (by kernel_rfl) (by kernel_rfl) (by kernel_rfl) (by rfl) (fun _ _ _ h => h) ?_ hHeld ?_
    rotate_left 1
    (intro o ho W hSw; simp only [List.getElem?_toArray, List.getElem?_cons_succ, List.getElem?_cons_zero, Option.some.injEq] at ho; subst ho; (try dsimp only at hSw); go_simp; try with_reducible rfl)
    (try simp only [Act.put, List.setIfInBounds_toArray, List.set_cons_zero, List.set_cons_succ])
    refine wpAnyH_takeD 9 46 (v := ?_) (by kernel_rfl) (by kernel_rfl) (by kernel_rfl) (by kernel_rfl) (by rfl) (fun _ _ _ h => h) ?_ hHeld ?_
    rotate_left 1
    (intro o ho W hSw; simp only [List.getElem?_toArray, List.getElem?_cons_succ, List.getElem?_cons_zero, Option.some.injEq] at ho; subst ho; (try dsimp only at hSw); go_simp; try with_reducible rfl)
    (try simp only [Act.put, List.setIfInBounds_toArray, List.set_cons_zero, List.set_cons_succ])
    refine wpAnyH_takeD 10 47 (v := ?_) (by kernel_rfl) (by kernel_rfl) (by kernel_rfl) (by kernel_rfl) (by rfl) (fun _ _ _ h => h) ?_ hHeld ?_
    rotate_left 1
    (intro o ho W hSw; simp only [List.getElem?_toArray, List.getElem?_cons_succ, List.getElem?_cons_zero, Option.some.injEq] at ho; subst ho; (try dsimp only at hSw); go_simp; try with_reducible rfl)
    (try simp only [Act.put, List.setIfInBounds_toArray, List.set_cons_zero, List.set_cons_succ])
    refine wpAnyH_takeD 11 48 (v := ?_) (by kernel_rfl) (by kernel_rfl) (by kernel_rfl) (by kernel_rfl) (by rfl) (fun _ _ _ h => h) ?_ hHeld ?_
    rotate_left 1
    (intro o ho W hSw; simp only [List.getElem?_toArray, List.getElem?_cons_succ, List.getElem?_cons_zero, Option.some.injEq] at ho; subst ho; (try dsimp only at hSw); go_simp; try with_reducible rfl)
    (try simp only [Act.put, List.setIfInBounds_toArray, List.set_cons_zero, List.set_cons_succ])
    refine wpAnyH_takeD 13 50 (v := ?_) (by kernel_rfl) (by kernel_rfl) (by kernel_rfl) (by kernel_rfl) (by rfl) (fun _ _ _ h => h) ?_ hHeld ?_
    rotate_left 1
    (intro o ho W hSw; simp only [List.getElem?_toArray, List.getElem?_cons_succ, List.getElem?_cons_zero, Option.some.injEq] at ho; subst ho; (try dsimp only at hSw); go_simp; try with_reducible rfl)
    (try simp only [Act.put, List.setIfInBounds_toArray, List.set_cons_zero, List.set_cons_succ])
    refine wpAnyH_takeD 14 51 (v := ?_) (by kernel_rfl) (by kernel_rfl) (by kernel_rfl) (by kernel_rfl) (by rfl) (fun _ _ _ h => h) ?_ hHeld ?_
    rotate_left 1
    (intro o ho W hSw; simp only [List.getElem?_toArray, List.getElem?_cons_succ, List.getElem?_cons_zero, Option.some.injEq] at ho; subst ho; (try dsimp only at hSw); go_simp; try with_reducible rfl)
    (try simp only [Act.put, List.setIfInBounds_toArray, List.set_cons_zero, List.set_cons_succ])
    refine wpAnyH_onlyD 12 (by kernel_rfl) (fun o ho K hK => ?_) (by kernel_rfl)
    simp only [List.getElem?_toArray, List.getElem?_cons_succ, List.getElem?_cons_zero, Option.some.injEq] at ho
    subst ho
    go_simp
    refine (X3.out _ _ T2.out.a).mono ?_
    rintro e w3 ⟨rfl, h⟩
    have T3 := Lib.hid (T2.out.fst h)
    have A3 := Lib.hid (A2.out.fx h (by omega))
    (try have B3 := Lib.hid (B2.out.fx h (by omega)))
    (try have U3 := Lib.hid (U2.out.fx h (by omega)))
    (try have V3 := Lib.hid (V2.out.fx h (by omega)))
    go_wp2_with fail
    refine hK.out _ _ (⟨A3.out.held, B3.out.held⟩) (fun hHeld => ?_)
    clear hK K
    clear h T2 A2
    (try clear B2)
    (try clear U2)
    (try clear V2)
    refine wpAnyH_onlyD 15 (by kernel_rfl) (fun o ho K hK => ?_) (by kernel_rfl)
    simp only [List.getElem?_toArray, List.getElem?_cons_succ, List.getElem?_cons_zero, Option.some.injEq] at ho
    subst ho
    go_simp
    refine (Y3.out _ _ T3.out.b).mono ?_
    rintro e w4 ⟨rfl, h⟩
    have T4 := Lib.hid (T3.out.snd h)
    have A4 := Lib.hid (A3.out.fx h (by omega))
    (try have B4 := Lib.hid (B3.out.fx h (by omega)))
    (try have U4 := Lib.hid (U3.out.fx h (by omega)))
    (try have V4 := Lib.hid (V3.out.fx h (by omega)))
    go_wp2_with fail
    refine hK.out _ _ (⟨A4.out.held, B4.out.held⟩) (fun hHeld => ?_)
    clear hK K
    clear h T3 A3
    (try clear B3)
    (try clear U3)
    (try clear V3)
    refine wpAnyH_grow (fun W => ((W.cell? ⟨w.heap.size, 0, none⟩ = some (.int .i64 (a1)) ∧ W.cell? ⟨w.heap.size, 1, none⟩ = some (.int .i64 (a2)) ∧ W.cell? ⟨w.heap.size, 2, none⟩ = some (.int .i64 (a3))) ∧ (W.cell? ⟨w.heap.size + 1, 0, none⟩ = some (.int .i64 (b1)) ∧ W.cell? ⟨w.heap.size + 1, 1, none⟩ = some (.int .i64 (b2)) ∧ W.cell? ⟨w.heap.size + 1, 2, none⟩ = some (.int .i64 (b3)))) ∧ W.cell? ⟨n1, 0, none⟩ = some (.bool r) ∧ W.cell? ⟨n1 + 1, 0, none⟩ = some (.bool r)) (fun _ h => h.1) ⟨hHeld, T4.out.a.c, T4.out.b.c⟩ (fun hHeld => ?_)
    refine wpAnyH_takeD 16 53 (v := ?_) (by kernel_rfl) (by kernel_rfl) (by kernel_rfl) (by kernel_rfl) (by rfl) (fun _ _ _ h => h) ?_ hHeld ?_
    rotate_left 1
    (intro o ho W hSw; simp only [List.getElem?_toArray, List.getElem?_cons_succ, List.getElem?_cons_zero, Option.some.injEq] at ho; subst ho; (try dsimp only at hSw); go_simp; try with_reducible rfl)
    (try simp only [Act.put, List.setIfInBounds_toArray, List.set_cons_zero, List.set_cons_succ])
    refine wpAnyH_takeD 17 54 (v := ?_) (by kernel_rfl) (by kernel_rfl) (by kernel_rfl) (by kernel_rfl) (by rfl) (fun _ _ _ h => h) ?_ hHeld ?_
    rotate_left 1
    (intro o ho W hSw; simp only [List.getElem?_toArray, List.getElem?_cons_succ, List.getElem?_cons_zero, Option.some.injEq] at ho; subst ho; (try dsimp only at hSw); go_simp; try with_reducible rfl)
    (try simp only [Act.put, List.setIfInBounds_toArray, List.set_cons_zero, List.set_cons_succ])
    refine wpAnyH_takeD 18 55 (v := ?_) (by kernel_rfl) (by kernel_rfl) (by kernel_rfl) (by kernel_rfl) (by rfl) (fun _ _ _ h => h) ?_ hHeld ?_
    rotate_left 1
    (intro o ho W hSw; simp only [List.getElem?_toArray, List.getElem?_cons_succ, List.getElem?_cons_zero, Option.some.injEq] at ho; subst ho; (try dsimp only at hSw); go_simp; try with_reducible rfl)
    (try simp only [Act.put, List.setIfInBounds_toArray, List.set_cons_zero, List.set_cons_succ])
    refine wpAnyH_takeD 19 56 (v := ?_) (by kernel_rfl) (by kernel_rfl) (by kernel_rfl) (by kernel_rfl) (by rfl) (fun _ _ _ h => h) ?_ hHeld ?_
    rotate_left 1
    (intro o ho W hSw; simp only [List.getElem?_toArray, List.getElem?_cons_succ, List.getElem?_cons_zero, Option.some.injEq] at ho; subst ho; (try dsimp only at hSw); go_simp; try with_reducible rfl)
    (try simp only [Act.put, List.setIfInBounds_toArray, List.set_cons_zero, List.set_cons_succ])
    refine wpAnyH_takeD 20 57 (v := ?_) (by kernel_rfl) (by kernel_rfl) (by kernel_rfl) (by kernel_rfl) (by rfl) (fun _ _ _ h => h) ?_ hHeld ?_
    rotate_left 1
    (intro o ho W hSw; simp only [List.getElem?_toArray, List.getElem?_cons_succ, List.getElem?_cons_zero, Option.some.injEq] at ho; subst ho; (try dsimp only at hSw); go_simp; try with_reducible rfl)
    (try simp only [Act.put, List.setIfInBounds_toArray, List.set_cons_zero, List.set_cons_succ])
    refine wpAnyH_takeD 21 58 (v := ?_) (by kernel_rfl) (by kernel_rfl) (by kernel_rfl) (by kernel_rfl) (by rfl) (fun _ _ _ h => h) ?_ hHeld ?_
    rotate_left 1
    (intro o ho W hSw; simp only [List.getElem?_toArray, List.getElem?_cons_succ, List.getElem?_cons_zero, Option.some.injEq] at ho; subst ho; (try dsimp only at hSw); go_simp; try with_reducible rfl)
    (try simp only [Act.put, List.setIfInBounds_toArray, List.set_cons_zero, List.set_cons_succ])
    refine wpAnyH_takeD 22 59 (v := ?_) (by kernel_rfl) (by kernel_rfl) (by kernel_rfl) (by kernel_rfl) (by rfl) (fun _ _ _ h => h) ?_ hHeld ?_
    rotate_left 1
    (intro o ho W hSw; simp only [List.getElem?_toArray, List.getElem?_cons_succ, List.getElem?_cons_zero, Option.some.injEq] at ho; subst ho; (try dsimp only at hSw); go_simp; try with_reducible rfl)
    (try simp only [Act.put, List.setIfInBounds_toArray, List.set_cons_zero, List.set_cons_succ])
    refine wpAnyH_takeD 23 60 (v := ?_) (by kernel_rfl) (by kernel_rfl) (by kernel_rfl) (by kernel_rfl) (by rfl) (fun _ _ _ h => h) ?_ hHeld ?_
    rotate_left 1
    (intro o ho W hSw; simp only [List.getElem?_toArray, List.getElem?_cons_succ, List.getElem?_cons_zero, Option.some.injEq] at ho; subst ho; (try dsimp only at hSw); go_simp; try with_reducible rfl)
    (try simp only [Act.put, List.setIfInBounds_toArray, List.set_cons_zero, List.set_cons_succ])
    refine wpAnyH_takeD 24 61 (v := ?_) (by kernel_rfl) (by kernel_rfl) (by kernel_rfl) (by kernel_rfl) (by rfl) (fun _ _ _ h => h) ?_ hHeld ?_
    rotate_left 1
    (intro o ho W hSw; simp only [List.getElem?_toArray, List.getElem?_cons_succ, List.getElem?_cons_zero, Option.some.injEq] at ho; subst ho; (try dsimp only at hSw); go_simp; try with_reducible rfl)
    (try simp only [Act.put, List.setIfInBounds_toArray, List.set_cons_zero, List.set_cons_succ])
    refine wpAnyH_takeD 25 62 (v := ?_) (by kernel_rfl) (by kernel_rfl) (by kernel_rfl) (by kernel_rfl) (by rfl) (fun _ _ _ h => h) ?_ hHeld ?_
    rotate_left 1
    (intro o ho W hSw; simp only [List.getElem?_toArray, List.getElem?_cons_succ, List.getElem?_cons_zero, Option.some.injEq] at ho; subst ho; (try dsimp only at hSw); go_simp; try with_reducible rfl)
    (try simp only [Act.put, List.setIfInBounds_toArray, List.set_cons_zero, List.set_cons_succ])
    refine wpAnyH_takeD 26 63 (v := ?_) (by kernel_rfl) (by kernel_rfl) (by kernel_rfl) (by kernel_rfl) (by rfl) (fun _ _ _ h => h) ?_ hHeld ?_
    rotate_left 1
    (intro o ho W hSw; simp only [List.getElem?_toArray, List.getElem?_cons_succ, List.getElem?_cons_zero, Option.some.injEq] at ho; subst ho; (try dsimp only at hSw); go_simp; try with_reducible rfl)
    (try simp only [Act.put, List.setIfInBounds_toArray, List.set_cons_zero, List.set_cons_succ])
    refine wpAnyH_takeD 27 64 (v := ?_) (by kernel_rfl) (by kernel_rfl) (by kernel_rfl) (by kernel_rfl) (by rfl) (fun _ _ _ h => h) ?_ hHeld ?_
    rotate_left 1
    (intro o ho W hSw; simp only [List.getElem?_toArray, List.getElem?_cons_succ, List.getElem?_cons_zero, Option.some.injEq] at ho; subst ho; (try dsimp only at hSw); go_simp; try with_reducible rfl)
    (try simp only [Act.put, List.setIfInBounds_toArray, List.set_cons_zero, List.set_cons_succ])
    refine wpAnyH_takeD 28 65 (v := ?_) (by kernel_rfl) (by kernel_rfl) (by kernel_rfl) (by kernel_rfl) (by rfl) (fun _ _ _ h => h) ?_ hHeld ?_
    rotate_left 1
    (intro o ho W hSw; simp only [List.getElem?_toArray, List.getElem?_cons_succ, List.getElem?_cons_zero, Option.some.injEq] at ho; subst ho; (try dsimp only at hSw); go_simp; try with_reducible rfl)
    (try simp only [Act.put, List.setIfInBounds_toArray, List.set_cons_zero, List.set_cons_succ])
    refine wpAnyH_takeD 29 66 (v := ?_) (by kernel_rfl) (by kernel_rfl) (by kernel_rfl) (by kernel_rfl) (by rfl) (fun _ _ _ h => h) ?_ hHeld ?_
    rotate_left 1
    (intro o ho W hSw; simp only [List.getElem?_toArray, List.getElem?_cons_succ, List.getElem?_cons_zero, Option.some.injEq] at ho; subst ho; (try dsimp only at hSw); go_simp; try with_reducible rfl)
    (try simp only [Act.put, List.setIfInBounds_toArray, List.set_cons_zero, List.set_cons_succ])
    refine wpAnyH_onlyD 30 (by kernel_rfl) (fun o ho K hK => ?_) (by kernel_rfl)
    simp only [List.getElem?_toArray, List.getElem?_cons_succ, List.getElem?_cons_zero, Option.some.injEq] at ho
    subst ho
    go_simp
    refine (vecAwake_any _).mono ?_
    rintro e w5 ⟨rfl, h⟩
    have T5 := Lib.hid (T4.out.more h)
    have A5 := Lib.hid (A4.out.below h A4.out.lt)
    (try have B5 := Lib.hid (B4.out.below h B4.out.lt))
    (try have U5 := Lib.hid (U4.out.below h U4.out.lt))
    (try have V5 := Lib.hid (V4.out.below h V4.out.lt))
    go_wp2_with fail
    refine hK.out _ _ (⟨⟨A5.out.held, B5.out.held⟩, T5.out.a.c, T5.out.b.c⟩) (fun hHeld => ?_)
    clear hK K
    clear h T4 A4
    (try clear B4)
    (try clear U4)
    (try clear V4)
    refine wpAnyH_takeD 31 68 (v := ?_) (by kernel_rfl) (by kernel_rfl) (by kernel_rfl) (by kernel_rfl) (by rfl) (fun _ _ _ h => h) ?_ hHeld ?_
    rotate_left 1
    (intro o ho W hSw; simp only [List.getElem?_toArray, List.getElem?_cons_succ, List.getElem?_cons_zero, Option.some.injEq] at ho; subst ho; (try dsimp only at hSw); go_simp; try with_reducible rfl)
    (try simp only [Act.put, List.setIfInBounds_toArray, List.set_cons_zero, List.set_cons_succ])
    refine wpAnyH_takeD 32 4 (v := ?_) (by kernel_rfl) (by kernel_rfl) (by kernel_rfl) (by kernel_rfl) (by rfl) (fun _ _ _ h => h) ?_ hHeld ?_
    rotate_left 1
    (intro o ho W hSw; simp only [List.getElem?_toArray, List.getElem?_cons_succ, List.getElem?_cons_zero, Option.some.injEq] at ho; subst ho; (try dsimp only at hSw); go_simp; try with_reducible rfl)
    (try simp only [Act.put, List.setIfInBounds_toArray, List.set_cons_zero, List.set_cons_succ])
    refine wpAnyH_done (by kernel_rfl) ?_ _
    go_wp2
    go_ret
    exact ⟨rfl, T5.out.bl⟩
theorem in3_wf {x y z : Int} (wx : (Lit.int .i64 x).wf = true) (wy : (Lit.int .i64 y).wf = true) (wz : (Lit.int .i64 z).wf = true) : In3 x y z := by
  have A := bounds_i64 wx
  have B := bounds_i64 wy
  have C := bounds_i64 wz
  exact ⟨A.1, A.2, B.1, B.2, C.1, C.2⟩
theorem vsums_law (a1 a2 a3 b1 b2 b3 : Int) (wa1 : (Lit.int .i64 a1).wf = true) (wa2 : (Lit.int .i64 a2).wf = true) (wa3 : (Lit.int .i64 a3).wf = true) (wb1 : (Lit.int .i64 b1).wf = true) (wb2 : (Lit.int .i64 b2).wf = true) (wb3 : (Lit.int .i64 b3).wf = true) (w : World) :
    Calls Try.prog 3 #[.agg #[.int .i64 a1, .int .i64 a2, .int .i64 a3], .agg #[.int .i64 b1, .int .i64 b2, .int .i64 b3]] w fun e w' => e = .returned (.bool true) ∧ Below w.heap.size w w' :=
  vsums_walk a1 a2 a3 b1 b2 b3 w (in3_wf wa1 wa2 wa3) (in3_wf wb1 wb2 wb3)
end Go.Proofs.Ytmjohcgngicpoaa
