/- Contracts of the document's vec: Neg, Along, Len, Unit, Clamp. -/
import Derived.Test.YtmjohcgngicpoaaJa
import Derived.Test.YtmjohcgngicpoaaBr
namespace Go.Proofs.Ytmjohcgngicpoaa
open Go.RowKit
set_option linter.unusedVariables false
set_option linter.unusedSimpArgs false

theorem in3_zero : In3 0 0 0 := ⟨by omega, by omega, by omega, by omega, by omega, by omega⟩
theorem in3_sub (a1 a2 a3 b1 b2 b3 : Int) : In3 (subF a1 b1) (subF a2 b2) (subF a3 b3) :=
  ⟨(subF_in _ _).1, (subF_in _ _).2, (subF_in _ _).1, (subF_in _ _).2, (subF_in _ _).1, (subF_in _ _).2⟩
theorem in3_mul (a1 a2 a3 b1 b2 b3 : Int) : In3 (mulF a1 b1) (mulF a2 b2) (mulF a3 b3) :=
  ⟨(mulF_in _ _).1, (mulF_in _ _).2, (mulF_in _ _).1, (mulF_in _ _).2, (mulF_in _ _).1, (mulF_in _ _).2⟩
theorem dotF_in (a1 a2 a3 b1 b2 b3 : Int) : In64 (dotF a1 a2 a3 b1 b2 b3) := addF_in _ _
set_option maxHeartbeats 2000000 in
theorem rVNeg_any (a1 a2 a3 : Int) (b k : Nat) (o : Bool) (w : World) (ha : In3 a1 a2 a3) (m : MAt w b k o) :
    Calls Try.prog 13 #[.pointer (some ⟨b, k, none⟩), .agg #[.int .i64 a1, .int .i64 a2, .int .i64 a3]] w fun e w' => e = .returned (.agg #[.int .i64 (subF 0 a1), .int .i64 (subF 0 a2), .int .i64 (subF 0 a3)]) ∧ FxW w.heap.size w b k (o || subO 0 a1 || subO 0 a2 || subO 0 a3) w' := by
  have HA := Lib.hid ha
  clear ha
  go_enter Try.func13, Try.ntmps13
  go_wp2_with fail
  have A0 := Lib.hid ((VW.new w w.heap.size a1 a2 a3 24 rfl).alloc (.cells #[.int .i64 0, .int .i64 0, .int .i64 0] 24))
  have R0 := Lib.hid (VW.new (w.alloc (.cells #[.int .i64 a1, .int .i64 a2, .int .i64 a3] 24)) (w.heap.size + 1) 0 0 0 24 (by simp))
  have L0 : Below w.heap.size w ((w.alloc (.cells #[.int .i64 a1, .int .i64 a2, .int .i64 a3] 24)).alloc (.cells #[.int .i64 0, .int .i64 0, .int .i64 0] 24)) := by repeat (first | exact Below.refl _ _ | assumption | refine Below.setCell ?_ (by first | omega | (simp; done) | (simp; omega)) _ | refine Below.alloc ?_ (by first | omega | (simp; done) | (simp; omega)) _ | refine below_drewN ?_ _ | refine Below.drew ?_ | refine Below.trans ?_ (Below.mono (by assumption) (by first | omega | (simp; done) | (simp; omega))))
  have G0 := Lib.hid (Flag.start m L0)
  generalize (w.alloc (.cells #[.int .i64 a1, .int .i64 a2, .int .i64 a3] 24)).alloc (.cells #[.int .i64 0, .int .i64 0, .int .i64 0] 24) = W0 at *
  clear L0 m
  refine (rVSub_any 0 0 0 a1 a2 a3 b k o _ in3_zero HA.out G0.out.m).mono ?_
  rintro e w1 ⟨rfl, h⟩
  have G1 := Lib.hid (G0.out.fx h)
  have R1 := Lib.hid (R0.out.fx h (by have := G0.out.lt; omega))
  clear h G0 R0 A0
  have r0 := R1.out.c0
  have r1 := R1.out.c1
  have r2 := R1.out.c2
  have rf := R1.out.f
  go_wp2
  exact bodyPost_ret (v := .agg #[.int .i64 (subF 0 a1), .int .i64 (subF 0 a2), .int .i64 (subF 0 a3)]) (by simp [results, Try.results13, go_sem, r0, r1, r2]) rfl ⟨rfl, G1.out.put3 (by omega) _ _ _⟩
theorem rVLen_any (a1 a2 a3 : Int) (b k : Nat) (o : Bool) (w : World) (ha : In3 a1 a2 a3) (m : MAt w b k o) :
    Calls Try.prog 29 #[.pointer (some ⟨b, k, none⟩), .agg #[.int .i64 a1, .int .i64 a2, .int .i64 a3]] w fun e w' => e = .returned (.int .i64 (lenF (a1 * a1 + a2 * a2 + a3 * a3))) ∧ FxW w.heap.size w b k (o || lenO (a1 * a1 + a2 * a2 + a3 * a3)) w' := by
  have HA := Lib.hid ha
  clear ha
  go_enter Try.func29, Try.ntmps29
  go_wp2_with fail
  refine (rLen3_any a1 a2 a3 b k o _ HA.out.x0 HA.out.x1 HA.out.y0 HA.out.y1 HA.out.z0 HA.out.z1 (m.alloc _)).mono ?_
  rintro e w1 ⟨rfl, h⟩
  go_wp2
  go_ret
  exact ⟨rfl, FxW.behind ((Below.refl _ _).alloc (Nat.le_refl _) _) h (by simp)⟩
/-- a direction and whether there is one, by the length n -/
theorem un3_agg (x y z n : Int) : (if n = 0 then Value.tuple #[.int .i64 0, .int .i64 0, .int .i64 0, .bool false] else .tuple #[.int .i64 (divF x n), .int .i64 (divF y n), .int .i64 (divF z n), .bool true]) = .tuple #[.int .i64 (if n = 0 then 0 else divF x n), .int .i64 (if n = 0 then 0 else divF y n), .int .i64 (if n = 0 then 0 else divF z n), .bool (!decide (n = 0))] := by
  by_cases c : n = 0
  · simp [c]
  · simp [c]
set_option maxHeartbeats 2000000 in
theorem rVUnit_any (a1 a2 a3 n : Int) (b k : Nat) (o : Bool) (w : World) (ha : In3 a1 a2 a3) (hn : lenF (a1 * a1 + a2 * a2 + a3 * a3) = n) (m : MAt w b k o) :
    Calls Try.prog 27 #[.pointer (some ⟨b, k, none⟩), .agg #[.int .i64 a1, .int .i64 a2, .int .i64 a3]] w fun e w' => e = .returned (.tuple #[.agg #[.int .i64 (if n = 0 then 0 else divF a1 n), .int .i64 (if n = 0 then 0 else divF a2 n), .int .i64 (if n = 0 then 0 else divF a3 n)], .bool (!decide (n = 0))]) ∧ FxW w.heap.size w b k (if n = 0 then o || lenO (a1 * a1 + a2 * a2 + a3 * a3) else o || lenO (a1 * a1 + a2 * a2 + a3 * a3) || divO a1 n || divO a2 n || divO a3 n) w' := by
  have U := Lib.hid (fun (W : World) (m : MAt W b k o) => rUnit3_any a1 a2 a3 n b k o W hn ha.x0 ha.x1 ha.y0 ha.y1 ha.z0 ha.z1 m)
  rw [un3_agg] at U
  obtain ⟨p, hp⟩ : ∃ p, (if n = 0 then 0 else divF a1 n) = p := ⟨_, rfl⟩
  obtain ⟨q, hq⟩ : ∃ p, (if n = 0 then 0 else divF a2 n) = p := ⟨_, rfl⟩
  obtain ⟨r, hr⟩ : ∃ p, (if n = 0 then 0 else divF a3 n) = p := ⟨_, rfl⟩
  obtain ⟨s, hs⟩ : ∃ p, (!decide (n = 0)) = p := ⟨_, rfl⟩
  obtain ⟨g, hg⟩ : ∃ g, (if n = 0 then o || lenO (a1 * a1 + a2 * a2 + a3 * a3) else o || lenO (a1 * a1 + a2 * a2 + a3 * a3) || divO a1 n || divO a2 n || divO a3 n) = g := ⟨_, rfl⟩
  rw [hp, hq, hr, hs, hg] at U ⊢
  clear hp hq hr hs hg hn ha
  go_enter Try.func27, Try.ntmps27
  go_wp2_with fail
  have A0 := Lib.hid ((VW.new w w.heap.size a1 a2 a3 24 rfl).alloc (.cells #[.int .i64 0, .int .i64 0, .int .i64 0] 24))
  have R0 := Lib.hid (VW.new (w.alloc (.cells #[.int .i64 a1, .int .i64 a2, .int .i64 a3] 24)) (w.heap.size + 1) 0 0 0 24 (by simp))
  have L0 : Below w.heap.size w ((w.alloc (.cells #[.int .i64 a1, .int .i64 a2, .int .i64 a3] 24)).alloc (.cells #[.int .i64 0, .int .i64 0, .int .i64 0] 24)) := by repeat (first | exact Below.refl _ _ | assumption | refine Below.setCell ?_ (by first | omega | (simp; done) | (simp; omega)) _ | refine Below.alloc ?_ (by first | omega | (simp; done) | (simp; omega)) _ | refine below_drewN ?_ _ | refine Below.drew ?_ | refine Below.trans ?_ (Below.mono (by assumption) (by first | omega | (simp; done) | (simp; omega))))
  have G0 := Lib.hid (Flag.start m L0)
  generalize (w.alloc (.cells #[.int .i64 a1, .int .i64 a2, .int .i64 a3] 24)).alloc (.cells #[.int .i64 0, .int .i64 0, .int .i64 0] 24) = W0 at *
  clear L0 m
  refine (U.out _ G0.out.m).mono ?_
  rintro e w1 ⟨rfl, h⟩
  have G1 := Lib.hid (G0.out.fx h)
  have R1 := Lib.hid (R0.out.fx h (by have := G0.out.lt; omega))
  clear h G0 R0 A0 U
  have r0 := R1.out.c0
  have r1 := R1.out.c1
  have r2 := R1.out.c2
  have rf := R1.out.f
  go_wp2
  exact bodyPost_ret (v := .tuple #[.agg #[.int .i64 p, .int .i64 q, .int .i64 r], .bool s]) (by simp [results, Try.results27, go_sem, r0, r1, r2]) rfl ⟨rfl, G1.out.put3 (by omega) _ _ _⟩
set_option maxRecDepth 100000 in
set_option maxHeartbeats 4000000 in
theorem rVAlong_any (a1 a2 a3 b1 b2 b3 D : Int) (b k : Nat) (o : Bool) (w : World) (hD : dotF a1 a2 a3 b1 b2 b3 = D) (ha : In3 a1 a2 a3) (hb : In3 b1 b2 b3) (m : MAt w b k o) :
    Calls Try.prog 31 #[.pointer (some ⟨b, k, none⟩), .agg #[.int .i64 a1, .int .i64 a2, .int .i64 a3], .agg #[.int .i64 b1, .int .i64 b2, .int .i64 b3]] w fun e w' => e = .returned (.agg #[.int .i64 (subF a1 (mulF b1 D)), .int .i64 (subF a2 (mulF b2 D)), .int .i64 (subF a3 (mulF b3 D))]) ∧ FxW w.heap.size w b k (o || mulO a1 b1 || mulO a2 b2 || addO (mulF a1 b1) (mulF a2 b2) || mulO a3 b3 || addO (addF (mulF a1 b1) (mulF a2 b2)) (mulF a3 b3) || mulO b1 D || mulO b2 D || mulO b3 D || subO a1 (mulF b1 D) || subO a2 (mulF b2 D) || subO a3 (mulF b3 D)) w' := by
  have HA := Lib.hid ha
  have HB := Lib.hid hb
  have HD := Lib.hid (show -9223372036854775808 ≤ D ∧ D ≤ 9223372036854775807 by rw [← hD]; exact dotF_in _ _ _ _ _ _)
  have X := Lib.hid (fun (b k : Nat) (o : Bool) (W : World) (m : MAt W b k o) => rVDot_any a1 a2 a3 b1 b2 b3 b k o W ha hb m)
  rw [hD] at X
  clear ha hb hD
  go_enter Try.func31, Try.ntmps31
  go_wp2_with fail
  have A0 := Lib.hid ((VW.new w w.heap.size a1 a2 a3 24 rfl).alloc (.cells #[.int .i64 b1, .int .i64 b2, .int .i64 b3] 24))
  have B0 := Lib.hid (VW.new (w.alloc (.cells #[.int .i64 a1, .int .i64 a2, .int .i64 a3] 24)) (w.heap.size + 1) b1 b2 b3 24 (by simp))
  have L0 : Below w.heap.size w ((w.alloc (.cells #[.int .i64 a1, .int .i64 a2, .int .i64 a3] 24)).alloc (.cells #[.int .i64 b1, .int .i64 b2, .int .i64 b3] 24)) := by repeat (first | exact Below.refl _ _ | assumption | refine Below.setCell ?_ (by first | omega | (simp; done) | (simp; omega)) _ | refine Below.alloc ?_ (by first | omega | (simp; done) | (simp; omega)) _ | refine below_drewN ?_ _ | refine Below.drew ?_ | refine Below.trans ?_ (Below.mono (by assumption) (by first | omega | (simp; done) | (simp; omega))))
  have A0 := Lib.hid (A0.out.alloc (.cells #[.int .i64 0, .int .i64 0, .int .i64 0] 24))
  have B0 := Lib.hid (B0.out.alloc (.cells #[.int .i64 0, .int .i64 0, .int .i64 0] 24))
  have R0 := Lib.hid (VW.new ((w.alloc (.cells #[.int .i64 a1, .int .i64 a2, .int .i64 a3] 24)).alloc (.cells #[.int .i64 b1, .int .i64 b2, .int .i64 b3] 24)) (w.heap.size + 1 + 1) 0 0 0 24 (by simp))
  have L0 := L0.alloc (by simp; omega) (.cells #[.int .i64 0, .int .i64 0, .int .i64 0] 24)
  generalize ((w.alloc (.cells #[.int .i64 a1, .int .i64 a2, .int .i64 a3] 24)).alloc (.cells #[.int .i64 b1, .int .i64 b2, .int .i64 b3] 24)).alloc (.cells #[.int .i64 0, .int .i64 0, .int .i64 0] 24) = W0 at *
  have G0 := Lib.hid ((Flag.start m L0).more ((Below.refl _ _).drew))
  have A0 := Lib.hid A0.out.drew
  have B0 := Lib.hid B0.out.drew
  (try have R0 := Lib.hid R0.out.drew)
  clear L0 m
  refine wp_region_held_drew (S := fun W => (W.cell? ⟨w.heap.size, 0, none⟩ = some (.int .i64 (a1)) ∧ W.cell? ⟨w.heap.size, 1, none⟩ = some (.int .i64 (a2)) ∧ W.cell? ⟨w.heap.size, 2, none⟩ = some (.int .i64 (a3))) ∧ (W.cell? ⟨w.heap.size + 1, 0, none⟩ = some (.int .i64 (b1)) ∧ W.cell? ⟨w.heap.size + 1, 1, none⟩ = some (.int .i64 (b2)) ∧ W.cell? ⟨w.heap.size + 1, 2, none⟩ = some (.int .i64 (b3)))) (by kernel_rfl) ⟨A0.out.held, B0.out.held⟩ (fun hHeld => ?_)
  refine wpAnyH_takeD 0 7 (v := ?_) (by kernel_rfl) (by kernel_rfl) (by kernel_rfl) (by kernel_rfl) (by rfl) (fun _ _ _ h => h) ?_ hHeld ?_
  rotate_left 1
  (intro o ho W hSw; simp only [List.getElem?_toArray, List.getElem?_cons_succ, List.getElem?_cons_zero, Option.some.injEq] at ho; subst ho; (try dsimp only at hSw); go_simp; try with_reducible rfl)
  (try simp only [Act.put, List.setIfInBounds_toArray, List.set_cons_zero, List.set_cons_succ])
  refine wpAnyH_takeD 1 8 (v := ?_) (by kernel_rfl) (by kernel_rfl) (by kernel_rfl) (by kernel_rfl) (by rfl) (fun _ _ _ h => h) ?_ hHeld ?_
  rotate_left 1
  (intro o ho W hSw; simp only [List.getElem?_toArray, List.getElem?_cons_succ, List.getElem?_cons_zero, Option.some.injEq] at ho; subst ho; (try dsimp only at hSw); go_simp; try with_reducible rfl)
  (try simp only [Act.put, List.setIfInBounds_toArray, List.set_cons_zero, List.set_cons_succ])
  refine wpAnyH_takeD 2 9 (v := ?_) (by kernel_rfl) (by kernel_rfl) (by kernel_rfl) (by kernel_rfl) (by rfl) (fun _ _ _ h => h) ?_ hHeld ?_
  rotate_left 1
  (intro o ho W hSw; simp only [List.getElem?_toArray, List.getElem?_cons_succ, List.getElem?_cons_zero, Option.some.injEq] at ho; subst ho; (try dsimp only at hSw); go_simp; try with_reducible rfl)
  (try simp only [Act.put, List.setIfInBounds_toArray, List.set_cons_zero, List.set_cons_succ])
  refine wpAnyH_takeD 3 10 (v := ?_) (by kernel_rfl) (by kernel_rfl) (by kernel_rfl) (by kernel_rfl) (by rfl) (fun _ _ _ h => h) ?_ hHeld ?_
  rotate_left 1
  (intro o ho W hSw; simp only [List.getElem?_toArray, List.getElem?_cons_succ, List.getElem?_cons_zero, Option.some.injEq] at ho; subst ho; (try dsimp only at hSw); go_simp; try with_reducible rfl)
  (try simp only [Act.put, List.setIfInBounds_toArray, List.set_cons_zero, List.set_cons_succ])
  refine wpAnyH_takeD 4 11 (v := ?_) (by kernel_rfl) (by kernel_rfl) (by kernel_rfl) (by kernel_rfl) (by rfl) (fun _ _ _ h => h) ?_ hHeld ?_
  rotate_left 1
  (intro o ho W hSw; simp only [List.getElem?_toArray, List.getElem?_cons_succ, List.getElem?_cons_zero, Option.some.injEq] at ho; subst ho; (try dsimp only at hSw); go_simp; try with_reducible rfl)
  (try simp only [Act.put, List.setIfInBounds_toArray, List.set_cons_zero, List.set_cons_succ])
  refine wpAnyH_takeD 5 12 (v := ?_) (by kernel_rfl) (by kernel_rfl) (by kernel_rfl) (by kernel_rfl) (by rfl) (fun _ _ _ h => h) ?_ hHeld ?_
  rotate_left 1
  (intro o ho W hSw; simp only [List.getElem?_toArray, List.getElem?_cons_succ, List.getElem?_cons_zero, Option.some.injEq] at ho; subst ho; (try dsimp only at hSw); go_simp; try with_reducible rfl)
  (try simp only [Act.put, List.setIfInBounds_toArray, List.set_cons_zero, List.set_cons_succ])
  refine wpAnyH_takeD 6 13 (v := ?_) (by kernel_rfl) (by kernel_rfl) (by kernel_rfl) (by kernel_rfl) (by rfl) (fun _ _ _ h => h) ?_ hHeld ?_
  rotate_left 1
  (intro o ho W hSw; simp only [List.getElem?_toArray, List.getElem?_cons_succ, List.getElem?_cons_zero, Option.some.injEq] at ho; subst ho; (try dsimp only at hSw); go_simp; try with_reducible rfl)
  (try simp only [Act.put, List.setIfInBounds_toArray, List.set_cons_zero, List.set_cons_succ])
  refine wpAnyH_onlyD 7 (by kernel_rfl) (fun o ho K hK => ?_) (by kernel_rfl)
  simp only [List.getElem?_toArray, List.getElem?_cons_succ, List.getElem?_cons_zero, Option.some.injEq] at ho
  subst ho
  go_simp
  refine (X.out b k _ _ G0.out.m).mono ?_
  rintro e w1 ⟨rfl, h⟩
  have G1 := Lib.hid (G0.out.fx h)
  have A1 := Lib.hid (A0.out.fx h (by have := G0.out.lt; omega))
  (try have B1 := Lib.hid (B0.out.fx h (by have := G0.out.lt; omega)))
  (try have R1 := Lib.hid (R0.out.fx h (by have := G0.out.lt; omega)))
  go_wp2_with fail
  refine hK.out _ _ (⟨A1.out.held, B1.out.held⟩) (fun hHeld => ?_)
  clear hK K
  clear h G0 A0
  (try clear B0)
  (try clear R0)
  refine wpAnyH_onlyD 8 (by kernel_rfl) (fun o ho K hK => ?_) (by kernel_rfl)
  simp only [List.getElem?_toArray, List.getElem?_cons_succ, List.getElem?_cons_zero, Option.some.injEq] at ho
  subst ho
  go_simp
  refine (rVScale_any b1 b2 b3 D b k _ _ HB.out HD.out.1 HD.out.2 G1.out.m).mono ?_
  rintro e w2 ⟨rfl, h⟩
  have G2 := Lib.hid (G1.out.fx h)
  have A2 := Lib.hid (A1.out.fx h (by have := G1.out.lt; omega))
  (try have B2 := Lib.hid (B1.out.fx h (by have := G1.out.lt; omega)))
  (try have R2 := Lib.hid (R1.out.fx h (by have := G1.out.lt; omega)))
  go_wp2_with fail
  refine hK.out _ _ (⟨A2.out.held, B2.out.held⟩) (fun hHeld => ?_)
  clear hK K
  clear h G1 A1
  (try clear B1)
  (try clear R1)
  refine wpAnyH_onlyD 9 (by kernel_rfl) (fun o ho K hK => ?_) (by kernel_rfl)
  simp only [List.getElem?_toArray, List.getElem?_cons_succ, List.getElem?_cons_zero, Option.some.injEq] at ho
  subst ho
  go_simp
  refine (rVSub_any a1 a2 a3 (mulF b1 D) (mulF b2 D) (mulF b3 D) b k _ _ HA.out (in3_mul _ _ _ _ _ _) G2.out.m).mono ?_
  rintro e w3 ⟨rfl, h⟩
  have G3 := Lib.hid (G2.out.fx h)
  have A3 := Lib.hid (A2.out.fx h (by have := G2.out.lt; omega))
  (try have B3 := Lib.hid (B2.out.fx h (by have := G2.out.lt; omega)))
  (try have R3 := Lib.hid (R2.out.fx h (by have := G2.out.lt; omega)))
  go_wp2_with fail
  refine hK.out _ _ (⟨A3.out.held, B3.out.held⟩) (fun hHeld => ?_)
  clear hK K
  clear h G2 A2
  (try clear B2)
  (try clear R2)
  have r0 := R3.out.c0
  have r1 := R3.out.c1
  have r2 := R3.out.c2
  have rf := R3.out.f
  refine wpAnyH_onlyD 10 (by kernel_rfl) (fun o ho K hK => ?_) (by kernel_rfl)
  simp only [List.getElem?_toArray, List.getElem?_cons_succ, List.getElem?_cons_zero, Option.some.injEq] at ho
  subst ho
  go_simp
  refine hK.out _ _ (⟨(((A3.out.far (by omega) _ _).far (by omega) _ _).far (by omega) _ _).held, (((B3.out.far (by omega) _ _).far (by omega) _ _).far (by omega) _ _).held⟩) (fun hHeld => ?_)
  clear hK K
  refine wpAnyH_done (by kernel_rfl) ?_ _
  go_wp2
  exact bodyPost_ret (v := .agg #[.int .i64 (subF a1 (mulF b1 D)), .int .i64 (subF a2 (mulF b2 D)), .int .i64 (subF a3 (mulF b3 D))]) (by simp [results, Try.results31, go_sem, r0, r1, r2]) rfl ⟨rfl, G3.out.put3 (by omega) _ _ _⟩
end Go.Proofs.Ytmjohcgngicpoaa
