/- Contracts of the program's vec: Dot, Along. -/
import Derived.Test.YtldcmiomfahaoaaJf
namespace Go.Proofs.Ytldcmiomfahaoaa
open Go.RowKit
set_option linter.unusedVariables false
set_option linter.unusedSimpArgs false

set_option maxRecDepth 100000 in
set_option maxHeartbeats 4000000 in
theorem VDot_any (a1 a2 a3 b1 b2 b3 : Int) (b k : Nat) (o : Bool) (w : World) (ha : In3 a1 a2 a3) (hb : In3 b1 b2 b3) (m : MAt w b k o) :
    Calls Try.prog 41 #[.pointer (some ⟨b, k, none⟩), .agg #[.int .i64 a1, .int .i64 a2, .int .i64 a3], .agg #[.int .i64 b1, .int .i64 b2, .int .i64 b3]] w fun e w' => e = .returned (.int .i64 (dotF a1 a2 a3 b1 b2 b3)) ∧ FxW w.heap.size w b k (o || mulO a1 b1 || mulO a2 b2 || addO (mulF a1 b1) (mulF a2 b2) || mulO a3 b3 || addO (addF (mulF a1 b1) (mulF a2 b2)) (mulF a3 b3)) w' := by
  have X := Lib.hid (fun (n : Nat) (W : World) (P : PB W n b k) (m : MAt W b k o) => pwDot_any a1 a2 a3 b1 b2 b3 n b k o W ha hb P m)
  have HM := Lib.hid m
  have I1 := mulF_in a1 b1
  have I2 := mulF_in a2 b2
  have I3 := mulF_in a3 b3
  unfold dotF
  generalize mulF a1 b1 = p1 at *
  generalize mulF a2 b2 = p2 at *
  generalize mulF a3 b3 = p3 at *
  have J1 := Lib.hid I1
  have J2 := Lib.hid I2
  have J3 := Lib.hid I3
  clear I1 I2 I3 ha hb m
  have hmf : ∀ (fn : Fn) (first cap : Array Value) (w : World), (Instr.makeFunc fn first cap).run Try.prog w = .ok (.func fn first cap) w := fun _ _ _ _ => rfl
  go_enter Try.func41, Try.ntmps41
  go_wp2_with fail
  refine calls_gen (S := fun W => PB W w.heap.size b k ∧ Below w.heap.size w W) ⟨((PB.new w b k _ HM.out.lt).alloc _).alloc _, by repeat (first | exact Below.refl _ _ | assumption | refine Below.setCell ?_ (by first | omega | (simp; done) | (simp; omega)) _ | refine Below.alloc ?_ (by first | omega | (simp; done) | (simp; omega)) _ | refine below_drewN ?_ _ | refine Below.drew ?_ | refine Below.trans ?_ (Below.mono (by assumption) (by first | omega | (simp; done) | (simp; omega))))⟩ (fun W0 hS => ?_)
  have P0 := Lib.hid hS.1
  have G0 := Lib.hid (Flag.start HM.out hS.2)
  clear hS HM
  refine (X.out _ _ P0.out G0.out.m).mono ?_
  rintro e w1 ⟨rfl, h⟩
  have G5 := Lib.hid (G0.out.fx h)
  have P5 := Lib.hid (P0.out.fx h)
  clear h G0 P0 X
  have pc := P5.out.c
  go_wp2_with fail
  have A0 := Lib.hid (VW.new w1 w1.heap.size p1 p2 p3 38 rfl).drew
  have G0 := Lib.hid (G5.out.more (((Below.refl w1.heap.size w1).alloc (Nat.le_refl _) (.cells #[.int .i64 p1, .int .i64 p2, .int .i64 p3] 38)).drew))
  have P0 := Lib.hid (P5.out.alloc (.cells #[.int .i64 p1, .int .i64 p2, .int .i64 p3] 38)).drew
  have hz : w.heap.size ≤ w1.heap.size := G5.out.f.size
  clear G5 P5 pc
  generalize w1.alloc (.cells #[.int .i64 p1, .int .i64 p2, .int .i64 p3] 38) = W2 at *
  generalize w1.heap.size = n1 at *
  refine wp_region_held_drew (S := fun W => W.cell? ⟨w.heap.size, 0, none⟩ = some (.pointer (some ⟨b, k, none⟩)) ∧ (W.cell? ⟨n1, 0, none⟩ = some (.int .i64 (p1)) ∧ W.cell? ⟨n1, 1, none⟩ = some (.int .i64 (p2)) ∧ W.cell? ⟨n1, 2, none⟩ = some (.int .i64 (p3)))) (by kernel_rfl) ⟨P0.out.held, A0.out.held⟩ (fun hHeld => ?_)
  refine wpAnyH_takeD 0 12 (v := ?_) (by kernel_rfl) (by kernel_rfl) (by kernel_rfl) (by kernel_rfl) (by rfl) (fun _ _ _ h => h) ?_ hHeld ?_
  rotate_left 1
  (intro o ho W hSw; simp only [List.getElem?_toArray, List.getElem?_cons_succ, List.getElem?_cons_zero, Option.some.injEq] at ho; subst ho; (try dsimp only at hSw); go_simp; try with_reducible rfl)
  (try simp only [Act.put, List.setIfInBounds_toArray, List.set_cons_zero, List.set_cons_succ])
  refine wpAnyH_takeD 1 13 (v := ?_) (by kernel_rfl) (by kernel_rfl) (by kernel_rfl) (by kernel_rfl) (by rfl) (fun _ _ _ h => h) ?_ hHeld ?_
  rotate_left 1
  (intro o ho W hSw; simp only [List.getElem?_toArray, List.getElem?_cons_succ, List.getElem?_cons_zero, Option.some.injEq] at ho; subst ho; (try dsimp only at hSw); go_simp; try with_reducible rfl)
  (try simp only [Act.put, List.setIfInBounds_toArray, List.set_cons_zero, List.set_cons_succ])
  refine wpAnyH_takeD 2 14 (v := ?_) (by kernel_rfl) (by kernel_rfl) (by kernel_rfl) (by kernel_rfl) (by rfl) (fun _ _ _ h => h) ?_ hHeld ?_
  rotate_left 1
  (intro o ho W hSw; simp only [List.getElem?_toArray, List.getElem?_cons_succ, List.getElem?_cons_zero, Option.some.injEq] at ho; subst ho; (try dsimp only at hSw); go_simp; try with_reducible rfl)
  (try simp only [Act.put, List.setIfInBounds_toArray, List.set_cons_zero, List.set_cons_succ])
  refine wpAnyH_takeD 3 15 (v := ?_) (by kernel_rfl) (by kernel_rfl) (by kernel_rfl) (by kernel_rfl) (by rfl) (fun _ _ _ h => h) ?_ hHeld ?_
  rotate_left 1
  (intro o ho W hSw; simp only [List.getElem?_toArray, List.getElem?_cons_succ, List.getElem?_cons_zero, Option.some.injEq] at ho; subst ho; (try dsimp only at hSw); go_simp; try with_reducible rfl)
  (try simp only [Act.put, List.setIfInBounds_toArray, List.set_cons_zero, List.set_cons_succ])
  refine wpAnyH_takeD 4 16 (v := ?_) (by kernel_rfl) (by kernel_rfl) (by kernel_rfl) (by kernel_rfl) (by rfl) (fun _ _ _ h => h) ?_ hHeld ?_
  rotate_left 1
  (intro o ho W hSw; simp only [List.getElem?_toArray, List.getElem?_cons_succ, List.getElem?_cons_zero, Option.some.injEq] at ho; subst ho; (try dsimp only at hSw); go_simp; try with_reducible rfl)
  (try simp only [Act.put, List.setIfInBounds_toArray, List.set_cons_zero, List.set_cons_succ])
  refine wpAnyH_takeD 5 17 (v := ?_) (by kernel_rfl) (by kernel_rfl) (by kernel_rfl) (by kernel_rfl) (by rfl) (fun _ _ _ h => h) ?_ hHeld ?_
  rotate_left 1
  (intro o ho W hSw; simp only [List.getElem?_toArray, List.getElem?_cons_succ, List.getElem?_cons_zero, Option.some.injEq] at ho; subst ho; (try dsimp only at hSw); go_simp; try with_reducible rfl)
  (try simp only [Act.put, List.setIfInBounds_toArray, List.set_cons_zero, List.set_cons_succ])
  refine wpAnyH_takeD 7 19 (v := ?_) (by kernel_rfl) (by kernel_rfl) (by kernel_rfl) (by kernel_rfl) (by rfl) (fun _ _ _ h => h) ?_ hHeld ?_
  rotate_left 1
  (intro o ho W hSw; simp only [List.getElem?_toArray, List.getElem?_cons_succ, List.getElem?_cons_zero, Option.some.injEq] at ho; subst ho; (try dsimp only at hSw); go_simp; try with_reducible rfl)
  (try simp only [Act.put, List.setIfInBounds_toArray, List.set_cons_zero, List.set_cons_succ])
  refine wpAnyH_takeD 8 20 (v := ?_) (by kernel_rfl) (by kernel_rfl) (by kernel_rfl) (by kernel_rfl) (by rfl) (fun _ _ _ h => h) ?_ hHeld ?_
  rotate_left 1
  (intro o ho W hSw; simp only [List.getElem?_toArray, List.getElem?_cons_succ, List.getElem?_cons_zero, Option.some.injEq] at ho; subst ho; (try dsimp only at hSw); go_simp; try with_reducible rfl)
  (try simp only [Act.put, List.setIfInBounds_toArray, List.set_cons_zero, List.set_cons_succ])
  refine wpAnyH_onlyD 6 (by kernel_rfl) (fun o ho K hK => ?_) (by kernel_rfl)
  simp only [List.getElem?_toArray, List.getElem?_cons_succ, List.getElem?_cons_zero, Option.some.injEq] at ho
  subst ho
  go_simp
  refine (fxAdd_any p1 p2 b k _ _ J1.out.1 J1.out.2 J2.out.1 J2.out.2 G0.out.m).mono ?_
  rintro e w1 ⟨rfl, h⟩
  have G1 := Lib.hid (G0.out.fx h)
  have A1 := Lib.hid (A0.out.fx h (by have := G0.out.lt; omega))
  (try have B1 := Lib.hid (B0.out.fx h (by have := G0.out.lt; omega)))
  (try have R1 := Lib.hid (R0.out.fx h (by have := G0.out.lt; omega)))
  (try have P1 := Lib.hid (P0.out.fx h))
  (try have I1 := Lib.hid (I0.out.fx h hbi))
  go_wp2_with fail
  refine hK.out _ _ (⟨P1.out.held, A1.out.held⟩) ?_
  clear hK K hHeld
  intro hHeld
  clear h G0 A0
  (try clear B0)
  (try clear R0)
  (try clear P0)
  (try clear I0)
  refine wpAnyH_onlyD 9 (by kernel_rfl) (fun o ho K hK => ?_) (by kernel_rfl)
  simp only [List.getElem?_toArray, List.getElem?_cons_succ, List.getElem?_cons_zero, Option.some.injEq] at ho
  subst ho
  go_simp
  refine (fxAdd_any (addF p1 p2) p3 b k _ _ (addF_in _ _).1 (addF_in _ _).2 J3.out.1 J3.out.2 G1.out.m).mono ?_
  rintro e w2 ⟨rfl, h⟩
  have G2 := Lib.hid (G1.out.fx h)
  have A2 := Lib.hid (A1.out.fx h (by have := G1.out.lt; omega))
  (try have B2 := Lib.hid (B1.out.fx h (by have := G1.out.lt; omega)))
  (try have R2 := Lib.hid (R1.out.fx h (by have := G1.out.lt; omega)))
  (try have P2 := Lib.hid (P1.out.fx h))
  (try have I2 := Lib.hid (I1.out.fx h hbi))
  go_wp2_with fail
  refine hK.out _ _ (⟨P2.out.held, A2.out.held⟩) ?_
  clear hK K hHeld
  intro hHeld
  clear h G1 A1
  (try clear B1)
  (try clear R1)
  (try clear P1)
  (try clear I1)
  refine wpAnyH_takeD 10 6 (v := ?_) (by kernel_rfl) (by kernel_rfl) (by kernel_rfl) (by kernel_rfl) (by rfl) (fun _ _ _ h => h) ?_ hHeld ?_
  rotate_left 1
  (intro o ho W hSw; simp only [List.getElem?_toArray, List.getElem?_cons_succ, List.getElem?_cons_zero, Option.some.injEq] at ho; subst ho; (try dsimp only at hSw); go_simp; try with_reducible rfl)
  (try simp only [Act.put, List.setIfInBounds_toArray, List.set_cons_zero, List.set_cons_succ])
  refine wpAnyH_done (by kernel_rfl) ?_ _
  go_wp2
  go_ret
  have E : (o || mulO a1 b1 || mulO a2 b2 || mulO a3 b3 || addO p1 p2 || addO (addF p1 p2) p3) = (o || mulO a1 b1 || mulO a2 b2 || addO p1 p2 || mulO a3 b3 || addO (addF p1 p2) p3) := by ac_rfl
  exact ⟨rfl, by rw [← E]; exact G2.out.f⟩
end Go.Proofs.Ytldcmiomfahaoaa
