/- Contracts of the program's vec: Dot, Cross, Len, Unit, Clamp, Flat, Along. -/
import Derived.Test.YtldcmiomfahaoaaJe
import Derived.Test.YtldcmiomfahaoaaJd
namespace Go.Proofs.Ytldcmiomfahaoaa
open Go.RowKit
set_option linter.unusedVariables false
set_option linter.unusedSimpArgs false

theorem VLen_any (a1 a2 a3 : Int) (b k : Nat) (o : Bool) (w : World) (ha : In3 a1 a2 a3) (m : MAt w b k o) :
    Calls Try.prog 27 #[.pointer (some ⟨b, k, none⟩), .agg #[.int .i64 a1, .int .i64 a2, .int .i64 a3]] w fun e w' => e = .returned (.int .i64 (lenF (a1 * a1 + a2 * a2 + a3 * a3))) ∧ FxW w.heap.size w b k (o || lenO (a1 * a1 + a2 * a2 + a3 * a3)) w' := by
  have HA := Lib.hid ha
  clear ha
  go_enter Try.func27, Try.ntmps27
  go_wp2_with fail
  refine (Len3_any a1 a2 a3 b k o _ HA.out.x0 HA.out.x1 HA.out.y0 HA.out.y1 HA.out.z0 HA.out.z1 (m.alloc _)).mono ?_
  rintro e w1 ⟨rfl, h⟩
  go_wp2
  go_ret
  exact ⟨rfl, FxW.behind ((Below.refl _ _).alloc (Nat.le_refl _) _) h (by simp)⟩
theorem cClamp_any (x s : Int) (j : Nat) (w : World) (s0 : 0 ≤ s) (s1 : s ≤ 9223372036854775807) (I : IB w j s) :
    Calls Try.prog 53 #[.int .i64 x, .pointer (some ⟨j, 0, none⟩)] w fun e w' => e = .returned (.int .i64 (clampF x (-s) s)) ∧ w' = w := by
  have u1 : IntKind.i64.wrap (-s) = -s := IntWalk.i64_in _ (by omega)
  have ic := I.c
  go_enter Try.func53, Try.ntmps53
  go_wp2_with fail
  try rw [u1]
  refine (fxClamp_any x (-s) s _).mono ?_
  rintro e w1 ⟨rfl, rfl⟩
  go_wp2
  go_ret
  exact ⟨rfl, rfl⟩
set_option maxRecDepth 100000 in
set_option maxHeartbeats 4000000 in
theorem eaClamp_any (a1 a2 a3 s : Int) (j : Nat) (w : World) (s0 : 0 ≤ s) (s1 : s ≤ 9223372036854775807) (I : IB w j s) :
    Calls Try.prog 52 #[.agg #[.int .i64 a1, .int .i64 a2, .int .i64 a3], .func (.func 53) #[] #[.pointer (some ⟨j, 0, none⟩)]] w fun e w' => e = .returned (.agg #[.int .i64 (clampF a1 (-s) s), .int .i64 (clampF a2 (-s) s), .int .i64 (clampF a3 (-s) s)]) ∧ Below w.heap.size w w' := by
  have I0 := Lib.hid I
  clear I
  go_enter Try.func52, Try.ntmps52
  go_wp2_with fail
  have A0 := Lib.hid ((VW.new w w.heap.size a1 a2 a3 38 rfl).alloc (.cells #[.int .i64 0, .int .i64 0, .int .i64 0] 38))
  have R0 := Lib.hid (VW.new (w.alloc (.cells #[.int .i64 a1, .int .i64 a2, .int .i64 a3] 38)) (w.heap.size + 1) 0 0 0 38 (by simp))
  have L0 : Below w.heap.size w ((w.alloc (.cells #[.int .i64 a1, .int .i64 a2, .int .i64 a3] 38)).alloc (.cells #[.int .i64 0, .int .i64 0, .int .i64 0] 38)) := by repeat (first | exact Below.refl _ _ | assumption | refine Below.setCell ?_ (by first | omega | (simp; done) | (simp; omega)) _ | refine Below.alloc ?_ (by first | omega | (simp; done) | (simp; omega)) _ | refine below_drewN ?_ _ | refine Below.drew ?_ | refine Below.trans ?_ (Below.mono (by assumption) (by first | omega | (simp; done) | (simp; omega))))
  have LL := Lib.hid L0.drew
  generalize (w.alloc (.cells #[.int .i64 a1, .int .i64 a2, .int .i64 a3] 38)).alloc (.cells #[.int .i64 0, .int .i64 0, .int .i64 0] 38) = W0 at *
  have I0 := Lib.hid ((I0.out.below L0 I0.out.lt).drew)
  clear L0
  have A0 := Lib.hid A0.out.drew
  have R3 := Lib.hid R0.out.drew
  refine wp_region_held_drew (S := fun W => (W.cell? ⟨w.heap.size, 0, none⟩ = some (.int .i64 (a1)) ∧ W.cell? ⟨w.heap.size, 1, none⟩ = some (.int .i64 (a2)) ∧ W.cell? ⟨w.heap.size, 2, none⟩ = some (.int .i64 (a3)))) (by kernel_rfl) A0.out.held (fun hHeld => ?_)
  generalize W0.drew = W1 at *
  refine wpAnyH_takeD 0 5 (v := ?_) (by kernel_rfl) (by kernel_rfl) (by kernel_rfl) (by kernel_rfl) (by rfl) (fun _ _ _ h => h) ?_ hHeld ?_
  rotate_left 1
  (intro o ho W hSw; simp only [List.getElem?_toArray, List.getElem?_cons_succ, List.getElem?_cons_zero, Option.some.injEq] at ho; subst ho; (try dsimp only at hSw); go_simp; try with_reducible rfl)
  (try simp only [Act.put, List.setIfInBounds_toArray, List.set_cons_zero, List.set_cons_succ])
  refine wpAnyH_takeD 1 6 (v := ?_) (by kernel_rfl) (by kernel_rfl) (by kernel_rfl) (by kernel_rfl) (by rfl) (fun _ _ _ h => h) ?_ hHeld ?_
  rotate_left 1
  (intro o ho W hSw; simp only [List.getElem?_toArray, List.getElem?_cons_succ, List.getElem?_cons_zero, Option.some.injEq] at ho; subst ho; (try dsimp only at hSw); go_simp; try with_reducible rfl)
  (try simp only [Act.put, List.setIfInBounds_toArray, List.set_cons_zero, List.set_cons_succ])
  refine wpAnyH_takeD 2 7 (v := ?_) (by kernel_rfl) (by kernel_rfl) (by kernel_rfl) (by kernel_rfl) (by rfl) (fun _ _ _ h => h) ?_ hHeld ?_
  rotate_left 1
  (intro o ho W hSw; simp only [List.getElem?_toArray, List.getElem?_cons_succ, List.getElem?_cons_zero, Option.some.injEq] at ho; subst ho; (try dsimp only at hSw); go_simp; try with_reducible rfl)
  (try simp only [Act.put, List.setIfInBounds_toArray, List.set_cons_zero, List.set_cons_succ])
  refine wpAnyH_takeD 4 9 (v := ?_) (by kernel_rfl) (by kernel_rfl) (by kernel_rfl) (by kernel_rfl) (by rfl) (fun _ _ _ h => h) ?_ hHeld ?_
  rotate_left 1
  (intro o ho W hSw; simp only [List.getElem?_toArray, List.getElem?_cons_succ, List.getElem?_cons_zero, Option.some.injEq] at ho; subst ho; (try dsimp only at hSw); go_simp; try with_reducible rfl)
  (try simp only [Act.put, List.setIfInBounds_toArray, List.set_cons_zero, List.set_cons_succ])
  refine wpAnyH_takeD 5 10 (v := ?_) (by kernel_rfl) (by kernel_rfl) (by kernel_rfl) (by kernel_rfl) (by rfl) (fun _ _ _ h => h) ?_ hHeld ?_
  rotate_left 1
  (intro o ho W hSw; simp only [List.getElem?_toArray, List.getElem?_cons_succ, List.getElem?_cons_zero, Option.some.injEq] at ho; subst ho; (try dsimp only at hSw); go_simp; try with_reducible rfl)
  (try simp only [Act.put, List.setIfInBounds_toArray, List.set_cons_zero, List.set_cons_succ])
  refine wpAnyH_takeD 6 11 (v := ?_) (by kernel_rfl) (by kernel_rfl) (by kernel_rfl) (by kernel_rfl) (by rfl) (fun _ _ _ h => h) ?_ hHeld ?_
  rotate_left 1
  (intro o ho W hSw; simp only [List.getElem?_toArray, List.getElem?_cons_succ, List.getElem?_cons_zero, Option.some.injEq] at ho; subst ho; (try dsimp only at hSw); go_simp; try with_reducible rfl)
  (try simp only [Act.put, List.setIfInBounds_toArray, List.set_cons_zero, List.set_cons_succ])
  refine wpAnyH_takeD 8 13 (v := ?_) (by kernel_rfl) (by kernel_rfl) (by kernel_rfl) (by kernel_rfl) (by rfl) (fun _ _ _ h => h) ?_ hHeld ?_
  rotate_left 1
  (intro o ho W hSw; simp only [List.getElem?_toArray, List.getElem?_cons_succ, List.getElem?_cons_zero, Option.some.injEq] at ho; subst ho; (try dsimp only at hSw); go_simp; try with_reducible rfl)
  (try simp only [Act.put, List.setIfInBounds_toArray, List.set_cons_zero, List.set_cons_succ])
  refine wpAnyH_takeD 9 14 (v := ?_) (by kernel_rfl) (by kernel_rfl) (by kernel_rfl) (by kernel_rfl) (by rfl) (fun _ _ _ h => h) ?_ hHeld ?_
  rotate_left 1
  (intro o ho W hSw; simp only [List.getElem?_toArray, List.getElem?_cons_succ, List.getElem?_cons_zero, Option.some.injEq] at ho; subst ho; (try dsimp only at hSw); go_simp; try with_reducible rfl)
  (try simp only [Act.put, List.setIfInBounds_toArray, List.set_cons_zero, List.set_cons_succ])
  refine wpAnyH_takeD 10 15 (v := ?_) (by kernel_rfl) (by kernel_rfl) (by kernel_rfl) (by kernel_rfl) (by rfl) (fun _ _ _ h => h) ?_ hHeld ?_
  rotate_left 1
  (intro o ho W hSw; simp only [List.getElem?_toArray, List.getElem?_cons_succ, List.getElem?_cons_zero, Option.some.injEq] at ho; subst ho; (try dsimp only at hSw); go_simp; try with_reducible rfl)
  (try simp only [Act.put, List.setIfInBounds_toArray, List.set_cons_zero, List.set_cons_succ])
  refine wpAnyH_onlyD 3 (by kernel_rfl) (fun o ho K hK => ?_) (by kernel_rfl)
  simp only [List.getElem?_toArray, List.getElem?_cons_succ, List.getElem?_cons_zero, Option.some.injEq] at ho
  subst ho
  go_simp
  refine (cClamp_any a1 s j _ s0 s1 I0.out).mono ?_
  rintro e w1 ⟨rfl, rfl⟩
  go_wp2_with fail
  refine hK.out _ _ (hHeld) ?_
  clear hK K hHeld
  intro hHeld
  refine wpAnyH_onlyD 7 (by kernel_rfl) (fun o ho K hK => ?_) (by kernel_rfl)
  simp only [List.getElem?_toArray, List.getElem?_cons_succ, List.getElem?_cons_zero, Option.some.injEq] at ho
  subst ho
  go_simp
  refine (cClamp_any a2 s j _ s0 s1 I0.out).mono ?_
  rintro e w1 ⟨rfl, rfl⟩
  go_wp2_with fail
  refine hK.out _ _ (hHeld) ?_
  clear hK K hHeld
  intro hHeld
  refine wpAnyH_onlyD 11 (by kernel_rfl) (fun o ho K hK => ?_) (by kernel_rfl)
  simp only [List.getElem?_toArray, List.getElem?_cons_succ, List.getElem?_cons_zero, Option.some.injEq] at ho
  subst ho
  go_simp
  refine (cClamp_any a3 s j _ s0 s1 I0.out).mono ?_
  rintro e w1 ⟨rfl, rfl⟩
  go_wp2_with fail
  refine hK.out _ _ (hHeld) ?_
  clear hK K hHeld
  intro hHeld
  refine wpAnyH_takeD 12 17 (v := ?_) (by kernel_rfl) (by kernel_rfl) (by kernel_rfl) (by kernel_rfl) (by rfl) (fun _ _ _ h => h) ?_ hHeld ?_
  rotate_left 1
  (intro o ho W hSw; simp only [List.getElem?_toArray, List.getElem?_cons_succ, List.getElem?_cons_zero, Option.some.injEq] at ho; subst ho; (try dsimp only at hSw); go_simp; try with_reducible rfl)
  (try simp only [Act.put, List.setIfInBounds_toArray, List.set_cons_zero, List.set_cons_succ])
  have r0 := R3.out.c0
  have r1 := R3.out.c1
  have r2 := R3.out.c2
  have rf := R3.out.f
  refine wpAnyH_onlyD 13 (by kernel_rfl) (fun o ho K hK => ?_) (by kernel_rfl)
  simp only [List.getElem?_toArray, List.getElem?_cons_succ, List.getElem?_cons_zero, Option.some.injEq] at ho
  subst ho
  go_simp
  refine hK.out _ _ ((((A0.out.far (r := w.heap.size + 1) (by omega) 0 _).far (r := w.heap.size + 1) (by omega) 1 _).far (r := w.heap.size + 1) (by omega) 2 _).held) ?_
  clear hK K hHeld
  intro hHeld
  refine wpAnyH_done (by kernel_rfl) ?_ _
  go_wp2
  exact bodyPost_ret (v := .agg #[.int .i64 (clampF a1 (-s) s), .int .i64 (clampF a2 (-s) s), .int .i64 (clampF a3 (-s) s)]) (by simp [results, Try.results52, go_sem, r0, r1, r2]) rfl ⟨rfl, put3_below LL.out (by omega) _ _ _⟩
theorem VClamp_any (a1 a2 a3 s : Int) (w : World) (s0 : 0 ≤ s) (s1 : s ≤ 9223372036854775807) :
    Calls Try.prog 25 #[.agg #[.int .i64 a1, .int .i64 a2, .int .i64 a3], .int .i64 s] w fun e w' => e = .returned (.agg #[.int .i64 (clampF a1 (-s) s), .int .i64 (clampF a2 (-s) s), .int .i64 (clampF a3 (-s) s)]) ∧ Below w.heap.size w w' := by
  have hmf : ∀ (fn : Fn) (first cap : Array Value) (w : World), (Instr.makeFunc fn first cap).run Try.prog w = .ok (.func fn first cap) w := fun _ _ _ _ => rfl
  go_enter Try.func25, Try.ntmps25
  go_wp2_with fail
  refine calls_gen (S := fun W => IB W (w.heap.size + 1) s ∧ VW W (w.heap.size + 1 + 1) 0 0 0 ∧ Below w.heap.size w W) ⟨(IB.new _ _ s _ (by simp)).alloc _, VW.new _ _ 0 0 0 _ (by simp), by repeat (first | exact Below.refl _ _ | assumption | refine Below.setCell ?_ (by first | omega | (simp; done) | (simp; omega)) _ | refine Below.alloc ?_ (by first | omega | (simp; done) | (simp; omega)) _ | refine below_drewN ?_ _ | refine Below.drew ?_ | refine Below.trans ?_ (Below.mono (by assumption) (by first | omega | (simp; done) | (simp; omega))))⟩ (fun W0 hS => ?_)
  have R0 := Lib.hid hS.2.1
  have L0 := Lib.hid hS.2.2
  refine (eaClamp_any a1 a2 a3 s _ _ s0 s1 hS.1).mono ?_
  clear hS
  rintro e w1 ⟨rfl, h⟩
  have L1 := Lib.hid (L0.out.trans (h.mono L0.out.size))
  have R1 := Lib.hid (R0.out.below h R0.out.lt)
  clear h L0 R0
  have r0 := R1.out.c0
  have r1 := R1.out.c1
  have r2 := R1.out.c2
  have rf := R1.out.f
  go_wp2
  exact bodyPost_ret (v := .agg #[.int .i64 (clampF a1 (-s) s), .int .i64 (clampF a2 (-s) s), .int .i64 (clampF a3 (-s) s)]) (by simp [results, Try.results25, go_sem, r0, r1, r2]) rfl ⟨rfl, put3_below L1.out (by omega) _ _ _⟩
end Go.Proofs.Ytldcmiomfahaoaa
