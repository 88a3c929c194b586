/- The walk of QuatKeeps, whatever the program's own quat does as long as it tells what QuatC says. -/
import Derived.Test.YtldcmiomfahaoaaKk
import Derived.Test.YtldcmiomfahaoaaJf
namespace Go.Proofs.Ytldcmiomfahaoaa
open Go.RowKit
set_option linter.unusedVariables false
set_option linter.unusedSimpArgs false

theorem clamp42 {x : Int} (h : V42 x) : clampF x (-4398046511104) 4398046511104 = x := by
  unfold V42 at h; unfold clampF; rw [if_neg (by omega), if_neg (by omega)]
theorem clamp42' {x : Int} (h : ¬ V42 x) : ¬ clampF x (-4398046511104) 4398046511104 = x := by
  unfold V42 at h; unfold clampF; split
  · omega
  · split <;> omega
/-- what QuatKeeps reckons, in its order -/
structure KeepC (a b c d x y z : Int) (w1 w2 w3 n1 n2 D : Int) : Prop where
  mat : ∀ (j : Nat) (W : World), MAt W j 0 false → Calls Try.prog 14 #[.pointer (some ⟨j, 0, none⟩), .agg #[.int .i64 a, .int .i64 b, .int .i64 c, .int .i64 d]] W fun e w' => e = .returned (.agg #[.int .i64 (diagF c d), .int .i64 (offF b c a d), .int .i64 (onF b d a c), .int .i64 (onF b c a d), .int .i64 (diagF b d), .int .i64 (offF c d a b), .int .i64 (offF b d a c), .int .i64 (onF c d a b), .int .i64 (diagF b c)]) ∧ FxW W.heap.size W j 0 false w'
  app : ∀ (j : Nat) (W : World), MAt W j 0 false → Calls Try.prog 16 #[.pointer (some ⟨j, 0, none⟩), .agg #[.int .i64 (diagF c d), .int .i64 (offF b c a d), .int .i64 (onF b d a c), .int .i64 (onF b c a d), .int .i64 (diagF b d), .int .i64 (offF c d a b), .int .i64 (offF b d a c), .int .i64 (onF c d a b), .int .i64 (diagF b c)], .agg #[.int .i64 x, .int .i64 y, .int .i64 z]] W fun e w' => e = .returned (.agg #[.int .i64 w1, .int .i64 w2, .int .i64 w3]) ∧ FxW W.heap.size W j 0 false w'
  len1 : ∀ (j : Nat) (W : World), MAt W j 0 false → Calls Try.prog 27 #[.pointer (some ⟨j, 0, none⟩), .agg #[.int .i64 w1, .int .i64 w2, .int .i64 w3]] W fun e w' => e = .returned (.int .i64 n1) ∧ FxW W.heap.size W j 0 false w'
  len2 : ∀ (j : Nat) (W : World), MAt W j 0 false → Calls Try.prog 27 #[.pointer (some ⟨j, 0, none⟩), .agg #[.int .i64 x, .int .i64 y, .int .i64 z]] W fun e w' => e = .returned (.int .i64 n2) ∧ FxW W.heap.size W j 0 false w'
  sub : ∀ (j : Nat) (W : World), MAt W j 0 false → Calls Try.prog 26 #[.pointer (some ⟨j, 0, none⟩), .int .i64 n1, .int .i64 n2] W fun e w' => e = .returned (.int .i64 (subF n1 n2)) ∧ FxW W.heap.size W j 0 false w'
  abs : ∀ (j : Nat) (W : World), MAt W j 0 false → Calls Try.prog 28 #[.pointer (some ⟨j, 0, none⟩), .int .i64 (subF n1 n2)] W fun e w' => e = .returned (.int .i64 D) ∧ FxW W.heap.size W j 0 false w'
  lt : D < 262144
theorem keepC (C : QuatC) {a b c d x y z : Int} (hu : In4 a b c d) (hv : In3 x y z) (t : Att a b c d) (hx : V42 x) (hy : V42 y) (hz : V42 z) : ∃ w1 w2 w3 n1 n2 D, KeepC a b c d x y z w1 w2 w3 n1 n2 D := by
  have T := turn_of t hx hy hz
  have I9 := mat_in9 a b c d
  have m0 := mat_ok t
  obtain ⟨w1, e1⟩ : ∃ w, dotF (diagF c d) (offF b c a d) (onF b d a c) x y z = w := ⟨_, rfl⟩
  obtain ⟨w2, e2⟩ : ∃ w, dotF (onF b c a d) (diagF b d) (offF c d a b) x y z = w := ⟨_, rfl⟩
  obtain ⟨w3, e3⟩ : ∃ w, dotF (offF b d a c) (onF c d a b) (diagF b c) x y z = w := ⟨_, rfl⟩
  rw [e1, e2, e3] at T
  have IW : In3 w1 w2 w3 := by rw [← e1, ← e2, ← e3]; exact in3_of (dotF_in _ _ _ _ _ _) (dotF_in _ _ _ _ _ _) (dotF_in _ _ _ _ _ _)
  refine ⟨w1, w2, w3, lenF (w1 * w1 + w2 * w2 + w3 * w3), lenF (x * x + y * y + z * z), absF (subF (lenF (w1 * w1 + w2 * w2 + w3 * w3)) (lenF (x * x + y * y + z * z))), ⟨fun j W m => ?_, fun j W m => ?_, fun j W m => ?_, fun j W m => ?_, fun j W m => ?_, fun j W m => ?_, T.lt⟩⟩
  · have := C.mat a b c d j 0 false W hu m
    rw [m0] at this; exact this
  · have := C.app (diagF c d) (offF b c a d) (onF b d a c) (onF b c a d) (diagF b d) (offF c d a b) (offF b d a c) (onF c d a b) (diagF b c) x y z j 0 false W I9 hv m
    rw [dot_ok T.f1, dot_ok T.f2, dot_ok T.f3, e1, e2, e3] at this; exact this
  · have := VLen_any w1 w2 w3 j 0 false W IW m
    rw [T.lw] at this; exact this
  · have := VLen_any x y z j 0 false W hv m
    rw [T.lx] at this; exact this
  · have := fxSub_any (lenF (w1 * w1 + w2 * w2 + w3 * w3)) (lenF (x * x + y * y + z * z)) j 0 false W (by have := lenF_in (w1 * w1 + w2 * w2 + w3 * w3); omega) (lenF_in _).2 (by have := lenF_in (x * x + y * y + z * z); omega) (lenF_in _).2 m
    rw [T.so] at this; exact this
  · have := fxAbs_any (subF (lenF (w1 * w1 + w2 * w2 + w3 * w3)) (lenF (x * x + y * y + z * z))) j 0 false W (subF_in _ _).1 (subF_in _ _).2 m
    rw [T.ao] at this; exact this
set_option maxRecDepth 100000 in
set_option maxHeartbeats 8000000 in
theorem qkeeps_no (C : QuatC) (qw qx qy qz x y z : Int) (w : World) (hq : In4 qw qx qy qz) (h : ¬ OkQ qw qx qy qz) :
    Calls Try.prog 7 #[.agg #[.int .i64 qw, .int .i64 qx, .int .i64 qy, .int .i64 qz], .agg #[.int .i64 x, .int .i64 y, .int .i64 z]] w fun e w' => e = .returned (.bool true) ∧ Below w.heap.size w w' := by
  have X1 := Lib.hid (fun (W : World) => qunitLaw_no qw qx qy qz W hq h)
  have HC := Lib.hid C
  clear hq h C
  go_enter Try.func7, Try.ntmps7
  go_wp2_with fail
  refine calls_gen (S := fun W => Below w.heap.size w W) (by repeat (first | exact Below.refl _ _ | assumption | refine Below.setCell ?_ (by first | omega | (simp; done) | (simp; omega)) _ | refine Below.alloc ?_ (by first | omega | (simp; done) | (simp; omega)) _ | refine below_drewN ?_ _ | refine Below.drew ?_ | refine Below.trans ?_ (Below.mono (by assumption) (by first | omega | (simp; done) | (simp; omega))))) (fun W0 hS => ?_)
  have L0 := Lib.hid hS
  clear hS
  refine (X1.out _).mono ?_
  rintro e w1 ⟨rfl, h⟩
  have L1 := Lib.hid (L0.out.trans (h.mono L0.out.size))
  clear h L0 X1
  go_wp2_with fail
  refine wp_gen (S := fun W => Below w.heap.size w W) (L1.out.alloc L1.out.size _) (fun W1 hS => ?_)
  have L2 := Lib.hid hS.drew
  clear hS
  refine wp_region_held_drew (S := fun W => True) (by kernel_rfl) trivial (fun hHeld => ?_)
  refine wpAnyH_takeD 0 14 (v := ?_) (by kernel_rfl) (by kernel_rfl) (by kernel_rfl) (by kernel_rfl) (by rfl) (fun _ _ _ h => h) ?_ hHeld ?_
  rotate_left 1
  (intro o ho W hSw; simp only [List.getElem?_toArray, List.getElem?_cons_succ, List.getElem?_cons_zero, Option.some.injEq] at ho; subst ho; (try dsimp only at hSw); go_simp; try with_reducible rfl)
  (try simp only [Act.put, List.setIfInBounds_toArray, List.set_cons_zero, List.set_cons_succ])
  refine wpAnyH_takeD 1 15 (v := ?_) (by kernel_rfl) (by kernel_rfl) (by kernel_rfl) (by kernel_rfl) (by rfl) (fun _ _ _ h => h) ?_ hHeld ?_
  rotate_left 1
  (intro o ho W hSw; simp only [List.getElem?_toArray, List.getElem?_cons_succ, List.getElem?_cons_zero, Option.some.injEq] at ho; subst ho; (try dsimp only at hSw); go_simp; try with_reducible rfl)
  (try simp only [Act.put, List.setIfInBounds_toArray, List.set_cons_zero, List.set_cons_succ])
  refine wpAnyH_takeD 2 16 (v := ?_) (by kernel_rfl) (by kernel_rfl) (by kernel_rfl) (by kernel_rfl) (by rfl) (fun _ _ _ h => h) ?_ hHeld ?_
  rotate_left 1
  (intro o ho W hSw; simp only [List.getElem?_toArray, List.getElem?_cons_succ, List.getElem?_cons_zero, Option.some.injEq] at ho; subst ho; (try dsimp only at hSw); go_simp; try with_reducible rfl)
  (try simp only [Act.put, List.setIfInBounds_toArray, List.set_cons_zero, List.set_cons_succ])
  refine wpAnyH_skipD 3 17 (by kernel_rfl) (by kernel_rfl) (by kernel_rfl) (by kernel_rfl) (by rfl) (fun _ _ _ h => h) hHeld ?_
  (try simp only [Act.put, List.setIfInBounds_toArray, List.set_cons_zero, List.set_cons_succ])
  refine wpAnyH_skipD 4 18 (by kernel_rfl) (by kernel_rfl) (by kernel_rfl) (by kernel_rfl) (by rfl) (fun _ _ _ h => h) hHeld ?_
  (try simp only [Act.put, List.setIfInBounds_toArray, List.set_cons_zero, List.set_cons_succ])
  refine wpAnyH_skipD 5 19 (by kernel_rfl) (by kernel_rfl) (by kernel_rfl) (by kernel_rfl) (by rfl) (fun _ _ _ h => h) hHeld ?_
  (try simp only [Act.put, List.setIfInBounds_toArray, List.set_cons_zero, List.set_cons_succ])
  refine wpAnyH_skipD 6 20 (by kernel_rfl) (by kernel_rfl) (by kernel_rfl) (by kernel_rfl) (by rfl) (fun _ _ _ h => h) hHeld ?_
  (try simp only [Act.put, List.setIfInBounds_toArray, List.set_cons_zero, List.set_cons_succ])
  refine wpAnyH_takeD 7 21 (v := ?_) (by kernel_rfl) (by kernel_rfl) (by kernel_rfl) (by kernel_rfl) (by rfl) (fun _ _ _ h => h) ?_ hHeld ?_
  rotate_left 1
  (intro o ho W hSw; simp only [List.getElem?_toArray, List.getElem?_cons_succ, List.getElem?_cons_zero, Option.some.injEq] at ho; subst ho; (try dsimp only at hSw); go_simp; try with_reducible rfl)
  (try simp only [Act.put, List.setIfInBounds_toArray, List.set_cons_zero, List.set_cons_succ])
  refine wpAnyH_done (by kernel_rfl) ?_ _
  go_wp2_with fail
  refine (quatAwake_any HC.out _).mono ?_
  rintro e w9 ⟨rfl, h⟩
  have L9 := Lib.hid (L2.out.trans (h.mono L2.out.size))
  clear h
  go_wp2
  go_ret
  exact ⟨rfl, L9.out⟩
set_option maxRecDepth 100000 in
set_option maxHeartbeats 8000000 in
theorem qkeeps_far (C : QuatC) (qw qx qy qz x y z a b c d : Int) (w : World) (X1 : Hid (∀ W : World, Calls Try.prog 24 #[.agg #[.int .i64 qw, .int .i64 qx, .int .i64 qy, .int .i64 qz]] W fun e w' => e = .returned (.tuple #[.agg #[.int .i64 a, .int .i64 b, .int .i64 c, .int .i64 d], .bool true]) ∧ Below W.heap.size W w'))
    (k1 k2 k3 : Int) (HK : Hid (∀ W : World, Calls Try.prog 25 #[.agg #[.int .i64 x, .int .i64 y, .int .i64 z], .int .i64 4398046511104] W fun e w' => e = .returned (.agg #[.int .i64 k1, .int .i64 k2, .int .i64 k3]) ∧ Below W.heap.size W w')) (ne : ¬ (k1 = x ∧ k2 = y ∧ k3 = z)) :
    Calls Try.prog 7 #[.agg #[.int .i64 qw, .int .i64 qx, .int .i64 qy, .int .i64 qz], .agg #[.int .i64 x, .int .i64 y, .int .i64 z]] w fun e w' => e = .returned (.bool true) ∧ Below w.heap.size w w' := by
  have HC := Lib.hid C
  clear C
  by_cases e1 : k1 = x
  · have f1 := e1.symm
    clear e1
    subst f1
    by_cases e2 : k2 = y
    · have f2 := e2.symm
      clear e2
      subst f2
      have e3 : ¬ k3 = z := fun e => ne ⟨rfl, rfl, e⟩
      clear ne
      go_enter Try.func7, Try.ntmps7
      go_wp2_with fail
      refine calls_gen (S := fun W => VW W (w.heap.size + 1) x y z ∧ Below w.heap.size w W) ⟨VW.new _ (w.heap.size + 1) x y z _ (by simp), by repeat (first | exact Below.refl _ _ | assumption | refine Below.setCell ?_ (by first | omega | (simp; done) | (simp; omega)) _ | refine Below.alloc ?_ (by first | omega | (simp; done) | (simp; omega)) _ | refine below_drewN ?_ _ | refine Below.drew ?_ | refine Below.trans ?_ (Below.mono (by assumption) (by first | omega | (simp; done) | (simp; omega))))⟩ (fun W0 hS => ?_)
      have A0 := Lib.hid hS.1
      have L0 := Lib.hid hS.2
      clear hS
      refine (X1.out _).mono ?_
      rintro e w1 ⟨rfl, h⟩
      have A1 := Lib.hid (A0.out.below h A0.out.lt)
      have L1 := Lib.hid (L0.out.trans (h.mono L0.out.size))
      clear h A0 L0 X1
      go_wp2_with fail
      refine wp_gen (S := fun W => VW W (w.heap.size + 1) x y z ∧ BW W w1.heap.size [.int .i64 a, .int .i64 b, .int .i64 c, .int .i64 d] ∧ Below w.heap.size w W) ⟨A1.out.alloc _, BW.new w1 _ [_, _, _, _] _ rfl, L1.out.alloc L1.out.size _⟩ (fun W1 hS => ?_)
      have hz : w.heap.size + 1 < w1.heap.size := A1.out.lt
      clear A1 L1
      generalize w1.heap.size = n1 at *
      have A0 := Lib.hid hS.1.drew
      have U0 := Lib.hid hS.2.1.drew
      have L0 := Lib.hid hS.2.2.drew
      clear hS
      refine wp_region_held_drew (S := fun W => (W.cell? ⟨w.heap.size + 1, 0, none⟩ = some (.int .i64 (x)) ∧ W.cell? ⟨w.heap.size + 1, 1, none⟩ = some (.int .i64 (y)) ∧ W.cell? ⟨w.heap.size + 1, 2, none⟩ = some (.int .i64 (z)))) (by kernel_rfl) A0.out.held (fun hHeld => ?_)
      refine wpAnyH_takeD 0 14 (v := ?_) (by kernel_rfl) (by kernel_rfl) (by kernel_rfl) (by kernel_rfl) (by rfl) (fun _ _ _ h => h) ?_ hHeld ?_
      rotate_left 1
      (intro o ho W hSw; simp only [List.getElem?_toArray, List.getElem?_cons_succ, List.getElem?_cons_zero, Option.some.injEq] at ho; subst ho; (try dsimp only at hSw); go_simp; try with_reducible rfl)
      (try simp only [Act.put, List.setIfInBounds_toArray, List.set_cons_zero, List.set_cons_succ])
      refine wpAnyH_takeD 1 15 (v := ?_) (by kernel_rfl) (by kernel_rfl) (by kernel_rfl) (by kernel_rfl) (by rfl) (fun _ _ _ h => h) ?_ hHeld ?_
      rotate_left 1
      (intro o ho W hSw; simp only [List.getElem?_toArray, List.getElem?_cons_succ, List.getElem?_cons_zero, Option.some.injEq] at ho; subst ho; (try dsimp only at hSw); go_simp; try with_reducible rfl)
      (try simp only [Act.put, List.setIfInBounds_toArray, List.set_cons_zero, List.set_cons_succ])
      refine wpAnyH_takeD 2 16 (v := ?_) (by kernel_rfl) (by kernel_rfl) (by kernel_rfl) (by kernel_rfl) (by rfl) (fun _ _ _ h => h) ?_ hHeld ?_
      rotate_left 1
      (intro o ho W hSw; simp only [List.getElem?_toArray, List.getElem?_cons_succ, List.getElem?_cons_zero, Option.some.injEq] at ho; subst ho; (try dsimp only at hSw); go_simp; try with_reducible rfl)
      (try simp only [Act.put, List.setIfInBounds_toArray, List.set_cons_zero, List.set_cons_succ])
      refine wpAnyH_takeD 3 17 (v := ?_) (by kernel_rfl) (by kernel_rfl) (by kernel_rfl) (by kernel_rfl) (by rfl) (fun _ _ _ h => h) ?_ hHeld ?_
      rotate_left 1
      (intro o ho W hSw; simp only [List.getElem?_toArray, List.getElem?_cons_succ, List.getElem?_cons_zero, Option.some.injEq] at ho; subst ho; (try dsimp only at hSw); go_simp; try with_reducible rfl)
      (try simp only [Act.put, List.setIfInBounds_toArray, List.set_cons_zero, List.set_cons_succ])
      refine wpAnyH_takeD 5 19 (v := ?_) (by kernel_rfl) (by kernel_rfl) (by kernel_rfl) (by kernel_rfl) (by rfl) (fun _ _ _ h => h) ?_ hHeld ?_
      rotate_left 1
      (intro o ho W hSw; simp only [List.getElem?_toArray, List.getElem?_cons_succ, List.getElem?_cons_zero, Option.some.injEq] at ho; subst ho; (try dsimp only at hSw); go_simp; try with_reducible rfl)
      (try simp only [Act.put, List.setIfInBounds_toArray, List.set_cons_zero, List.set_cons_succ])
      refine wpAnyH_onlyD 4 (by kernel_rfl) (fun o ho K hK => ?_) (by kernel_rfl)
      simp only [List.getElem?_toArray, List.getElem?_cons_succ, List.getElem?_cons_zero, Option.some.injEq] at ho
      subst ho
      go_simp
      refine (HK.out _).mono ?_
      rintro e w2 ⟨rfl, h⟩
      have A1 := Lib.hid (A0.out.below h A0.out.lt)
      have U1 := Lib.hid (U0.out.below h U0.out.lt)
      have L1 := Lib.hid (L0.out.trans (h.mono L0.out.size))
      go_wp2_with fail
      refine hK.out _ _ (A1.out.held) ?_
      clear hK K hHeld
      intro hHeld
      clear h A0 U0 L0 HK
      refine wpAnyH_takeD 6 20 (v := ?_) (by kernel_rfl) (by kernel_rfl) (by kernel_rfl) (by kernel_rfl) (by rfl) (fun _ _ _ h => h) ?_ hHeld ?_
      rotate_left 1
      (intro o ho W hSw; simp only [List.getElem?_toArray, List.getElem?_cons_succ, List.getElem?_cons_zero, Option.some.injEq] at ho; subst ho; (try dsimp only at hSw); go_simp; try with_reducible rfl)
      (try simp only [Act.put, List.setIfInBounds_toArray, List.set_cons_zero, List.set_cons_succ])
      refine wpAnyH_takeD 7 21 (v := ?_) (by kernel_rfl) (by kernel_rfl) (by kernel_rfl) (by kernel_rfl) (by rfl) (fun _ _ _ h => h) ?_ hHeld ?_
      rotate_left 1
      (intro o ho W hSw; simp only [List.getElem?_toArray, List.getElem?_cons_succ, List.getElem?_cons_zero, Option.some.injEq] at ho; subst ho; (try dsimp only at hSw); go_simp; try with_reducible rfl)
      (try simp only [Act.put, List.setIfInBounds_toArray, List.set_cons_zero, List.set_cons_succ])
      refine wpAnyH_done (by kernel_rfl) ?_ _
      go_wp2_with fail
      refine (quatAwake_any HC.out _).mono ?_
      rintro e w9 ⟨rfl, h⟩
      have L9 := Lib.hid (L1.out.trans (h.mono L1.out.size))
      clear h
      go_wp2
      go_ret
      exact ⟨rfl, L9.out⟩
    · clear ne
      go_enter Try.func7, Try.ntmps7
      go_wp2_with fail
      refine calls_gen (S := fun W => VW W (w.heap.size + 1) x y z ∧ Below w.heap.size w W) ⟨VW.new _ (w.heap.size + 1) x y z _ (by simp), by repeat (first | exact Below.refl _ _ | assumption | refine Below.setCell ?_ (by first | omega | (simp; done) | (simp; omega)) _ | refine Below.alloc ?_ (by first | omega | (simp; done) | (simp; omega)) _ | refine below_drewN ?_ _ | refine Below.drew ?_ | refine Below.trans ?_ (Below.mono (by assumption) (by first | omega | (simp; done) | (simp; omega))))⟩ (fun W0 hS => ?_)
      have A0 := Lib.hid hS.1
      have L0 := Lib.hid hS.2
      clear hS
      refine (X1.out _).mono ?_
      rintro e w1 ⟨rfl, h⟩
      have A1 := Lib.hid (A0.out.below h A0.out.lt)
      have L1 := Lib.hid (L0.out.trans (h.mono L0.out.size))
      clear h A0 L0 X1
      go_wp2_with fail
      refine wp_gen (S := fun W => VW W (w.heap.size + 1) x y z ∧ BW W w1.heap.size [.int .i64 a, .int .i64 b, .int .i64 c, .int .i64 d] ∧ Below w.heap.size w W) ⟨A1.out.alloc _, BW.new w1 _ [_, _, _, _] _ rfl, L1.out.alloc L1.out.size _⟩ (fun W1 hS => ?_)
      have hz : w.heap.size + 1 < w1.heap.size := A1.out.lt
      clear A1 L1
      generalize w1.heap.size = n1 at *
      have A0 := Lib.hid hS.1.drew
      have U0 := Lib.hid hS.2.1.drew
      have L0 := Lib.hid hS.2.2.drew
      clear hS
      refine wp_region_held_drew (S := fun W => (W.cell? ⟨w.heap.size + 1, 0, none⟩ = some (.int .i64 (x)) ∧ W.cell? ⟨w.heap.size + 1, 1, none⟩ = some (.int .i64 (y)) ∧ W.cell? ⟨w.heap.size + 1, 2, none⟩ = some (.int .i64 (z)))) (by kernel_rfl) A0.out.held (fun hHeld => ?_)
      refine wpAnyH_takeD 0 14 (v := ?_) (by kernel_rfl) (by kernel_rfl) (by kernel_rfl) (by kernel_rfl) (by rfl) (fun _ _ _ h => h) ?_ hHeld ?_
      rotate_left 1
      (intro o ho W hSw; simp only [List.getElem?_toArray, List.getElem?_cons_succ, List.getElem?_cons_zero, Option.some.injEq] at ho; subst ho; (try dsimp only at hSw); go_simp; try with_reducible rfl)
      (try simp only [Act.put, List.setIfInBounds_toArray, List.set_cons_zero, List.set_cons_succ])
      refine wpAnyH_takeD 1 15 (v := ?_) (by kernel_rfl) (by kernel_rfl) (by kernel_rfl) (by kernel_rfl) (by rfl) (fun _ _ _ h => h) ?_ hHeld ?_
      rotate_left 1
      (intro o ho W hSw; simp only [List.getElem?_toArray, List.getElem?_cons_succ, List.getElem?_cons_zero, Option.some.injEq] at ho; subst ho; (try dsimp only at hSw); go_simp; try with_reducible rfl)
      (try simp only [Act.put, List.setIfInBounds_toArray, List.set_cons_zero, List.set_cons_succ])
      refine wpAnyH_takeD 2 16 (v := ?_) (by kernel_rfl) (by kernel_rfl) (by kernel_rfl) (by kernel_rfl) (by rfl) (fun _ _ _ h => h) ?_ hHeld ?_
      rotate_left 1
      (intro o ho W hSw; simp only [List.getElem?_toArray, List.getElem?_cons_succ, List.getElem?_cons_zero, Option.some.injEq] at ho; subst ho; (try dsimp only at hSw); go_simp; try with_reducible rfl)
      (try simp only [Act.put, List.setIfInBounds_toArray, List.set_cons_zero, List.set_cons_succ])
      refine wpAnyH_takeD 3 17 (v := ?_) (by kernel_rfl) (by kernel_rfl) (by kernel_rfl) (by kernel_rfl) (by rfl) (fun _ _ _ h => h) ?_ hHeld ?_
      rotate_left 1
      (intro o ho W hSw; simp only [List.getElem?_toArray, List.getElem?_cons_succ, List.getElem?_cons_zero, Option.some.injEq] at ho; subst ho; (try dsimp only at hSw); go_simp; try with_reducible rfl)
      (try simp only [Act.put, List.setIfInBounds_toArray, List.set_cons_zero, List.set_cons_succ])
      refine wpAnyH_takeD 5 19 (v := ?_) (by kernel_rfl) (by kernel_rfl) (by kernel_rfl) (by kernel_rfl) (by rfl) (fun _ _ _ h => h) ?_ hHeld ?_
      rotate_left 1
      (intro o ho W hSw; simp only [List.getElem?_toArray, List.getElem?_cons_succ, List.getElem?_cons_zero, Option.some.injEq] at ho; subst ho; (try dsimp only at hSw); go_simp; try with_reducible rfl)
      (try simp only [Act.put, List.setIfInBounds_toArray, List.set_cons_zero, List.set_cons_succ])
      refine wpAnyH_onlyD 4 (by kernel_rfl) (fun o ho K hK => ?_) (by kernel_rfl)
      simp only [List.getElem?_toArray, List.getElem?_cons_succ, List.getElem?_cons_zero, Option.some.injEq] at ho
      subst ho
      go_simp
      refine (HK.out _).mono ?_
      rintro e w2 ⟨rfl, h⟩
      have A1 := Lib.hid (A0.out.below h A0.out.lt)
      have U1 := Lib.hid (U0.out.below h U0.out.lt)
      have L1 := Lib.hid (L0.out.trans (h.mono L0.out.size))
      go_wp2_with fail
      refine hK.out _ _ (A1.out.held) ?_
      clear hK K hHeld
      intro hHeld
      clear h A0 U0 L0 HK
      refine wpAnyH_takeD 6 20 (v := ?_) (by kernel_rfl) (by kernel_rfl) (by kernel_rfl) (by kernel_rfl) (by rfl) (fun _ _ _ h => h) ?_ hHeld ?_
      rotate_left 1
      (intro o ho W hSw; simp only [List.getElem?_toArray, List.getElem?_cons_succ, List.getElem?_cons_zero, Option.some.injEq] at ho; subst ho; (try dsimp only at hSw); go_simp; try with_reducible rfl)
      (try simp only [Act.put, List.setIfInBounds_toArray, List.set_cons_zero, List.set_cons_succ])
      refine wpAnyH_takeD 7 21 (v := ?_) (by kernel_rfl) (by kernel_rfl) (by kernel_rfl) (by kernel_rfl) (by rfl) (fun _ _ _ h => h) ?_ hHeld ?_
      rotate_left 1
      (intro o ho W hSw; simp only [List.getElem?_toArray, List.getElem?_cons_succ, List.getElem?_cons_zero, Option.some.injEq] at ho; subst ho; (try dsimp only at hSw); go_simp; try with_reducible rfl)
      (try simp only [Act.put, List.setIfInBounds_toArray, List.set_cons_zero, List.set_cons_succ])
      refine wpAnyH_done (by kernel_rfl) ?_ _
      go_wp2_with fail
      refine (quatAwake_any HC.out _).mono ?_
      rintro e w9 ⟨rfl, h⟩
      have L9 := Lib.hid (L1.out.trans (h.mono L1.out.size))
      clear h
      go_wp2
      go_ret
      exact ⟨rfl, L9.out⟩
  · clear ne
    go_enter Try.func7, Try.ntmps7
    go_wp2_with fail
    refine calls_gen (S := fun W => VW W (w.heap.size + 1) x y z ∧ Below w.heap.size w W) ⟨VW.new _ (w.heap.size + 1) x y z _ (by simp), by repeat (first | exact Below.refl _ _ | assumption | refine Below.setCell ?_ (by first | omega | (simp; done) | (simp; omega)) _ | refine Below.alloc ?_ (by first | omega | (simp; done) | (simp; omega)) _ | refine below_drewN ?_ _ | refine Below.drew ?_ | refine Below.trans ?_ (Below.mono (by assumption) (by first | omega | (simp; done) | (simp; omega))))⟩ (fun W0 hS => ?_)
    have A0 := Lib.hid hS.1
    have L0 := Lib.hid hS.2
    clear hS
    refine (X1.out _).mono ?_
    rintro e w1 ⟨rfl, h⟩
    have A1 := Lib.hid (A0.out.below h A0.out.lt)
    have L1 := Lib.hid (L0.out.trans (h.mono L0.out.size))
    clear h A0 L0 X1
    go_wp2_with fail
    refine wp_gen (S := fun W => VW W (w.heap.size + 1) x y z ∧ BW W w1.heap.size [.int .i64 a, .int .i64 b, .int .i64 c, .int .i64 d] ∧ Below w.heap.size w W) ⟨A1.out.alloc _, BW.new w1 _ [_, _, _, _] _ rfl, L1.out.alloc L1.out.size _⟩ (fun W1 hS => ?_)
    have hz : w.heap.size + 1 < w1.heap.size := A1.out.lt
    clear A1 L1
    generalize w1.heap.size = n1 at *
    have A0 := Lib.hid hS.1.drew
    have U0 := Lib.hid hS.2.1.drew
    have L0 := Lib.hid hS.2.2.drew
    clear hS
    refine wp_region_held_drew (S := fun W => (W.cell? ⟨w.heap.size + 1, 0, none⟩ = some (.int .i64 (x)) ∧ W.cell? ⟨w.heap.size + 1, 1, none⟩ = some (.int .i64 (y)) ∧ W.cell? ⟨w.heap.size + 1, 2, none⟩ = some (.int .i64 (z)))) (by kernel_rfl) A0.out.held (fun hHeld => ?_)
    refine wpAnyH_takeD 0 14 (v := ?_) (by kernel_rfl) (by kernel_rfl) (by kernel_rfl) (by kernel_rfl) (by rfl) (fun _ _ _ h => h) ?_ hHeld ?_
    rotate_left 1
    (intro o ho W hSw; simp only [List.getElem?_toArray, List.getElem?_cons_succ, List.getElem?_cons_zero, Option.some.injEq] at ho; subst ho; (try dsimp only at hSw); go_simp; try with_reducible rfl)
    (try simp only [Act.put, List.setIfInBounds_toArray, List.set_cons_zero, List.set_cons_succ])
    refine wpAnyH_takeD 1 15 (v := ?_) (by kernel_rfl) (by kernel_rfl) (by kernel_rfl) (by kernel_rfl) (by rfl) (fun _ _ _ h => h) ?_ hHeld ?_
    rotate_left 1
    (intro o ho W hSw; simp only [List.getElem?_toArray, List.getElem?_cons_succ, List.getElem?_cons_zero, Option.some.injEq] at ho; subst ho; (try dsimp only at hSw); go_simp; try with_reducible rfl)
    (try simp only [Act.put, List.setIfInBounds_toArray, List.set_cons_zero, List.set_cons_succ])
    refine wpAnyH_takeD 2 16 (v := ?_) (by kernel_rfl) (by kernel_rfl) (by kernel_rfl) (by kernel_rfl) (by rfl) (fun _ _ _ h => h) ?_ hHeld ?_
    rotate_left 1
    (intro o ho W hSw; simp only [List.getElem?_toArray, List.getElem?_cons_succ, List.getElem?_cons_zero, Option.some.injEq] at ho; subst ho; (try dsimp only at hSw); go_simp; try with_reducible rfl)
    (try simp only [Act.put, List.setIfInBounds_toArray, List.set_cons_zero, List.set_cons_succ])
    refine wpAnyH_takeD 3 17 (v := ?_) (by kernel_rfl) (by kernel_rfl) (by kernel_rfl) (by kernel_rfl) (by rfl) (fun _ _ _ h => h) ?_ hHeld ?_
    rotate_left 1
    (intro o ho W hSw; simp only [List.getElem?_toArray, List.getElem?_cons_succ, List.getElem?_cons_zero, Option.some.injEq] at ho; subst ho; (try dsimp only at hSw); go_simp; try with_reducible rfl)
    (try simp only [Act.put, List.setIfInBounds_toArray, List.set_cons_zero, List.set_cons_succ])
    refine wpAnyH_takeD 5 19 (v := ?_) (by kernel_rfl) (by kernel_rfl) (by kernel_rfl) (by kernel_rfl) (by rfl) (fun _ _ _ h => h) ?_ hHeld ?_
    rotate_left 1
    (intro o ho W hSw; simp only [List.getElem?_toArray, List.getElem?_cons_succ, List.getElem?_cons_zero, Option.some.injEq] at ho; subst ho; (try dsimp only at hSw); go_simp; try with_reducible rfl)
    (try simp only [Act.put, List.setIfInBounds_toArray, List.set_cons_zero, List.set_cons_succ])
    refine wpAnyH_onlyD 4 (by kernel_rfl) (fun o ho K hK => ?_) (by kernel_rfl)
    simp only [List.getElem?_toArray, List.getElem?_cons_succ, List.getElem?_cons_zero, Option.some.injEq] at ho
    subst ho
    go_simp
    refine (HK.out _).mono ?_
    rintro e w2 ⟨rfl, h⟩
    have A1 := Lib.hid (A0.out.below h A0.out.lt)
    have U1 := Lib.hid (U0.out.below h U0.out.lt)
    have L1 := Lib.hid (L0.out.trans (h.mono L0.out.size))
    go_wp2_with fail
    refine hK.out _ _ (A1.out.held) ?_
    clear hK K hHeld
    intro hHeld
    clear h A0 U0 L0 HK
    refine wpAnyH_takeD 6 20 (v := ?_) (by kernel_rfl) (by kernel_rfl) (by kernel_rfl) (by kernel_rfl) (by rfl) (fun _ _ _ h => h) ?_ hHeld ?_
    rotate_left 1
    (intro o ho W hSw; simp only [List.getElem?_toArray, List.getElem?_cons_succ, List.getElem?_cons_zero, Option.some.injEq] at ho; subst ho; (try dsimp only at hSw); go_simp; try with_reducible rfl)
    (try simp only [Act.put, List.setIfInBounds_toArray, List.set_cons_zero, List.set_cons_succ])
    refine wpAnyH_takeD 7 21 (v := ?_) (by kernel_rfl) (by kernel_rfl) (by kernel_rfl) (by kernel_rfl) (by rfl) (fun _ _ _ h => h) ?_ hHeld ?_
    rotate_left 1
    (intro o ho W hSw; simp only [List.getElem?_toArray, List.getElem?_cons_succ, List.getElem?_cons_zero, Option.some.injEq] at ho; subst ho; (try dsimp only at hSw); go_simp; try with_reducible rfl)
    (try simp only [Act.put, List.setIfInBounds_toArray, List.set_cons_zero, List.set_cons_succ])
    refine wpAnyH_done (by kernel_rfl) ?_ _
    go_wp2_with fail
    refine (quatAwake_any HC.out _).mono ?_
    rintro e w9 ⟨rfl, h⟩
    have L9 := Lib.hid (L1.out.trans (h.mono L1.out.size))
    clear h
    go_wp2
    go_ret
    exact ⟨rfl, L9.out⟩
set_option maxRecDepth 100000 in
set_option maxHeartbeats 8000000 in
theorem qkeeps_near (C : QuatC) (qw qx qy qz x y z a b c d w1 w2 w3 m1 m2 D : Int) (w : World) (X1 : Hid (∀ W : World, Calls Try.prog 24 #[.agg #[.int .i64 qw, .int .i64 qx, .int .i64 qy, .int .i64 qz]] W fun e w' => e = .returned (.tuple #[.agg #[.int .i64 a, .int .i64 b, .int .i64 c, .int .i64 d], .bool true]) ∧ Below W.heap.size W w'))
    (HK : Hid (∀ W : World, Calls Try.prog 25 #[.agg #[.int .i64 x, .int .i64 y, .int .i64 z], .int .i64 4398046511104] W fun e w' => e = .returned (.agg #[.int .i64 x, .int .i64 y, .int .i64 z]) ∧ Below W.heap.size W w')) (K : KeepC a b c d x y z w1 w2 w3 m1 m2 D) :
    Calls Try.prog 7 #[.agg #[.int .i64 qw, .int .i64 qx, .int .i64 qy, .int .i64 qz], .agg #[.int .i64 x, .int .i64 y, .int .i64 z]] w fun e w' => e = .returned (.bool true) ∧ Below w.heap.size w w' := by
  have HC := Lib.hid C
  have lt := K.lt
  have Y1 := Lib.hid K.mat
  have Y2 := Lib.hid K.app
  have Y3 := Lib.hid K.len1
  have Y4 := Lib.hid K.len2
  have Y5 := Lib.hid K.sub
  have Y6 := Lib.hid K.abs
  generalize subF m1 m2 = E at *
  generalize diagF c d = g1 at *
  generalize offF b c a d = g2 at *
  generalize onF b d a c = g3 at *
  generalize onF b c a d = g4 at *
  generalize diagF b d = g5 at *
  generalize offF c d a b = g6 at *
  generalize offF b d a c = g7 at *
  generalize onF c d a b = g8 at *
  generalize diagF b c = g9 at *
  clear C K
  go_enter Try.func7, Try.ntmps7
  go_wp2_with fail
  refine calls_gen (S := fun W => VW W (w.heap.size + 1) x y z ∧ Below w.heap.size w W) ⟨VW.new _ (w.heap.size + 1) x y z _ (by simp), by repeat (first | exact Below.refl _ _ | assumption | refine Below.setCell ?_ (by first | omega | (simp; done) | (simp; omega)) _ | refine Below.alloc ?_ (by first | omega | (simp; done) | (simp; omega)) _ | refine below_drewN ?_ _ | refine Below.drew ?_ | refine Below.trans ?_ (Below.mono (by assumption) (by first | omega | (simp; done) | (simp; omega))))⟩ (fun W0 hS => ?_)
  have A0 := Lib.hid hS.1
  have L0 := Lib.hid hS.2
  clear hS
  refine (X1.out _).mono ?_
  rintro e w1 ⟨rfl, h⟩
  have A1 := Lib.hid (A0.out.below h A0.out.lt)
  have L1 := Lib.hid (L0.out.trans (h.mono L0.out.size))
  clear h A0 L0 X1
  go_wp2_with fail
  refine wp_gen (S := fun W => VW W (w.heap.size + 1) x y z ∧ BW W w1.heap.size [.int .i64 a, .int .i64 b, .int .i64 c, .int .i64 d] ∧ Below w.heap.size w W) ⟨A1.out.alloc _, BW.new w1 _ [_, _, _, _] _ rfl, L1.out.alloc L1.out.size _⟩ (fun W1 hS => ?_)
  have hz : w.heap.size + 1 < w1.heap.size := A1.out.lt
  clear A1 L1
  generalize w1.heap.size = n1 at *
  have A0 := Lib.hid hS.1.drew
  have U0 := Lib.hid hS.2.1.drew
  have L0 := Lib.hid hS.2.2.drew
  clear hS
  refine wp_region_held_drew (S := fun W => (W.cell? ⟨w.heap.size + 1, 0, none⟩ = some (.int .i64 (x)) ∧ W.cell? ⟨w.heap.size + 1, 1, none⟩ = some (.int .i64 (y)) ∧ W.cell? ⟨w.heap.size + 1, 2, none⟩ = some (.int .i64 (z)))) (by kernel_rfl) A0.out.held (fun hHeld => ?_)
  refine wpAnyH_takeD 0 14 (v := ?_) (by kernel_rfl) (by kernel_rfl) (by kernel_rfl) (by kernel_rfl) (by rfl) (fun _ _ _ h => h) ?_ hHeld ?_
  rotate_left 1
  (intro o ho W hSw; simp only [List.getElem?_toArray, List.getElem?_cons_succ, List.getElem?_cons_zero, Option.some.injEq] at ho; subst ho; (try dsimp only at hSw); go_simp; try with_reducible rfl)
  (try simp only [Act.put, List.setIfInBounds_toArray, List.set_cons_zero, List.set_cons_succ])
  refine wpAnyH_takeD 1 15 (v := ?_) (by kernel_rfl) (by kernel_rfl) (by kernel_rfl) (by kernel_rfl) (by rfl) (fun _ _ _ h => h) ?_ hHeld ?_
  rotate_left 1
  (intro o ho W hSw; simp only [List.getElem?_toArray, List.getElem?_cons_succ, List.getElem?_cons_zero, Option.some.injEq] at ho; subst ho; (try dsimp only at hSw); go_simp; try with_reducible rfl)
  (try simp only [Act.put, List.setIfInBounds_toArray, List.set_cons_zero, List.set_cons_succ])
  refine wpAnyH_takeD 2 16 (v := ?_) (by kernel_rfl) (by kernel_rfl) (by kernel_rfl) (by kernel_rfl) (by rfl) (fun _ _ _ h => h) ?_ hHeld ?_
  rotate_left 1
  (intro o ho W hSw; simp only [List.getElem?_toArray, List.getElem?_cons_succ, List.getElem?_cons_zero, Option.some.injEq] at ho; subst ho; (try dsimp only at hSw); go_simp; try with_reducible rfl)
  (try simp only [Act.put, List.setIfInBounds_toArray, List.set_cons_zero, List.set_cons_succ])
  refine wpAnyH_takeD 3 17 (v := ?_) (by kernel_rfl) (by kernel_rfl) (by kernel_rfl) (by kernel_rfl) (by rfl) (fun _ _ _ h => h) ?_ hHeld ?_
  rotate_left 1
  (intro o ho W hSw; simp only [List.getElem?_toArray, List.getElem?_cons_succ, List.getElem?_cons_zero, Option.some.injEq] at ho; subst ho; (try dsimp only at hSw); go_simp; try with_reducible rfl)
  (try simp only [Act.put, List.setIfInBounds_toArray, List.set_cons_zero, List.set_cons_succ])
  refine wpAnyH_takeD 5 19 (v := ?_) (by kernel_rfl) (by kernel_rfl) (by kernel_rfl) (by kernel_rfl) (by rfl) (fun _ _ _ h => h) ?_ hHeld ?_
  rotate_left 1
  (intro o ho W hSw; simp only [List.getElem?_toArray, List.getElem?_cons_succ, List.getElem?_cons_zero, Option.some.injEq] at ho; subst ho; (try dsimp only at hSw); go_simp; try with_reducible rfl)
  (try simp only [Act.put, List.setIfInBounds_toArray, List.set_cons_zero, List.set_cons_succ])
  refine wpAnyH_onlyD 4 (by kernel_rfl) (fun o ho K hK => ?_) (by kernel_rfl)
  simp only [List.getElem?_toArray, List.getElem?_cons_succ, List.getElem?_cons_zero, Option.some.injEq] at ho
  subst ho
  go_simp
  refine (HK.out _).mono ?_
  rintro e w2 ⟨rfl, h⟩
  have A1 := Lib.hid (A0.out.below h A0.out.lt)
  have U1 := Lib.hid (U0.out.below h U0.out.lt)
  have L1 := Lib.hid (L0.out.trans (h.mono L0.out.size))
  go_wp2_with fail
  refine hK.out _ _ (A1.out.held) ?_
  clear hK K hHeld
  intro hHeld
  clear h A0 U0 L0 HK
  refine wpAnyH_takeD 6 20 (v := ?_) (by kernel_rfl) (by kernel_rfl) (by kernel_rfl) (by kernel_rfl) (by rfl) (fun _ _ _ h => h) ?_ hHeld ?_
  rotate_left 1
  (intro o ho W hSw; simp only [List.getElem?_toArray, List.getElem?_cons_succ, List.getElem?_cons_zero, Option.some.injEq] at ho; subst ho; (try dsimp only at hSw); go_simp; try with_reducible rfl)
  (try simp only [Act.put, List.setIfInBounds_toArray, List.set_cons_zero, List.set_cons_succ])
  refine wpAnyH_takeD 7 21 (v := ?_) (by kernel_rfl) (by kernel_rfl) (by kernel_rfl) (by kernel_rfl) (by rfl) (fun _ _ _ h => h) ?_ hHeld ?_
  rotate_left 1
  (intro o ho W hSw; simp only [List.getElem?_toArray, List.getElem?_cons_succ, List.getElem?_cons_zero, Option.some.injEq] at ho; subst ho; (try dsimp only at hSw); go_simp; try with_reducible rfl)
  (try simp only [Act.put, List.setIfInBounds_toArray, List.set_cons_zero, List.set_cons_succ])
  refine wpAnyH_done (by kernel_rfl) ?_ _
  go_wp2_with fail
  refine wp_gen (S := fun W => VW W (w.heap.size + 1) x y z ∧ BW W n1 [.int .i64 a, .int .i64 b, .int .i64 c, .int .i64 d] ∧ Own w W w2.heap.size false) ⟨A1.out.alloc _, U1.out.alloc _, Own.new L1.out _⟩ (fun W2 hS => ?_)
  have hz2 : n1 < w2.heap.size := U1.out.lt
  clear A1 U1 L1
  generalize w2.heap.size = n2 at *
  have A0 := Lib.hid hS.1.drew
  have U0 := Lib.hid hS.2.1.drew
  have T0 := Lib.hid hS.2.2.drew
  clear hS hHeld
  refine wp_region_held_drew (S := fun W => (W.cell? ⟨w.heap.size + 1, 0, none⟩ = some (.int .i64 (x)) ∧ W.cell? ⟨w.heap.size + 1, 1, none⟩ = some (.int .i64 (y)) ∧ W.cell? ⟨w.heap.size + 1, 2, none⟩ = some (.int .i64 (z))) ∧ (W.cell? ⟨n1, 0, none⟩ = some (.int .i64 a) ∧ W.cell? ⟨n1, 1, none⟩ = some (.int .i64 b) ∧ W.cell? ⟨n1, 2, none⟩ = some (.int .i64 c) ∧ W.cell? ⟨n1, 3, none⟩ = some (.int .i64 d))) (by kernel_rfl) ⟨A0.out.held, U0.out.h4⟩ (fun hHeld => ?_)
  refine wpAnyH_takeD 0 25 (v := ?_) (by kernel_rfl) (by kernel_rfl) (by kernel_rfl) (by kernel_rfl) (by rfl) (fun _ _ _ h => h) ?_ hHeld ?_
  rotate_left 1
  (intro o ho W hSw; simp only [List.getElem?_toArray, List.getElem?_cons_succ, List.getElem?_cons_zero, Option.some.injEq] at ho; subst ho; (try dsimp only at hSw); go_simp; try with_reducible rfl)
  (try simp only [Act.put, List.setIfInBounds_toArray, List.set_cons_zero, List.set_cons_succ])
  refine wpAnyH_takeD 1 26 (v := ?_) (by kernel_rfl) (by kernel_rfl) (by kernel_rfl) (by kernel_rfl) (by rfl) (fun _ _ _ h => h) ?_ hHeld ?_
  rotate_left 1
  (intro o ho W hSw; simp only [List.getElem?_toArray, List.getElem?_cons_succ, List.getElem?_cons_zero, Option.some.injEq] at ho; subst ho; (try dsimp only at hSw); go_simp; try with_reducible rfl)
  (try simp only [Act.put, List.setIfInBounds_toArray, List.set_cons_zero, List.set_cons_succ])
  refine wpAnyH_takeD 2 27 (v := ?_) (by kernel_rfl) (by kernel_rfl) (by kernel_rfl) (by kernel_rfl) (by rfl) (fun _ _ _ h => h) ?_ hHeld ?_
  rotate_left 1
  (intro o ho W hSw; simp only [List.getElem?_toArray, List.getElem?_cons_succ, List.getElem?_cons_zero, Option.some.injEq] at ho; subst ho; (try dsimp only at hSw); go_simp; try with_reducible rfl)
  (try simp only [Act.put, List.setIfInBounds_toArray, List.set_cons_zero, List.set_cons_succ])
  refine wpAnyH_takeD 3 28 (v := ?_) (by kernel_rfl) (by kernel_rfl) (by kernel_rfl) (by kernel_rfl) (by rfl) (fun _ _ _ h => h) ?_ hHeld ?_
  rotate_left 1
  (intro o ho W hSw; simp only [List.getElem?_toArray, List.getElem?_cons_succ, List.getElem?_cons_zero, Option.some.injEq] at ho; subst ho; (try dsimp only at hSw); go_simp; try with_reducible rfl)
  (try simp only [Act.put, List.setIfInBounds_toArray, List.set_cons_zero, List.set_cons_succ])
  refine wpAnyH_takeD 4 29 (v := ?_) (by kernel_rfl) (by kernel_rfl) (by kernel_rfl) (by kernel_rfl) (by rfl) (fun _ _ _ h => h) ?_ hHeld ?_
  rotate_left 1
  (intro o ho W hSw; simp only [List.getElem?_toArray, List.getElem?_cons_succ, List.getElem?_cons_zero, Option.some.injEq] at ho; subst ho; (try dsimp only at hSw); go_simp; try with_reducible rfl)
  (try simp only [Act.put, List.setIfInBounds_toArray, List.set_cons_zero, List.set_cons_succ])
  refine wpAnyH_takeD 6 31 (v := ?_) (by kernel_rfl) (by kernel_rfl) (by kernel_rfl) (by kernel_rfl) (by rfl) (fun _ _ _ h => h) ?_ hHeld ?_
  rotate_left 1
  (intro o ho W hSw; simp only [List.getElem?_toArray, List.getElem?_cons_succ, List.getElem?_cons_zero, Option.some.injEq] at ho; subst ho; (try dsimp only at hSw); go_simp; try with_reducible rfl)
  (try simp only [Act.put, List.setIfInBounds_toArray, List.set_cons_zero, List.set_cons_succ])
  refine wpAnyH_takeD 9 34 (v := ?_) (by kernel_rfl) (by kernel_rfl) (by kernel_rfl) (by kernel_rfl) (by rfl) (fun _ _ _ h => h) ?_ hHeld ?_
  rotate_left 1
  (intro o ho W hSw; simp only [List.getElem?_toArray, List.getElem?_cons_succ, List.getElem?_cons_zero, Option.some.injEq] at ho; subst ho; (try dsimp only at hSw); go_simp; try with_reducible rfl)
  (try simp only [Act.put, List.setIfInBounds_toArray, List.set_cons_zero, List.set_cons_succ])
  refine wpAnyH_takeD 10 35 (v := ?_) (by kernel_rfl) (by kernel_rfl) (by kernel_rfl) (by kernel_rfl) (by rfl) (fun _ _ _ h => h) ?_ hHeld ?_
  rotate_left 1
  (intro o ho W hSw; simp only [List.getElem?_toArray, List.getElem?_cons_succ, List.getElem?_cons_zero, Option.some.injEq] at ho; subst ho; (try dsimp only at hSw); go_simp; try with_reducible rfl)
  (try simp only [Act.put, List.setIfInBounds_toArray, List.set_cons_zero, List.set_cons_succ])
  refine wpAnyH_onlyD 5 (by kernel_rfl) (fun o ho K hK => ?_) (by kernel_rfl)
  simp only [List.getElem?_toArray, List.getElem?_cons_succ, List.getElem?_cons_zero, Option.some.injEq] at ho
  subst ho
  go_simp
  refine (Y1.out _ _ T0.out.a).mono ?_
  rintro e w1 ⟨rfl, h⟩
  have T1 := Lib.hid (T0.out.fst h)
  have A1 := Lib.hid (A0.out.fx h (by omega))
  (try have B1 := Lib.hid (B0.out.fx h (by omega)))
  (try have U1 := Lib.hid (U0.out.fx h (by omega)))
  (try have V1 := Lib.hid (V0.out.fx h (by omega)))
  go_wp2_with fail
  refine hK.out _ _ (⟨A1.out.held, U1.out.h4⟩) ?_
  clear hK K hHeld
  intro hHeld
  clear h T0 A0
  (try clear B0)
  (try clear U0)
  (try clear V0)
  refine wpAnyH_onlyD 7 (by kernel_rfl) (fun o ho K hK => ?_) (by kernel_rfl)
  simp only [List.getElem?_toArray, List.getElem?_cons_succ, List.getElem?_cons_zero, Option.some.injEq] at ho
  subst ho
  go_simp
  refine (Y2.out _ _ T1.out.a).mono ?_
  rintro e w2 ⟨rfl, h⟩
  have T2 := Lib.hid (T1.out.fst h)
  have A2 := Lib.hid (A1.out.fx h (by omega))
  (try have B2 := Lib.hid (B1.out.fx h (by omega)))
  (try have U2 := Lib.hid (U1.out.fx h (by omega)))
  (try have V2 := Lib.hid (V1.out.fx h (by omega)))
  go_wp2_with fail
  refine hK.out _ _ (⟨A2.out.held, U2.out.h4⟩) ?_
  clear hK K hHeld
  intro hHeld
  clear h T1 A1
  (try clear B1)
  (try clear U1)
  (try clear V1)
  refine wpAnyH_onlyD 8 (by kernel_rfl) (fun o ho K hK => ?_) (by kernel_rfl)
  simp only [List.getElem?_toArray, List.getElem?_cons_succ, List.getElem?_cons_zero, Option.some.injEq] at ho
  subst ho
  go_simp
  refine (Y3.out _ _ T2.out.a).mono ?_
  rintro e w3 ⟨rfl, h⟩
  have T3 := Lib.hid (T2.out.fst h)
  have A3 := Lib.hid (A2.out.fx h (by omega))
  (try have B3 := Lib.hid (B2.out.fx h (by omega)))
  (try have U3 := Lib.hid (U2.out.fx h (by omega)))
  (try have V3 := Lib.hid (V2.out.fx h (by omega)))
  go_wp2_with fail
  refine hK.out _ _ (⟨A3.out.held, U3.out.h4⟩) ?_
  clear hK K hHeld
  intro hHeld
  clear h T2 A2
  (try clear B2)
  (try clear U2)
  (try clear V2)
  refine wpAnyH_onlyD 11 (by kernel_rfl) (fun o ho K hK => ?_) (by kernel_rfl)
  simp only [List.getElem?_toArray, List.getElem?_cons_succ, List.getElem?_cons_zero, Option.some.injEq] at ho
  subst ho
  go_simp
  refine (Y4.out _ _ T3.out.a).mono ?_
  rintro e w4 ⟨rfl, h⟩
  have T4 := Lib.hid (T3.out.fst h)
  have A4 := Lib.hid (A3.out.fx h (by omega))
  (try have B4 := Lib.hid (B3.out.fx h (by omega)))
  (try have U4 := Lib.hid (U3.out.fx h (by omega)))
  (try have V4 := Lib.hid (V3.out.fx h (by omega)))
  go_wp2_with fail
  refine hK.out _ _ (⟨A4.out.held, U4.out.h4⟩) ?_
  clear hK K hHeld
  intro hHeld
  clear h T3 A3
  (try clear B3)
  (try clear U3)
  (try clear V3)
  refine wpAnyH_onlyD 12 (by kernel_rfl) (fun o ho K hK => ?_) (by kernel_rfl)
  simp only [List.getElem?_toArray, List.getElem?_cons_succ, List.getElem?_cons_zero, Option.some.injEq] at ho
  subst ho
  go_simp
  refine (Y5.out _ _ T4.out.a).mono ?_
  rintro e w5 ⟨rfl, h⟩
  have T5 := Lib.hid (T4.out.fst h)
  have A5 := Lib.hid (A4.out.fx h (by omega))
  (try have B5 := Lib.hid (B4.out.fx h (by omega)))
  (try have U5 := Lib.hid (U4.out.fx h (by omega)))
  (try have V5 := Lib.hid (V4.out.fx h (by omega)))
  go_wp2_with fail
  refine hK.out _ _ (⟨A5.out.held, U5.out.h4⟩) ?_
  clear hK K hHeld
  intro hHeld
  clear h T4 A4
  (try clear B4)
  (try clear U4)
  (try clear V4)
  refine wpAnyH_takeD 13 8 (v := ?_) (by kernel_rfl) (by kernel_rfl) (by kernel_rfl) (by kernel_rfl) (by rfl) (fun _ _ _ h => h) ?_ hHeld ?_
  rotate_left 1
  (intro o ho W hSw; simp only [List.getElem?_toArray, List.getElem?_cons_succ, List.getElem?_cons_zero, Option.some.injEq] at ho; subst ho; (try dsimp only at hSw); go_simp; try with_reducible rfl)
  (try simp only [Act.put, List.setIfInBounds_toArray, List.set_cons_zero, List.set_cons_succ])
  refine wpAnyH_done (by kernel_rfl) ?_ _
  have fc := T5.out.a.c
  go_wp2_with fail
  refine (Y6.out _ _ T5.out.a).mono ?_
  rintro e w6 ⟨rfl, h⟩
  have L6 := Lib.hid (T5.out.fst h).bl
  clear h
  go_wp2_with fail
  refine (quatAwake_any HC.out _).mono ?_
  rintro e w9 ⟨rfl, h⟩
  have L9 := Lib.hid (L6.out.trans (h.mono L6.out.size))
  clear h
  go_wp2
  go_ret
  exact ⟨rfl, L9.out⟩
theorem qkeeps_walk (C : QuatC) (qw qx qy qz x y z : Int) (w : World) (hq : In4 qw qx qy qz) (hv : In3 x y z) :
    Calls Try.prog 7 #[.agg #[.int .i64 qw, .int .i64 qx, .int .i64 qy, .int .i64 qz], .agg #[.int .i64 x, .int .i64 y, .int .i64 z]] w fun e w' => e = .returned (.bool true) ∧ Below w.heap.size w w' := by
  by_cases h : OkQ qw qx qy qz
  · obtain ⟨n, hn⟩ : ∃ n, lenF (qw * qw + qx * qx + qy * qy + qz * qz) = n := ⟨_, rfl⟩
    have X1 := Lib.hid (fun (W : World) => qunitLaw_yes C qw qx qy qz n W hq hn h)
    have t := okQ_att hq.a hn h
    have iu : In4 (uW qw n) (uX qx n) (uX qy n) (uX qz n) := ⟨uW_in _ _, uX_in _ _, uX_in _ _, uX_in _ _⟩
    have HK := Lib.hid (fun (W : World) => VClamp_any x y z 4398046511104 W (by omega) (by omega))
    by_cases v : V42 x ∧ V42 y ∧ V42 z
    · rw [clamp42 v.1, clamp42 v.2.1, clamp42 v.2.2] at HK
      obtain ⟨w1, w2, w3, n1, n2, D, K⟩ := keepC C iu hv t v.1 v.2.1 v.2.2
      exact qkeeps_near C qw qx qy qz x y z _ _ _ _ _ _ _ _ _ _ w X1 HK K
    · refine qkeeps_far C qw qx qy qz x y z _ _ _ _ w X1 _ _ _ HK (fun k => v ?_)
      refine ⟨?_, ?_, ?_⟩
      · apply Classical.byContradiction; intro q; exact clamp42' q k.1
      · apply Classical.byContradiction; intro q; exact clamp42' q k.2.1
      · apply Classical.byContradiction; intro q; exact clamp42' q k.2.2
  · exact qkeeps_no C qw qx qy qz x y z w hq h
end Go.Proofs.Ytldcmiomfahaoaa
