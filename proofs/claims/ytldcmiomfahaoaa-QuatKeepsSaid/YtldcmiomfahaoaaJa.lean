/- Vectors in memory; contracts of the document's vec. -/
import Derived.Test.YtldcmiomfahaoaaBy
import Derived.Test.YtldcmiomfahaoaaBz
import Derived.Test.YtldcmiomfahaoaaBk
import Derived.Test.YtldcmiomfahaoaaJb
namespace Go.Proofs.Ytldcmiomfahaoaa
open Go.RowKit
set_option linter.unusedVariables false
set_option linter.unusedSimpArgs false

/-- a vector lies in the three cells of block n, which may be written -/
structure VW (W : World) (n : Nat) (x y z : Int) : Prop where
  c0 : W.cell? ⟨n, 0, none⟩ = some (.int .i64 x)
  c1 : W.cell? ⟨n, 1, none⟩ = some (.int .i64 y)
  c2 : W.cell? ⟨n, 2, none⟩ = some (.int .i64 z)
  f : ∀ j, W.frozen? ⟨n, j, none⟩ = false
  lt : n < W.heap.size
theorem VW.new (w : World) (n : Nat) (x y z : Int) (t : TypeId) (e : n = w.heap.size) : VW (w.alloc (.cells #[.int .i64 x, .int .i64 y, .int .i64 z] t)) n x y z := by
  subst e
  exact ⟨World.cell?_alloc_new w _ t 0, World.cell?_alloc_new w _ t 1, World.cell?_alloc_new w _ t 2, fun j => by go_simp, by simp⟩
theorem VW.below {B : Nat} {w w' : World} {n : Nat} {x y z : Int} (k : VW w n x y z) (h : Below B w w') (hn : n < B) : VW w' n x y z :=
  ⟨(h.cell (p := ⟨n, 0, none⟩) hn).trans k.c0, (h.cell (p := ⟨n, 1, none⟩) hn).trans k.c1, (h.cell (p := ⟨n, 2, none⟩) hn).trans k.c2, fun j => (h.frozen (p := ⟨n, j, none⟩) hn).trans (k.f j), by have := h.size; have := k.lt; omega⟩
theorem VW.alloc {w : World} {n : Nat} {x y z : Int} (k : VW w n x y z) (o : Obj) : VW (w.alloc o) n x y z := k.below ((Below.refl w.heap.size w).alloc (Nat.le_refl _) o) k.lt
theorem VW.drew {w : World} {n : Nat} {x y z : Int} (k : VW w n x y z) : VW w.drew n x y z := ⟨k.c0, k.c1, k.c2, k.f, k.lt⟩
theorem VW.fx {W W' : World} {n b j : Nat} {q : Bool} {x y z : Int} (k : VW W n x y z) (h : FxW W.heap.size W b j q W') (e : b ≠ n) : VW W' n x y z :=
  ⟨(h.cell k.lt e).trans k.c0, (h.cell k.lt e).trans k.c1, (h.cell k.lt e).trans k.c2, fun i => (h.frozen k.lt).trans (k.f i), by have := h.size; have := k.lt; omega⟩
theorem VW.held {W : World} {n : Nat} {x y z : Int} (k : VW W n x y z) : (W.cell? ⟨n, 0, none⟩ = some (.int .i64 (x)) ∧ W.cell? ⟨n, 1, none⟩ = some (.int .i64 (y)) ∧ W.cell? ⟨n, 2, none⟩ = some (.int .i64 (z))) := ⟨k.c0, k.c1, k.c2⟩
/-- a vector whose parts fit -/
structure In3 (x y z : Int) : Prop where
  x0 : -9223372036854775808 ≤ x
  x1 : x ≤ 9223372036854775807
  y0 : -9223372036854775808 ≤ y
  y1 : y ≤ 9223372036854775807
  z0 : -9223372036854775808 ≤ z
  z1 : z ≤ 9223372036854775807

/-- the state of a walk that reckons by a receiver: what lies below the old size is as it was but for the flag -/
structure Flag (w W : World) (b k : Nat) (o : Bool) : Prop where
  m : MAt W b k o
  f : FxW w.heap.size w b k o W
  lt : b < w.heap.size
theorem Flag.start {w W : World} {b k : Nat} {o : Bool} (m : MAt w b k o) (h : Below w.heap.size w W) : Flag w W b k o :=
  ⟨m.below h m.lt, (FxW.refl m).then h (Nat.le_refl _), m.lt⟩
theorem Flag.fx {w W W' : World} {b k : Nat} {o q : Bool} (t : Flag w W b k o) (h : FxW W.heap.size W b k q W') : Flag w W' b k q :=
  ⟨h.at t.m t.m.lt, t.f.trans (h.mono t.f.size), t.lt⟩
theorem Flag.more {w W W' : World} {b k : Nat} {o : Bool} (t : Flag w W b k o) (h : Below W.heap.size W W') : Flag w W' b k o :=
  ⟨t.m.below h t.m.lt, t.f.then h t.f.size, t.lt⟩

theorem VW.far {W : World} {n r : Nat} {x y z : Int} (k : VW W n x y z) (e : r ≠ n) (i : Nat) (v : Value) : VW (W.setCell ⟨r, i, none⟩ v) n x y z := by
  have a : ∀ j, (⟨r, i, none⟩ : Addr) ≠ ⟨n, j, none⟩ := fun j h => e (congrArg Addr.block h)
  exact ⟨(World.cell?_setCell_other _ _ _ _ (a 0)).trans k.c0, (World.cell?_setCell_other _ _ _ _ (a 1)).trans k.c1, (World.cell?_setCell_other _ _ _ _ (a 2)).trans k.c2, fun j => (World.frozen?_setCell _ _ _ _).trans (k.f j), by rw [set_size]; exact k.lt⟩
theorem Flag.put3 {w W : World} {b k : Nat} {o : Bool} (t : Flag w W b k o) {r : Nat} (h : w.heap.size ≤ r) (u v z : Value) :
    FxW w.heap.size w b k o (((W.setCell ⟨r, 0, none⟩ u).setCell ⟨r, 1, none⟩ v).setCell ⟨r, 2, none⟩ z) :=
  t.f.then ((((Below.refl w.heap.size W).setCell (p := ⟨r, 0, none⟩) h u).setCell (p := ⟨r, 1, none⟩) h v).setCell (p := ⟨r, 2, none⟩) h z) (Nat.le_refl _)

set_option maxRecDepth 100000 in
set_option maxHeartbeats 4000000 in
theorem rVDot_any (a1 a2 a3 b1 b2 b3 : Int) (b k : Nat) (o : Bool) (w : World) (ha : In3 a1 a2 a3) (hb : In3 b1 b2 b3) (m : MAt w b k o) :
    Calls Try.prog 42 #[.pointer (some ⟨b, k, none⟩), .agg #[.int .i64 a1, .int .i64 a2, .int .i64 a3], .agg #[.int .i64 b1, .int .i64 b2, .int .i64 b3]] w fun e w' => e = .returned (.int .i64 (dotF a1 a2 a3 b1 b2 b3)) ∧ FxW w.heap.size w b k (o || mulO a1 b1 || mulO a2 b2 || addO (mulF a1 b1) (mulF a2 b2) || mulO a3 b3 || addO (addF (mulF a1 b1) (mulF a2 b2)) (mulF a3 b3)) w' := by
  have HA := Lib.hid ha
  have HB := Lib.hid hb
  clear ha hb
  go_enter Try.func42, Try.ntmps42
  go_wp2_with fail
  have A0 := Lib.hid ((VW.new w w.heap.size a1 a2 a3 38 rfl).alloc (.cells #[.int .i64 b1, .int .i64 b2, .int .i64 b3] 38))
  have B0 := Lib.hid (VW.new (w.alloc (.cells #[.int .i64 a1, .int .i64 a2, .int .i64 a3] 38)) (w.heap.size + 1) b1 b2 b3 38 (by simp))
  have L0 : Below w.heap.size w ((w.alloc (.cells #[.int .i64 a1, .int .i64 a2, .int .i64 a3] 38)).alloc (.cells #[.int .i64 b1, .int .i64 b2, .int .i64 b3] 38)) := by repeat (first | exact Below.refl _ _ | assumption | refine Below.setCell ?_ (by first | omega | (simp; done) | (simp; omega)) _ | refine Below.alloc ?_ (by first | omega | (simp; done) | (simp; omega)) _ | refine below_drewN ?_ _ | refine Below.drew ?_ | refine Below.trans ?_ (Below.mono (by assumption) (by first | omega | (simp; done) | (simp; omega))))
  generalize (w.alloc (.cells #[.int .i64 a1, .int .i64 a2, .int .i64 a3] 38)).alloc (.cells #[.int .i64 b1, .int .i64 b2, .int .i64 b3] 38) = W0 at *
  have G0 := Lib.hid ((Flag.start m L0).more ((Below.refl _ _).drew))
  have A0 := Lib.hid A0.out.drew
  have B0 := Lib.hid B0.out.drew
  (try have R0 := Lib.hid R0.out.drew)
  clear L0 m
  refine wp_region_held_drew (S := fun W => (W.cell? ⟨w.heap.size, 0, none⟩ = some (.int .i64 (a1)) ∧ W.cell? ⟨w.heap.size, 1, none⟩ = some (.int .i64 (a2)) ∧ W.cell? ⟨w.heap.size, 2, none⟩ = some (.int .i64 (a3))) ∧ (W.cell? ⟨w.heap.size + 1, 0, none⟩ = some (.int .i64 (b1)) ∧ W.cell? ⟨w.heap.size + 1, 1, none⟩ = some (.int .i64 (b2)) ∧ W.cell? ⟨w.heap.size + 1, 2, none⟩ = some (.int .i64 (b3)))) (by kernel_rfl) ⟨A0.out.held, B0.out.held⟩ (fun hHeld => ?_)
  refine wpAnyH_takeD 0 7 (v := ?_) (by kernel_rfl) (by kernel_rfl) (by kernel_rfl) (by kernel_rfl) (by rfl) (fun _ _ _ h => h) ?_ hHeld ?_
  rotate_left 1
  (intro o ho W hSw; simp only [List.getElem?_toArray, List.getElem?_cons_succ, List.getElem?_cons_zero, Option.some.injEq] at ho; subst ho; (try dsimp only at hSw); go_simp; try with_reducible rfl)
  (try simp only [Act.put, List.setIfInBounds_toArray, List.set_cons_zero, List.set_cons_succ])
  refine wpAnyH_takeD 1 8 (v := ?_) (by kernel_rfl) (by kernel_rfl) (by kernel_rfl) (by kernel_rfl) (by rfl) (fun _ _ _ h => h) ?_ hHeld ?_
  rotate_left 1
  (intro o ho W hSw; simp only [List.getElem?_toArray, List.getElem?_cons_succ, List.getElem?_cons_zero, Option.some.injEq] at ho; subst ho; (try dsimp only at hSw); go_simp; try with_reducible rfl)
  (try simp only [Act.put, List.setIfInBounds_toArray, List.set_cons_zero, List.set_cons_succ])
  refine wpAnyH_takeD 2 9 (v := ?_) (by kernel_rfl) (by kernel_rfl) (by kernel_rfl) (by kernel_rfl) (by rfl) (fun _ _ _ h => h) ?_ hHeld ?_
  rotate_left 1
  (intro o ho W hSw; simp only [List.getElem?_toArray, List.getElem?_cons_succ, List.getElem?_cons_zero, Option.some.injEq] at ho; subst ho; (try dsimp only at hSw); go_simp; try with_reducible rfl)
  (try simp only [Act.put, List.setIfInBounds_toArray, List.set_cons_zero, List.set_cons_succ])
  refine wpAnyH_takeD 3 10 (v := ?_) (by kernel_rfl) (by kernel_rfl) (by kernel_rfl) (by kernel_rfl) (by rfl) (fun _ _ _ h => h) ?_ hHeld ?_
  rotate_left 1
  (intro o ho W hSw; simp only [List.getElem?_toArray, List.getElem?_cons_succ, List.getElem?_cons_zero, Option.some.injEq] at ho; subst ho; (try dsimp only at hSw); go_simp; try with_reducible rfl)
  (try simp only [Act.put, List.setIfInBounds_toArray, List.set_cons_zero, List.set_cons_succ])
  refine wpAnyH_takeD 4 11 (v := ?_) (by kernel_rfl) (by kernel_rfl) (by kernel_rfl) (by kernel_rfl) (by rfl) (fun _ _ _ h => h) ?_ hHeld ?_
  rotate_left 1
  (intro o ho W hSw; simp only [List.getElem?_toArray, List.getElem?_cons_succ, List.getElem?_cons_zero, Option.some.injEq] at ho; subst ho; (try dsimp only at hSw); go_simp; try with_reducible rfl)
  (try simp only [Act.put, List.setIfInBounds_toArray, List.set_cons_zero, List.set_cons_succ])
  refine wpAnyH_takeD 5 12 (v := ?_) (by kernel_rfl) (by kernel_rfl) (by kernel_rfl) (by kernel_rfl) (by rfl) (fun _ _ _ h => h) ?_ hHeld ?_
  rotate_left 1
  (intro o ho W hSw; simp only [List.getElem?_toArray, List.getElem?_cons_succ, List.getElem?_cons_zero, Option.some.injEq] at ho; subst ho; (try dsimp only at hSw); go_simp; try with_reducible rfl)
  (try simp only [Act.put, List.setIfInBounds_toArray, List.set_cons_zero, List.set_cons_succ])
  refine wpAnyH_takeD 6 13 (v := ?_) (by kernel_rfl) (by kernel_rfl) (by kernel_rfl) (by kernel_rfl) (by rfl) (fun _ _ _ h => h) ?_ hHeld ?_
  rotate_left 1
  (intro o ho W hSw; simp only [List.getElem?_toArray, List.getElem?_cons_succ, List.getElem?_cons_zero, Option.some.injEq] at ho; subst ho; (try dsimp only at hSw); go_simp; try with_reducible rfl)
  (try simp only [Act.put, List.setIfInBounds_toArray, List.set_cons_zero, List.set_cons_succ])
  refine wpAnyH_takeD 8 15 (v := ?_) (by kernel_rfl) (by kernel_rfl) (by kernel_rfl) (by kernel_rfl) (by rfl) (fun _ _ _ h => h) ?_ hHeld ?_
  rotate_left 1
  (intro o ho W hSw; simp only [List.getElem?_toArray, List.getElem?_cons_succ, List.getElem?_cons_zero, Option.some.injEq] at ho; subst ho; (try dsimp only at hSw); go_simp; try with_reducible rfl)
  (try simp only [Act.put, List.setIfInBounds_toArray, List.set_cons_zero, List.set_cons_succ])
  refine wpAnyH_takeD 9 16 (v := ?_) (by kernel_rfl) (by kernel_rfl) (by kernel_rfl) (by kernel_rfl) (by rfl) (fun _ _ _ h => h) ?_ hHeld ?_
  rotate_left 1
  (intro o ho W hSw; simp only [List.getElem?_toArray, List.getElem?_cons_succ, List.getElem?_cons_zero, Option.some.injEq] at ho; subst ho; (try dsimp only at hSw); go_simp; try with_reducible rfl)
  (try simp only [Act.put, List.setIfInBounds_toArray, List.set_cons_zero, List.set_cons_succ])
  refine wpAnyH_takeD 10 17 (v := ?_) (by kernel_rfl) (by kernel_rfl) (by kernel_rfl) (by kernel_rfl) (by rfl) (fun _ _ _ h => h) ?_ hHeld ?_
  rotate_left 1
  (intro o ho W hSw; simp only [List.getElem?_toArray, List.getElem?_cons_succ, List.getElem?_cons_zero, Option.some.injEq] at ho; subst ho; (try dsimp only at hSw); go_simp; try with_reducible rfl)
  (try simp only [Act.put, List.setIfInBounds_toArray, List.set_cons_zero, List.set_cons_succ])
  refine wpAnyH_takeD 11 18 (v := ?_) (by kernel_rfl) (by kernel_rfl) (by kernel_rfl) (by kernel_rfl) (by rfl) (fun _ _ _ h => h) ?_ hHeld ?_
  rotate_left 1
  (intro o ho W hSw; simp only [List.getElem?_toArray, List.getElem?_cons_succ, List.getElem?_cons_zero, Option.some.injEq] at ho; subst ho; (try dsimp only at hSw); go_simp; try with_reducible rfl)
  (try simp only [Act.put, List.setIfInBounds_toArray, List.set_cons_zero, List.set_cons_succ])
  refine wpAnyH_takeD 12 19 (v := ?_) (by kernel_rfl) (by kernel_rfl) (by kernel_rfl) (by kernel_rfl) (by rfl) (fun _ _ _ h => h) ?_ hHeld ?_
  rotate_left 1
  (intro o ho W hSw; simp only [List.getElem?_toArray, List.getElem?_cons_succ, List.getElem?_cons_zero, Option.some.injEq] at ho; subst ho; (try dsimp only at hSw); go_simp; try with_reducible rfl)
  (try simp only [Act.put, List.setIfInBounds_toArray, List.set_cons_zero, List.set_cons_succ])
  refine wpAnyH_takeD 15 22 (v := ?_) (by kernel_rfl) (by kernel_rfl) (by kernel_rfl) (by kernel_rfl) (by rfl) (fun _ _ _ h => h) ?_ hHeld ?_
  rotate_left 1
  (intro o ho W hSw; simp only [List.getElem?_toArray, List.getElem?_cons_succ, List.getElem?_cons_zero, Option.some.injEq] at ho; subst ho; (try dsimp only at hSw); go_simp; try with_reducible rfl)
  (try simp only [Act.put, List.setIfInBounds_toArray, List.set_cons_zero, List.set_cons_succ])
  refine wpAnyH_takeD 16 23 (v := ?_) (by kernel_rfl) (by kernel_rfl) (by kernel_rfl) (by kernel_rfl) (by rfl) (fun _ _ _ h => h) ?_ hHeld ?_
  rotate_left 1
  (intro o ho W hSw; simp only [List.getElem?_toArray, List.getElem?_cons_succ, List.getElem?_cons_zero, Option.some.injEq] at ho; subst ho; (try dsimp only at hSw); go_simp; try with_reducible rfl)
  (try simp only [Act.put, List.setIfInBounds_toArray, List.set_cons_zero, List.set_cons_succ])
  refine wpAnyH_takeD 17 24 (v := ?_) (by kernel_rfl) (by kernel_rfl) (by kernel_rfl) (by kernel_rfl) (by rfl) (fun _ _ _ h => h) ?_ hHeld ?_
  rotate_left 1
  (intro o ho W hSw; simp only [List.getElem?_toArray, List.getElem?_cons_succ, List.getElem?_cons_zero, Option.some.injEq] at ho; subst ho; (try dsimp only at hSw); go_simp; try with_reducible rfl)
  (try simp only [Act.put, List.setIfInBounds_toArray, List.set_cons_zero, List.set_cons_succ])
  refine wpAnyH_takeD 18 25 (v := ?_) (by kernel_rfl) (by kernel_rfl) (by kernel_rfl) (by kernel_rfl) (by rfl) (fun _ _ _ h => h) ?_ hHeld ?_
  rotate_left 1
  (intro o ho W hSw; simp only [List.getElem?_toArray, List.getElem?_cons_succ, List.getElem?_cons_zero, Option.some.injEq] at ho; subst ho; (try dsimp only at hSw); go_simp; try with_reducible rfl)
  (try simp only [Act.put, List.setIfInBounds_toArray, List.set_cons_zero, List.set_cons_succ])
  refine wpAnyH_takeD 19 26 (v := ?_) (by kernel_rfl) (by kernel_rfl) (by kernel_rfl) (by kernel_rfl) (by rfl) (fun _ _ _ h => h) ?_ hHeld ?_
  rotate_left 1
  (intro o ho W hSw; simp only [List.getElem?_toArray, List.getElem?_cons_succ, List.getElem?_cons_zero, Option.some.injEq] at ho; subst ho; (try dsimp only at hSw); go_simp; try with_reducible rfl)
  (try simp only [Act.put, List.setIfInBounds_toArray, List.set_cons_zero, List.set_cons_succ])
  refine wpAnyH_onlyD 7 (by kernel_rfl) (fun o ho K hK => ?_) (by kernel_rfl)
  simp only [List.getElem?_toArray, List.getElem?_cons_succ, List.getElem?_cons_zero, Option.some.injEq] at ho
  subst ho
  go_simp
  refine (rfMul_any a1 b1 b k _ _ HA.out.x0 HA.out.x1 HB.out.x0 HB.out.x1 G0.out.m).mono ?_
  rintro e w1 ⟨rfl, h⟩
  have G1 := Lib.hid (G0.out.fx h)
  have A1 := Lib.hid (A0.out.fx h (by have := G0.out.lt; omega))
  (try have B1 := Lib.hid (B0.out.fx h (by have := G0.out.lt; omega)))
  (try have R1 := Lib.hid (R0.out.fx h (by have := G0.out.lt; omega)))
  (try have P1 := Lib.hid (P0.out.fx h))
  (try have I1 := Lib.hid (I0.out.fx h hbi))
  go_wp2_with fail
  refine hK.out _ _ (⟨A1.out.held, B1.out.held⟩) ?_
  clear hK K hHeld
  intro hHeld
  clear h G0 A0
  (try clear B0)
  (try clear R0)
  (try clear P0)
  (try clear I0)
  refine wpAnyH_onlyD 13 (by kernel_rfl) (fun o ho K hK => ?_) (by kernel_rfl)
  simp only [List.getElem?_toArray, List.getElem?_cons_succ, List.getElem?_cons_zero, Option.some.injEq] at ho
  subst ho
  go_simp
  refine (rfMul_any a2 b2 b k _ _ HA.out.y0 HA.out.y1 HB.out.y0 HB.out.y1 G1.out.m).mono ?_
  rintro e w2 ⟨rfl, h⟩
  have G2 := Lib.hid (G1.out.fx h)
  have A2 := Lib.hid (A1.out.fx h (by have := G1.out.lt; omega))
  (try have B2 := Lib.hid (B1.out.fx h (by have := G1.out.lt; omega)))
  (try have R2 := Lib.hid (R1.out.fx h (by have := G1.out.lt; omega)))
  (try have P2 := Lib.hid (P1.out.fx h))
  (try have I2 := Lib.hid (I1.out.fx h hbi))
  go_wp2_with fail
  refine hK.out _ _ (⟨A2.out.held, B2.out.held⟩) ?_
  clear hK K hHeld
  intro hHeld
  clear h G1 A1
  (try clear B1)
  (try clear R1)
  (try clear P1)
  (try clear I1)
  refine wpAnyH_onlyD 14 (by kernel_rfl) (fun o ho K hK => ?_) (by kernel_rfl)
  simp only [List.getElem?_toArray, List.getElem?_cons_succ, List.getElem?_cons_zero, Option.some.injEq] at ho
  subst ho
  go_simp
  refine (rfAdd_any (mulF a1 b1) (mulF a2 b2) b k _ _ (mulF_in a1 b1).1 (mulF_in a1 b1).2 (mulF_in a2 b2).1 (mulF_in a2 b2).2 G2.out.m).mono ?_
  rintro e w3 ⟨rfl, h⟩
  have G3 := Lib.hid (G2.out.fx h)
  have A3 := Lib.hid (A2.out.fx h (by have := G2.out.lt; omega))
  (try have B3 := Lib.hid (B2.out.fx h (by have := G2.out.lt; omega)))
  (try have R3 := Lib.hid (R2.out.fx h (by have := G2.out.lt; omega)))
  (try have P3 := Lib.hid (P2.out.fx h))
  (try have I3 := Lib.hid (I2.out.fx h hbi))
  go_wp2_with fail
  refine hK.out _ _ (⟨A3.out.held, B3.out.held⟩) ?_
  clear hK K hHeld
  intro hHeld
  clear h G2 A2
  (try clear B2)
  (try clear R2)
  (try clear P2)
  (try clear I2)
  refine wpAnyH_onlyD 20 (by kernel_rfl) (fun o ho K hK => ?_) (by kernel_rfl)
  simp only [List.getElem?_toArray, List.getElem?_cons_succ, List.getElem?_cons_zero, Option.some.injEq] at ho
  subst ho
  go_simp
  refine (rfMul_any a3 b3 b k _ _ HA.out.z0 HA.out.z1 HB.out.z0 HB.out.z1 G3.out.m).mono ?_
  rintro e w4 ⟨rfl, h⟩
  have G4 := Lib.hid (G3.out.fx h)
  have A4 := Lib.hid (A3.out.fx h (by have := G3.out.lt; omega))
  (try have B4 := Lib.hid (B3.out.fx h (by have := G3.out.lt; omega)))
  (try have R4 := Lib.hid (R3.out.fx h (by have := G3.out.lt; omega)))
  (try have P4 := Lib.hid (P3.out.fx h))
  (try have I4 := Lib.hid (I3.out.fx h hbi))
  go_wp2_with fail
  refine hK.out _ _ (⟨A4.out.held, B4.out.held⟩) ?_
  clear hK K hHeld
  intro hHeld
  clear h G3 A3
  (try clear B3)
  (try clear R3)
  (try clear P3)
  (try clear I3)
  refine wpAnyH_onlyD 21 (by kernel_rfl) (fun o ho K hK => ?_) (by kernel_rfl)
  simp only [List.getElem?_toArray, List.getElem?_cons_succ, List.getElem?_cons_zero, Option.some.injEq] at ho
  subst ho
  go_simp
  refine (rfAdd_any (addF (mulF a1 b1) (mulF a2 b2)) (mulF a3 b3) b k _ _ (addF_in _ _).1 (addF_in _ _).2 (mulF_in a3 b3).1 (mulF_in a3 b3).2 G4.out.m).mono ?_
  rintro e w5 ⟨rfl, h⟩
  have G5 := Lib.hid (G4.out.fx h)
  have A5 := Lib.hid (A4.out.fx h (by have := G4.out.lt; omega))
  (try have B5 := Lib.hid (B4.out.fx h (by have := G4.out.lt; omega)))
  (try have R5 := Lib.hid (R4.out.fx h (by have := G4.out.lt; omega)))
  (try have P5 := Lib.hid (P4.out.fx h))
  (try have I5 := Lib.hid (I4.out.fx h hbi))
  go_wp2_with fail
  refine hK.out _ _ (⟨A5.out.held, B5.out.held⟩) ?_
  clear hK K hHeld
  intro hHeld
  clear h G4 A4
  (try clear B4)
  (try clear R4)
  (try clear P4)
  (try clear I4)
  refine wpAnyH_takeD 22 6 (v := ?_) (by kernel_rfl) (by kernel_rfl) (by kernel_rfl) (by kernel_rfl) (by rfl) (fun _ _ _ h => h) ?_ hHeld ?_
  rotate_left 1
  (intro o ho W hSw; simp only [List.getElem?_toArray, List.getElem?_cons_succ, List.getElem?_cons_zero, Option.some.injEq] at ho; subst ho; (try dsimp only at hSw); go_simp; try with_reducible rfl)
  (try simp only [Act.put, List.setIfInBounds_toArray, List.set_cons_zero, List.set_cons_succ])
  refine wpAnyH_done (by kernel_rfl) ?_ _
  go_wp2
  go_ret
  exact ⟨rfl, G5.out.f⟩
end Go.Proofs.Ytldcmiomfahaoaa
