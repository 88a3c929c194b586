/- The walks of RayPoint and RayCast. -/
import Derived.Test.YtinahmhiopgcnaaBb
import Derived.Test.YtinahmhiopgcnaaAe
import Derived.Test.YtinahmhiopgcnaaEm
namespace Go.Proofs.Ytinahmhiopgcnaa
open Go.RowKit
set_option linter.unusedVariables false
set_option linter.unusedSimpArgs false

theorem mat_bw {W : World} {n : Nat} {o : Bool} (b : BW W n [.bool o]) : MAt W n 0 o := ⟨b.c 0 _ rfl, b.f 0, b.lt⟩
/-- a ray's place and way in blocks of their own, both flags -/
structure PSt (w W : World) (m d : Nat) (o q : Bool) (a : Ry) : Prop where
  vo : VW W w.heap.size a.ox a.oy a.oz
  vd : VW W (w.heap.size + 1) a.dx a.dy a.dz
  A : MAt W m 0 o
  D : MAt W d 0 q
  bl : Below w.heap.size w W
  nm : w.heap.size + 1 < m
  nd : w.heap.size + 1 < d
  md : m ≠ d
theorem PSt.step {w W W' : World} {m d : Nat} {o q : Bool} {a : Ry} (s : PSt w W m d o q a) (h : Below W.heap.size W W') : PSt w W' m d o q a :=
  ⟨s.vo.below h s.vo.lt, s.vd.below h s.vd.lt, s.A.below h s.A.lt, s.D.below h s.D.lt, s.bl.trans (h.mono s.bl.size), s.nm, s.nd, s.md⟩
theorem PSt.fx {w W W' : World} {m d : Nat} {o q r : Bool} {a : Ry} (s : PSt w W m d o q a) (h : FxW W.heap.size W m 0 r W') : PSt w W' m d r q a :=
  ⟨s.vo.fx h (by have := s.nm; omega), s.vd.fx h (by have := s.nm; omega), h.at s.A s.A.lt, s.D.far' h s.md, s.bl.trans (h.below s.bl.size (by have := s.nm; omega)), s.nm, s.nd, s.md⟩
theorem PSt.dx {w W W' : World} {m d : Nat} {o q r : Bool} {a : Ry} (s : PSt w W m d o q a) (h : FxW W.heap.size W d 0 r W') : PSt w W' m d o r a :=
  ⟨s.vo.fx h (by have := s.nd; omega), s.vd.fx h (by have := s.nd; omega), s.A.far' h (fun e => s.md e.symm), h.at s.D s.D.lt, s.bl.trans (h.below s.bl.size (by have := s.nd; omega)), s.nm, s.nd, s.md⟩
theorem PSt.cs {w W : World} {m d : Nat} {o q : Bool} {a : Ry} (s : PSt w W m d o q a) : (W.cell? ⟨w.heap.size, 0, none⟩ = some (.int .i64 (a.ox)) ∧ W.cell? ⟨w.heap.size, 1, none⟩ = some (.int .i64 (a.oy)) ∧ W.cell? ⟨w.heap.size, 2, none⟩ = some (.int .i64 (a.oz))) ∧ (W.cell? ⟨w.heap.size + 1, 0, none⟩ = some (.int .i64 (a.dx)) ∧ W.cell? ⟨w.heap.size + 1, 1, none⟩ = some (.int .i64 (a.dy)) ∧ W.cell? ⟨w.heap.size + 1, 2, none⟩ = some (.int .i64 (a.dz))) := ⟨s.vo.held, s.vd.held⟩
theorem PSt.cf {w W : World} {m d : Nat} {o q : Bool} {a : Ry} (s : PSt w W m d o q a) : ((W.cell? ⟨w.heap.size, 0, none⟩ = some (.int .i64 (a.ox)) ∧ W.cell? ⟨w.heap.size, 1, none⟩ = some (.int .i64 (a.oy)) ∧ W.cell? ⟨w.heap.size, 2, none⟩ = some (.int .i64 (a.oz))) ∧ (W.cell? ⟨w.heap.size + 1, 0, none⟩ = some (.int .i64 (a.dx)) ∧ W.cell? ⟨w.heap.size + 1, 1, none⟩ = some (.int .i64 (a.dy)) ∧ W.cell? ⟨w.heap.size + 1, 2, none⟩ = some (.int .i64 (a.dz)))) ∧ W.cell? ⟨m, 0, none⟩ = some (.bool o) ∧ W.cell? ⟨d, 0, none⟩ = some (.bool q) := ⟨s.cs, s.A.c, s.D.c⟩
set_option maxRecDepth 100000 in
set_option maxHeartbeats 4000000 in
theorem rpoint_walk (F : FieldT) (C : FieldY F) (R : RayC F) (a : Ry) (s : Int) (w : World) (ha : a.ins) (hs : In64 s) :
    Calls Try.prog 3 #[a.o, a.d, .int .i64 s] w fun e w' => e = .returned (.bool true) ∧ Below w.heap.size w w' := by
  have HC := Lib.hid C
  have HR := Lib.hid R
  have HA := Lib.hid ha
  have HS := Lib.hid hs
  clear C R ha hs
  go_enter Try.func3, Try.ntmps3
  go_wp2_with fail
  refine wp_gen (S := fun W => PSt w W (w.heap.size + 1 + 1) (w.heap.size + 1 + 1 + 1) false false a) ⟨(((VW.new w w.heap.size a.ox a.oy a.oz _ rfl).alloc _).alloc _).alloc _, ((VW.new _ _ a.dx a.dy a.dz _ (by simp)).alloc _).alloc _, mat_bw ((BW.new _ _ [_] _ (by simp)).alloc _), mat_bw (BW.new _ _ [_] _ (by simp)), by repeat (first | exact Below.refl _ _ | assumption | refine Below.setCell ?_ (by first | omega | (simp; done) | (simp; omega)) _ | refine Below.alloc ?_ (by first | omega | (simp; done) | (simp; omega)) _ | refine below_drewN ?_ _ | refine Below.drew ?_ | refine Below.trans ?_ (Below.mono (by assumption) (by first | omega | (simp; done) | (simp; omega)))), by omega, by omega, by omega⟩ (fun W1 hS => ?_)
  have R0 := Lib.hid (hS.step (Below.refl _ _).drew)
  clear hS
  obtain ⟨m, hm⟩ : ∃ m, w.heap.size + 1 + 1 = m := ⟨_, rfl⟩
  rw [hm] at R0 ⊢
  clear hm
  obtain ⟨d, hd⟩ : ∃ d, m + 1 = d := ⟨_, rfl⟩
  rw [hd] at R0 ⊢
  clear hd
  refine wp_region_held_drew (S := fun W => (W.cell? ⟨w.heap.size, 0, none⟩ = some (.int .i64 (a.ox)) ∧ W.cell? ⟨w.heap.size, 1, none⟩ = some (.int .i64 (a.oy)) ∧ W.cell? ⟨w.heap.size, 2, none⟩ = some (.int .i64 (a.oz))) ∧ (W.cell? ⟨w.heap.size + 1, 0, none⟩ = some (.int .i64 (a.dx)) ∧ W.cell? ⟨w.heap.size + 1, 1, none⟩ = some (.int .i64 (a.dy)) ∧ W.cell? ⟨w.heap.size + 1, 2, none⟩ = some (.int .i64 (a.dz)))) (by kernel_rfl) R0.out.cs (fun hHeld => ?_)
  generalize World.drew _ = w0 at *
  refine wpAnyH_takeD 0 13 (v := ?_) (by kernel_rfl) (by kernel_rfl) (by kernel_rfl) (by kernel_rfl) (by rfl) (fun _ _ _ h => h) ?_ hHeld ?_
  rotate_left 1
  (intro o ho W hSw; simp only [List.getElem?_toArray, List.getElem?_cons_succ, List.getElem?_cons_zero, Option.some.injEq] at ho; subst ho; (try dsimp only at hSw); go_simp; try with_reducible rfl)
  (try simp only [Act.put, List.setIfInBounds_toArray, List.set_cons_zero, List.set_cons_succ])
  refine wpAnyH_takeD 1 14 (v := ?_) (by kernel_rfl) (by kernel_rfl) (by kernel_rfl) (by kernel_rfl) (by rfl) (fun _ _ _ h => h) ?_ hHeld ?_
  rotate_left 1
  (intro o ho W hSw; simp only [List.getElem?_toArray, List.getElem?_cons_succ, List.getElem?_cons_zero, Option.some.injEq] at ho; subst ho; (try dsimp only at hSw); go_simp; try with_reducible rfl)
  (try simp only [Act.put, List.setIfInBounds_toArray, List.set_cons_zero, List.set_cons_succ])
  refine wpAnyH_takeD 2 15 (v := ?_) (by kernel_rfl) (by kernel_rfl) (by kernel_rfl) (by kernel_rfl) (by rfl) (fun _ _ _ h => h) ?_ hHeld ?_
  rotate_left 1
  (intro o ho W hSw; simp only [List.getElem?_toArray, List.getElem?_cons_succ, List.getElem?_cons_zero, Option.some.injEq] at ho; subst ho; (try dsimp only at hSw); go_simp; try with_reducible rfl)
  (try simp only [Act.put, List.setIfInBounds_toArray, List.set_cons_zero, List.set_cons_succ])
  refine wpAnyH_takeD 3 16 (v := ?_) (by kernel_rfl) (by kernel_rfl) (by kernel_rfl) (by kernel_rfl) (by rfl) (fun _ _ _ h => h) ?_ hHeld ?_
  rotate_left 1
  (intro o ho W hSw; simp only [List.getElem?_toArray, List.getElem?_cons_succ, List.getElem?_cons_zero, Option.some.injEq] at ho; subst ho; (try dsimp only at hSw); go_simp; try with_reducible rfl)
  (try simp only [Act.put, List.setIfInBounds_toArray, List.set_cons_zero, List.set_cons_succ])
  refine wpAnyH_takeD 5 18 (v := ?_) (by kernel_rfl) (by kernel_rfl) (by kernel_rfl) (by kernel_rfl) (by rfl) (fun _ _ _ h => h) ?_ hHeld ?_
  rotate_left 1
  (intro o ho W hSw; simp only [List.getElem?_toArray, List.getElem?_cons_succ, List.getElem?_cons_zero, Option.some.injEq] at ho; subst ho; (try dsimp only at hSw); go_simp; try with_reducible rfl)
  (try simp only [Act.put, List.setIfInBounds_toArray, List.set_cons_zero, List.set_cons_succ])
  refine wpAnyH_takeD 6 19 (v := ?_) (by kernel_rfl) (by kernel_rfl) (by kernel_rfl) (by kernel_rfl) (by rfl) (fun _ _ _ h => h) ?_ hHeld ?_
  rotate_left 1
  (intro o ho W hSw; simp only [List.getElem?_toArray, List.getElem?_cons_succ, List.getElem?_cons_zero, Option.some.injEq] at ho; subst ho; (try dsimp only at hSw); go_simp; try with_reducible rfl)
  (try simp only [Act.put, List.setIfInBounds_toArray, List.set_cons_zero, List.set_cons_succ])
  refine wpAnyH_takeD 7 20 (v := ?_) (by kernel_rfl) (by kernel_rfl) (by kernel_rfl) (by kernel_rfl) (by rfl) (fun _ _ _ h => h) ?_ hHeld ?_
  rotate_left 1
  (intro o ho W hSw; simp only [List.getElem?_toArray, List.getElem?_cons_succ, List.getElem?_cons_zero, Option.some.injEq] at ho; subst ho; (try dsimp only at hSw); go_simp; try with_reducible rfl)
  (try simp only [Act.put, List.setIfInBounds_toArray, List.set_cons_zero, List.set_cons_succ])
  refine wpAnyH_takeD 8 21 (v := ?_) (by kernel_rfl) (by kernel_rfl) (by kernel_rfl) (by kernel_rfl) (by rfl) (fun _ _ _ h => h) ?_ hHeld ?_
  rotate_left 1
  (intro o ho W hSw; simp only [List.getElem?_toArray, List.getElem?_cons_succ, List.getElem?_cons_zero, Option.some.injEq] at ho; subst ho; (try dsimp only at hSw); go_simp; try with_reducible rfl)
  (try simp only [Act.put, List.setIfInBounds_toArray, List.set_cons_zero, List.set_cons_succ])
  refine wpAnyH_onlyD 4 (by kernel_rfl) (fun o ho K hK => ?_) (by kernel_rfl)
  simp only [List.getElem?_toArray, List.getElem?_cons_succ, List.getElem?_cons_zero, Option.some.injEq] at ho
  subst ho
  go_simp
  refine (HR.out.point a s m 0 false _ HA.out HS.out R0.out.A).mono ?_
  rintro e w1 ⟨rfl, h⟩
  have R1 := Lib.hid (R0.out.fx h)
  go_wp2_with fail
  refine hK.out _ _ (R1.out.cs) ?_
  clear hK K hHeld
  intro hHeld
  clear h R0
  refine wpAnyH_onlyD 9 (by kernel_rfl) (fun o ho K hK => ?_) (by kernel_rfl)
  simp only [List.getElem?_toArray, List.getElem?_cons_succ, List.getElem?_cons_zero, Option.some.injEq] at ho
  subst ho
  go_simp
  refine (rRPoint_any a s d 0 false _ HA.out HS.out R1.out.D).mono ?_
  rintro e w2 ⟨rfl, h⟩
  have R2 := Lib.hid (R1.out.dx h)
  go_wp2_with fail
  refine hK.out _ _ (R2.out.cs) ?_
  clear hK K hHeld
  intro hHeld
  clear h R1
  rw [Bool.false_or] at R2
  generalize pntO a s = po at *
  generalize pntF a.ox a.dx s = px at *
  generalize pntF a.oy a.dy s = py at *
  generalize pntF a.oz a.dz s = pz at *
  refine wpAnyH_grow (fun W => ((W.cell? ⟨w.heap.size, 0, none⟩ = some (.int .i64 (a.ox)) ∧ W.cell? ⟨w.heap.size, 1, none⟩ = some (.int .i64 (a.oy)) ∧ W.cell? ⟨w.heap.size, 2, none⟩ = some (.int .i64 (a.oz))) ∧ (W.cell? ⟨w.heap.size + 1, 0, none⟩ = some (.int .i64 (a.dx)) ∧ W.cell? ⟨w.heap.size + 1, 1, none⟩ = some (.int .i64 (a.dy)) ∧ W.cell? ⟨w.heap.size + 1, 2, none⟩ = some (.int .i64 (a.dz)))) ∧ W.cell? ⟨m, 0, none⟩ = some (.bool po) ∧ W.cell? ⟨d, 0, none⟩ = some (.bool po)) (fun _ h => h.1) R2.out.cf (fun hHeld => ?_)
  refine wpAnyH_takeD 10 23 (v := ?_) (by kernel_rfl) (by kernel_rfl) (by kernel_rfl) (by kernel_rfl) (by rfl) (fun _ _ _ h => h) ?_ hHeld ?_
  rotate_left 1
  (intro o ho W hSw; simp only [List.getElem?_toArray, List.getElem?_cons_succ, List.getElem?_cons_zero, Option.some.injEq] at ho; subst ho; (try dsimp only at hSw); go_simp; try with_reducible rfl)
  (try simp only [Act.put, List.setIfInBounds_toArray, List.set_cons_zero, List.set_cons_succ])
  refine wpAnyH_takeD 11 24 (v := ?_) (by kernel_rfl) (by kernel_rfl) (by kernel_rfl) (by kernel_rfl) (by rfl) (fun _ _ _ h => h) ?_ hHeld ?_
  rotate_left 1
  (intro o ho W hSw; simp only [List.getElem?_toArray, List.getElem?_cons_succ, List.getElem?_cons_zero, Option.some.injEq] at ho; subst ho; (try dsimp only at hSw); go_simp; try with_reducible rfl)
  (try simp only [Act.put, List.setIfInBounds_toArray, List.set_cons_zero, List.set_cons_succ])
  refine wpAnyH_takeD 12 25 (v := ?_) (by kernel_rfl) (by kernel_rfl) (by kernel_rfl) (by kernel_rfl) (by rfl) (fun _ _ _ h => h) ?_ hHeld ?_
  rotate_left 1
  (intro o ho W hSw; simp only [List.getElem?_toArray, List.getElem?_cons_succ, List.getElem?_cons_zero, Option.some.injEq] at ho; subst ho; (try dsimp only at hSw); go_simp; try with_reducible rfl)
  (try simp only [Act.put, List.setIfInBounds_toArray, List.set_cons_zero, List.set_cons_succ])
  refine wpAnyH_takeD 13 26 (v := ?_) (by kernel_rfl) (by kernel_rfl) (by kernel_rfl) (by kernel_rfl) (by rfl) (fun _ _ _ h => h) ?_ hHeld ?_
  rotate_left 1
  (intro o ho W hSw; simp only [List.getElem?_toArray, List.getElem?_cons_succ, List.getElem?_cons_zero, Option.some.injEq] at ho; subst ho; (try dsimp only at hSw); go_simp; try with_reducible rfl)
  (try simp only [Act.put, List.setIfInBounds_toArray, List.set_cons_zero, List.set_cons_succ])
  refine wpAnyH_takeD 14 27 (v := ?_) (by kernel_rfl) (by kernel_rfl) (by kernel_rfl) (by kernel_rfl) (by rfl) (fun _ _ _ h => h) ?_ hHeld ?_
  rotate_left 1
  (intro o ho W hSw; simp only [List.getElem?_toArray, List.getElem?_cons_succ, List.getElem?_cons_zero, Option.some.injEq] at ho; subst ho; (try dsimp only at hSw); go_simp; try with_reducible rfl)
  (try simp only [Act.put, List.setIfInBounds_toArray, List.set_cons_zero, List.set_cons_succ])
  refine wpAnyH_takeD 15 28 (v := ?_) (by kernel_rfl) (by kernel_rfl) (by kernel_rfl) (by kernel_rfl) (by rfl) (fun _ _ _ h => h) ?_ hHeld ?_
  rotate_left 1
  (intro o ho W hSw; simp only [List.getElem?_toArray, List.getElem?_cons_succ, List.getElem?_cons_zero, Option.some.injEq] at ho; subst ho; (try dsimp only at hSw); go_simp; try with_reducible rfl)
  (try simp only [Act.put, List.setIfInBounds_toArray, List.set_cons_zero, List.set_cons_succ])
  refine wpAnyH_takeD 16 29 (v := ?_) (by kernel_rfl) (by kernel_rfl) (by kernel_rfl) (by kernel_rfl) (by rfl) (fun _ _ _ h => h) ?_ hHeld ?_
  rotate_left 1
  (intro o ho W hSw; simp only [List.getElem?_toArray, List.getElem?_cons_succ, List.getElem?_cons_zero, Option.some.injEq] at ho; subst ho; (try dsimp only at hSw); go_simp; try with_reducible rfl)
  (try simp only [Act.put, List.setIfInBounds_toArray, List.set_cons_zero, List.set_cons_succ])
  refine wpAnyH_takeD 17 30 (v := ?_) (by kernel_rfl) (by kernel_rfl) (by kernel_rfl) (by kernel_rfl) (by rfl) (fun _ _ _ h => h) ?_ hHeld ?_
  rotate_left 1
  (intro o ho W hSw; simp only [List.getElem?_toArray, List.getElem?_cons_succ, List.getElem?_cons_zero, Option.some.injEq] at ho; subst ho; (try dsimp only at hSw); go_simp; try with_reducible rfl)
  (try simp only [Act.put, List.setIfInBounds_toArray, List.set_cons_zero, List.set_cons_succ])
  refine wpAnyH_takeD 18 31 (v := ?_) (by kernel_rfl) (by kernel_rfl) (by kernel_rfl) (by kernel_rfl) (by rfl) (fun _ _ _ h => h) ?_ hHeld ?_
  rotate_left 1
  (intro o ho W hSw; simp only [List.getElem?_toArray, List.getElem?_cons_succ, List.getElem?_cons_zero, Option.some.injEq] at ho; subst ho; (try dsimp only at hSw); go_simp; try with_reducible rfl)
  (try simp only [Act.put, List.setIfInBounds_toArray, List.set_cons_zero, List.set_cons_succ])
  refine wpAnyH_takeD 19 32 (v := ?_) (by kernel_rfl) (by kernel_rfl) (by kernel_rfl) (by kernel_rfl) (by rfl) (fun _ _ _ h => h) ?_ hHeld ?_
  rotate_left 1
  (intro o ho W hSw; simp only [List.getElem?_toArray, List.getElem?_cons_succ, List.getElem?_cons_zero, Option.some.injEq] at ho; subst ho; (try dsimp only at hSw); go_simp; try with_reducible rfl)
  (try simp only [Act.put, List.setIfInBounds_toArray, List.set_cons_zero, List.set_cons_succ])
  refine wpAnyH_takeD 20 33 (v := ?_) (by kernel_rfl) (by kernel_rfl) (by kernel_rfl) (by kernel_rfl) (by rfl) (fun _ _ _ h => h) ?_ hHeld ?_
  rotate_left 1
  (intro o ho W hSw; simp only [List.getElem?_toArray, List.getElem?_cons_succ, List.getElem?_cons_zero, Option.some.injEq] at ho; subst ho; (try dsimp only at hSw); go_simp; try with_reducible rfl)
  (try simp only [Act.put, List.setIfInBounds_toArray, List.set_cons_zero, List.set_cons_succ])
  refine wpAnyH_takeD 21 34 (v := ?_) (by kernel_rfl) (by kernel_rfl) (by kernel_rfl) (by kernel_rfl) (by rfl) (fun _ _ _ h => h) ?_ hHeld ?_
  rotate_left 1
  (intro o ho W hSw; simp only [List.getElem?_toArray, List.getElem?_cons_succ, List.getElem?_cons_zero, Option.some.injEq] at ho; subst ho; (try dsimp only at hSw); go_simp; try with_reducible rfl)
  (try simp only [Act.put, List.setIfInBounds_toArray, List.set_cons_zero, List.set_cons_succ])
  refine wpAnyH_takeD 22 35 (v := ?_) (by kernel_rfl) (by kernel_rfl) (by kernel_rfl) (by kernel_rfl) (by rfl) (fun _ _ _ h => h) ?_ hHeld ?_
  rotate_left 1
  (intro o ho W hSw; simp only [List.getElem?_toArray, List.getElem?_cons_succ, List.getElem?_cons_zero, Option.some.injEq] at ho; subst ho; (try dsimp only at hSw); go_simp; try with_reducible rfl)
  (try simp only [Act.put, List.setIfInBounds_toArray, List.set_cons_zero, List.set_cons_succ])
  refine wpAnyH_onlyD 23 (by kernel_rfl) (fun o ho K hK => ?_) (by kernel_rfl)
  simp only [List.getElem?_toArray, List.getElem?_cons_succ, List.getElem?_cons_zero, Option.some.injEq] at ho
  subst ho
  go_simp
  refine (rawake_any F HC.out HR.out _).mono ?_
  rintro e w3 ⟨rfl, h⟩
  have R3 := Lib.hid (R2.out.step h)
  go_wp2_with fail
  refine hK.out _ _ (R3.out.cf) ?_
  clear hK K hHeld
  intro hHeld
  clear h R2
  refine wpAnyH_takeD 24 37 (v := ?_) (by kernel_rfl) (by kernel_rfl) (by kernel_rfl) (by kernel_rfl) (by rfl) (fun _ _ _ h => h) ?_ hHeld ?_
  rotate_left 1
  (intro o ho W hSw; simp only [List.getElem?_toArray, List.getElem?_cons_succ, List.getElem?_cons_zero, Option.some.injEq] at ho; subst ho; (try dsimp only at hSw); go_simp; try with_reducible rfl)
  (try simp only [Act.put, List.setIfInBounds_toArray, List.set_cons_zero, List.set_cons_succ])
  refine wpAnyH_takeD 25 6 (v := ?_) (by kernel_rfl) (by kernel_rfl) (by kernel_rfl) (by kernel_rfl) (by rfl) (fun _ _ _ h => h) ?_ hHeld ?_
  rotate_left 1
  (intro o ho W hSw; simp only [List.getElem?_toArray, List.getElem?_cons_succ, List.getElem?_cons_zero, Option.some.injEq] at ho; subst ho; (try dsimp only at hSw); go_simp; try with_reducible rfl)
  (try simp only [Act.put, List.setIfInBounds_toArray, List.set_cons_zero, List.set_cons_succ])
  refine wpAnyH_done (by kernel_rfl) ?_ _
  clear hHeld
  go_wp2
  go_ret
  exact ⟨rfl, R3.out.bl⟩
/-- a track and what else came in, in blocks of their own, the field, both flags -/
structure RSt (F : FieldT) (w W : World) (B top f m d : Nat) (o q : Bool) (t : Trk) (l : List Value) : Prop where
  g : GD F w W 0 top f m d o q t
  c : BW W w.heap.size (trkL t)
  e : BW W (w.heap.size + 1) l
  k : TrkM B W t
  hB : B ≤ w.heap.size
  mm : w.heap.size + 1 < m
  dd : w.heap.size + 1 < d
section
variable {F : FieldT} {w W W' : World} {B top f m d : Nat} {o q r : Bool} {t : Trk} {l : List Value}
theorem RSt.step (s : RSt F w W B top f m d o q t l) (h : Below W.heap.size W W') : RSt F w W' B top f m d o q t l :=
  ⟨s.g.step h, s.c.below h s.c.lt, s.e.below h s.e.lt, s.k.keep h (by have := s.hB; have := s.c.lt; omega), s.hB, s.mm, s.dd⟩
theorem RSt.fx (s : RSt F w W B top f m d o q t l) (h : FxW W.heap.size W m 0 r W') : RSt F w W' B top f m d r q t l :=
  ⟨s.g.fx h, s.c.fx h (by have := s.mm; omega), s.e.fx h (by have := s.mm; omega), s.k.fx h (by have := s.hB; have := s.mm; omega) (by have := s.hB; have := s.c.lt; omega), s.hB, s.mm, s.dd⟩
theorem RSt.dx (s : RSt F w W B top f m d o q t l) (h : FxW W.heap.size W d 0 r W') : RSt F w W' B top f m d o r t l :=
  ⟨s.g.dx h, s.c.fx h (by have := s.dd; omega), s.e.fx h (by have := s.dd; omega), s.k.fx h (by have := s.hB; have := s.dd; omega) (by have := s.hB; have := s.c.lt; omega), s.hB, s.mm, s.dd⟩
theorem rs_new (p : F.P 0 W.heap.size W f t) (c : BW W w.heap.size (trkL t)) (e : BW W (w.heap.size + 1) l) (k : TrkM B W t) (bl : Below w.heap.size w W) (hB : B ≤ w.heap.size) (o1 o2 : Obj) (b1 : BW (W.alloc o1) W.heap.size [.bool false]) (b2 : BW ((W.alloc o1).alloc o2) (W.heap.size + 1) [.bool false]) : RSt F w ((W.alloc o1).alloc o2) B W.heap.size f W.heap.size (W.heap.size + 1) false false t l := by
  have B1 : Below W.heap.size W ((W.alloc o1).alloc o2) := ((Below.refl W.heap.size W).alloc (Nat.le_refl _) o1).alloc (by simp) o2
  have b1' := b1.alloc o2
  have hl := e.lt
  exact ⟨⟨⟨F.step p B1, ⟨b1'.c 0 _ rfl, b1'.f 0, b1'.lt⟩, bl.trans (B1.mono bl.size), Or.inr (Nat.le_refl _), bl.size⟩, ⟨b2.c 0 _ rfl, b2.f 0, b2.lt⟩, Or.inr (by omega), by have := bl.size; omega, by omega⟩, (c.alloc o1).alloc o2, (e.alloc o1).alloc o2, k.keep B1 (by have := bl.size; omega), hB, hl, by omega⟩
end
/-- a ray that came in -/
def askL (a : Ry) : List Value := [.int .i64 a.ox, .int .i64 a.oy, .int .i64 a.oz, .int .i64 a.dx, .int .i64 a.dy, .int .i64 a.dz, .int .i64 a.long]
/-- a track's copy, and what else came in, before there is a field -/
structure RP (w W : World) (B : Nat) (t : Trk) (l : List Value) : Prop where
  q : PT w W B w.heap.size t
  e : BW W (w.heap.size + 1) l
theorem RP.step {w W W' : World} {B : Nat} {t : Trk} {l : List Value} (s : RP w W B t l) (h : Below W.heap.size W W') : RP w W' B t l := ⟨s.q.step h, s.e.below h s.e.lt⟩
/-- the cells of a track's copy and of a ray that came in -/
def RKc (n : Nat) (t : Trk) (a : Ry) (W : World) : Prop :=
  (W.cell? ⟨n, 0, none⟩ = some (.int .i64 t.rate) ∧ W.cell? ⟨n, 1, none⟩ = some (.int .i64 t.cell) ∧ W.cell? ⟨n, 2, none⟩ = some (.int .i64 t.cols) ∧ W.cell? ⟨n, 3, none⟩ = some (.int .i64 t.rows) ∧ W.cell? ⟨n, 4, none⟩ = some (.int .i64 t.cx) ∧ W.cell? ⟨n, 5, none⟩ = some (.int .i64 t.cy) ∧ W.cell? ⟨n, 6, none⟩ = some (.slice t.H.a t.H.n t.H.c) ∧ W.cell? ⟨n, 7, none⟩ = some (.slice t.G.a t.G.n t.G.c) ∧ W.cell? ⟨n, 8, none⟩ = some (.slice t.ka t.kn t.kc) ∧ W.cell? ⟨n, 9, none⟩ = some (.slice t.la t.ln t.lc) ∧ W.cell? ⟨n, 10, none⟩ = some (.slice t.ra t.rn t.rc) ∧ W.cell? ⟨n, 11, none⟩ = some (.slice t.ga t.gn t.gc) ∧ W.cell? ⟨n, 12, none⟩ = some (.int .i64 t.sx) ∧ W.cell? ⟨n, 13, none⟩ = some (.int .i64 t.sy) ∧ W.cell? ⟨n, 14, none⟩ = some (.int .u32 t.head) ∧ W.cell? ⟨n, 15, none⟩ = some (.int .i64 t.laps)) ∧
  (W.cell? ⟨n + 1, 0, none⟩ = some (.int .i64 a.ox) ∧ W.cell? ⟨n + 1, 1, none⟩ = some (.int .i64 a.oy) ∧ W.cell? ⟨n + 1, 2, none⟩ = some (.int .i64 a.oz) ∧ W.cell? ⟨n + 1, 3, none⟩ = some (.int .i64 a.dx) ∧ W.cell? ⟨n + 1, 4, none⟩ = some (.int .i64 a.dy) ∧ W.cell? ⟨n + 1, 5, none⟩ = some (.int .i64 a.dz) ∧ W.cell? ⟨n + 1, 6, none⟩ = some (.int .i64 a.long))
theorem rk_of {W : World} {n : Nat} {t : Trk} {a : Ry} (c : BW W n (trkL t)) (e : BW W (n + 1) (askL a)) : RKc n t a W :=
  ⟨⟨c.c 0 _ rfl, c.c 1 _ rfl, c.c 2 _ rfl, c.c 3 _ rfl, c.c 4 _ rfl, c.c 5 _ rfl, c.c 6 _ rfl, c.c 7 _ rfl, c.c 8 _ rfl, c.c 9 _ rfl, c.c 10 _ rfl, c.c 11 _ rfl, c.c 12 _ rfl, c.c 13 _ rfl, c.c 14 _ rfl, c.c 15 _ rfl⟩, e.c 0 _ rfl, e.c 1 _ rfl, e.c 2 _ rfl, e.c 3 _ rfl, e.c 4 _ rfl, e.c 5 _ rfl, e.c 6 _ rfl⟩
/-- a touch in a block of its own -/
noncomputable def tcC (n : Nat) (t : Trk) (a : Ry) (i : Int) (W : World) : Prop := W.cell? ⟨n, 0, none⟩ = some (.int .i64 (tcS t a i)) ∧ W.cell? ⟨n, 1, none⟩ = some (.int .i64 (tcX t i)) ∧ W.cell? ⟨n, 2, none⟩ = some (.int .i64 (tcY t i)) ∧ W.cell? ⟨n, 3, none⟩ = some (.int .i64 (tcZ t i)) ∧ W.cell? ⟨n, 4, none⟩ = some (.int .i64 (tcK t i))
theorem tc_cells {W : World} {n : Nat} {t : Trk} {a : Ry} {i : Int} (k : BW W n (tcL t a i)) : tcC n t a i W := ⟨k.c 0 _ rfl, k.c 1 _ rfl, k.c 2 _ rfl, k.c 3 _ rfl, k.c 4 _ rfl⟩
end Go.Proofs.Ytinahmhiopgcnaa
