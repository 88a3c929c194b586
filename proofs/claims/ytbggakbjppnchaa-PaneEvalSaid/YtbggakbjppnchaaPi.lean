/- The walks of PaneRight and PaneEval, whatever the program's own pane does as long as it tells what is told. -/
import Derived.Test.YtbggakbjppnchaaPh
namespace Go.Proofs.Ytbggakbjppnchaa
open Go.RowKit
set_option linter.unusedVariables false
set_option linter.unusedSimpArgs false

set_option maxHeartbeats 4000000 in
theorem dots_same (a b : Option Addr) (n c d : Nat) (X Y : Nat → Int) (w : World) (hmax : n ≤ 100) (D : Dots w a n c X Y) (E : Dots w b n d X Y) :
    Calls Try.prog 12 #[.slice a n c, .slice b n d] w fun e w' => e = .returned (.bool true) ∧ Below w.heap.size w w' := by
  have HD := Lib.hid D
  have HE := Lib.hid E
  clear D E
  go_enter Try.func12, Try.ntmps12
  go_wp2
  go_loopw [5] (fun i wr => ∃ j : Nat, j ≤ n ∧ i = .int .i64 j ∧ Dots wr a n c X Y ∧ Dots wr b n d X Y ∧ Below w.heap.size w wr) (fun i _ => n - (intOf i).toNat)
  case atStart => exact ⟨0, by omega, rfl, HD.out, HE.out, Below.refl _ _⟩
  case round =>
    obtain ⟨j, hj, rfl, hD, hE, hB⟩ := hrel
    have D1 := Lib.hid hD
    have E1 := Lib.hid hE
    have B1 := Lib.hid hB
    clear hD hE hB
    by_cases hlt : j < n
    · obtain ⟨b0, o0, ha, hb, hc⟩ := D1.out.at' (by omega)
      obtain ⟨b1, o1, hb', hb2, hd⟩ := E1.out.at' (by omega)
      subst ha
      subst hb'
      obtain ⟨c0, c1⟩ := hc j hlt
      obtain ⟨d0, d1⟩ := hd j hlt
      have z0 : (0 : Int) ≤ (j : Int) := by omega
      have z1 : (j : Int) < (n : Int) := by omega
      clear hc hd hb hb2
      go_wp2
      go_quiet (fail)
      go_wp2
      go_roundw
      case rel => exact ⟨j + 1, by omega, by go_num, D1.out.below (below_drewN (Below.refl _ _) _) (Nat.le_refl _), E1.out.below (below_drewN (Below.refl _ _) _) (Nat.le_refl _), below_drewN B1.out _⟩
      case measure => simp [intOf]; omega
    · go_wp2
      go_ret
      exact ⟨rfl, B1.out⟩
/-- a pane that came in, its copy, and a flag that stands at no -/
structure PG (w W : World) (b : Nat) (p : Pn) : Prop where
  c : BW W w.heap.size [.slice p.x.a p.x.n p.x.c, .slice p.y.a p.y.n p.y.c, .slice p.a p.n p.c]
  m : MAt W b 0 false
  l : Below w.heap.size w W
  p : Pan w.heap.size W p
  e : w.heap.size < b
theorem PG.step {w W W' : World} {b : Nat} {p : Pn} (Q : PG w W b p) (h : Below W.heap.size W W') : PG w W' b p :=
  ⟨Q.c.below h Q.c.lt, Q.m.below h Q.m.lt, Q.l.trans (h.mono Q.l.size), Q.p.keep h Q.l.size, Q.e⟩
theorem PG.fx {w W W' : World} {b : Nat} {p : Pn} (Q : PG w W b p) (h : FxW W.heap.size W b 0 false W') : PG w W' b p :=
  ⟨Q.c.fx h (by have := Q.e; omega), h.at Q.m Q.m.lt, Q.l.trans (h.below Q.l.size (by have := Q.e; omega)), Q.p.fx h (by have := Q.e; omega) Q.l.size, Q.e⟩
set_option maxRecDepth 100000 in
set_option maxHeartbeats 8000000 in
theorem pright_walk (C : PaneC) (p : Pn) (i : Int) (w : World) (hi : In64 i) (K : Pan w.heap.size w p) :
    Calls Try.prog 3 #[.agg #[.slice p.x.a p.x.n p.x.c, .slice p.y.a p.y.n p.y.c, .slice p.a p.n p.c], .int .i64 i] w fun e w' => e = .returned (.bool true) ∧ Below w.heap.size w w' := by
  have Q0 := Lib.hid (PQ.new 25 K (Nat.le_refl _))
  have HC := Lib.hid C
  clear C K
  by_cases F : fewP p
  rotate_left
  · go_enter Try.func3, Try.ntmps3
    go_wp2_with fail
    refine calls_gen (S := fun W => PQ w W w.heap.size w.heap.size p) Q0.out (fun W0 hS => ?_)
    have Q1 := Lib.hid hS
    clear hS Q0
    refine (few_any p w.heap.size W0 Q1.out.l.size Q1.out.p).mono ?_
    rintro e w1 ⟨rfl, h⟩
    have Q2 := Lib.hid (Q1.out.step h)
    clear h Q1
    rw [decide_eq_false F]
    go_wp2
    go_ret
    exact ⟨rfl, Q2.out.l⟩
  have X1 := Lib.hid (fun (W : World) (Q : PQ w W w.heap.size w.heap.size p) => HC.out.bounds p w.heap.size W Q.l.size F Q.p)
  have X2 := Lib.hid (fun (W : World) (Q : PQ w W w.heap.size w.heap.size p) => rPBounds_any p w.heap.size W Q.l.size F Q.p)
  have X3 := Lib.hid (fun (W : World) (Q : PQ w W w.heap.size w.heap.size p) => HC.out.right p w.heap.size W Q.l.size F Q.p)
  have X4 := Lib.hid (fun (W : World) (Q : PQ w W w.heap.size w.heap.size p) => rPRight_any p w.heap.size W Q.l.size F Q.p)
  have X5 := Lib.hid (fun (W : World) (Q : PQ w W w.heap.size w.heap.size p) => HC.out.row p i w.heap.size W Q.l.size F Q.p hi)
  have X6 := Lib.hid (fun (W : World) (Q : PQ w W w.heap.size w.heap.size p) => rPRow_any p i w.heap.size W Q.l.size F Q.p hi)
  have hM : rowM p i ≤ 100 := by
    unfold rowM rowN
    have := F.1
    split <;> (try split) <;> omega
  have HF := Lib.hid F
  generalize lowP p = lo at *
  generalize highP p = hi' at *
  generalize paneR p = q at *
  generalize rowM p i = N at *
  generalize p.x.v = X at *
  generalize (p.r i.toNat).v = Y at *
  go_enter Try.func3, Try.ntmps3
  go_wp2_with fail
  refine calls_gen (S := fun W => PQ w W w.heap.size w.heap.size p) Q0.out (fun W0 hS => ?_)
  have Q1 := Lib.hid hS
  clear hS Q0
  refine (few_any p w.heap.size W0 Q1.out.l.size Q1.out.p).mono ?_
  rintro e w1 ⟨rfl, h⟩
  have Q2 := Lib.hid (Q1.out.step h)
  clear h Q1
  rw [decide_eq_true F]
  obtain ⟨c0, c1, c2⟩ := Q2.out.k.h3
  go_wp2_with fail
  refine (X1.out _ Q2.out).mono ?_
  rintro e w2 ⟨rfl, h⟩
  have Q3 := Lib.hid (Q2.out.step h)
  clear h Q2 c0 c1 c2 F
  obtain ⟨c0, c1, c2⟩ := Q3.out.k.h3
  go_wp2_with fail
  refine (X2.out _ Q3.out).mono ?_
  rintro e w3 ⟨rfl, h⟩
  have Q4 := Lib.hid (Q3.out.step h)
  clear h Q3 c0 c1 c2
  go_wp2_with fail
  have Q5 := Lib.hid Q4.out.drew
  clear Q4
  refine wp_region_held_drew (S := fun W => W.cell? ⟨w.heap.size, 0, none⟩ = some (.slice p.x.a p.x.n p.x.c) ∧ W.cell? ⟨w.heap.size, 1, none⟩ = some (.slice p.y.a p.y.n p.y.c) ∧ W.cell? ⟨w.heap.size, 2, none⟩ = some (.slice p.a p.n p.c)) (by kernel_rfl) Q5.out.k.h3 (fun hHeld => ?_)
  generalize w3.drew = w5 at *
  refine wpAnyH_takeD 0 22 (v := ?_) (by kernel_rfl) (by kernel_rfl) (by kernel_rfl) (by kernel_rfl) (by rfl) (fun _ _ _ h => h) ?_ hHeld ?_
  rotate_left 1
  (intro o ho W hSw; simp only [List.getElem?_toArray, List.getElem?_cons_succ, List.getElem?_cons_zero, Option.some.injEq] at ho; subst ho; (try dsimp only at hSw); go_simp; try with_reducible rfl)
  (try simp only [Act.put, List.setIfInBounds_toArray, List.set_cons_zero, List.set_cons_succ])
  refine wpAnyH_takeD 2 24 (v := ?_) (by kernel_rfl) (by kernel_rfl) (by kernel_rfl) (by kernel_rfl) (by rfl) (fun _ _ _ h => h) ?_ hHeld ?_
  rotate_left 1
  (intro o ho W hSw; simp only [List.getElem?_toArray, List.getElem?_cons_succ, List.getElem?_cons_zero, Option.some.injEq] at ho; subst ho; (try dsimp only at hSw); go_simp; try with_reducible rfl)
  (try simp only [Act.put, List.setIfInBounds_toArray, List.set_cons_zero, List.set_cons_succ])
  refine wpAnyH_onlyD 1 (by kernel_rfl) (fun o ho K hK => ?_) (by kernel_rfl)
  simp only [List.getElem?_toArray, List.getElem?_cons_succ, List.getElem?_cons_zero, Option.some.injEq] at ho
  subst ho
  go_simp
  refine (X3.out _ Q5.out).mono ?_
  rintro e w6 ⟨rfl, h⟩
  have Q6 := Lib.hid (Q5.out.step h)
  go_wp2_with fail
  refine hK.out _ _ (Q6.out.k.h3) ?_
  clear hK K hHeld
  intro hHeld
  clear h Q5
  refine wpAnyH_onlyD 3 (by kernel_rfl) (fun o ho K hK => ?_) (by kernel_rfl)
  simp only [List.getElem?_toArray, List.getElem?_cons_succ, List.getElem?_cons_zero, Option.some.injEq] at ho
  subst ho
  go_simp
  refine (X4.out _ Q6.out).mono ?_
  rintro e w7 ⟨rfl, h⟩
  have Q7 := Lib.hid (Q6.out.step h)
  go_wp2_with fail
  refine hK.out _ _ (Q7.out.k.h3) ?_
  clear hK K hHeld
  intro hHeld
  clear h Q6
  refine wpAnyH_takeD 4 26 (v := ?_) (by kernel_rfl) (by kernel_rfl) (by kernel_rfl) (by kernel_rfl) (by rfl) (fun _ _ _ h => h) ?_ hHeld ?_
  rotate_left 1
  (intro o ho W hSw; simp only [List.getElem?_toArray, List.getElem?_cons_succ, List.getElem?_cons_zero, Option.some.injEq] at ho; subst ho; (try dsimp only at hSw); go_simp; try with_reducible rfl)
  (try simp only [Act.put, List.setIfInBounds_toArray, List.set_cons_zero, List.set_cons_succ])
  refine wpAnyH_takeD 5 27 (v := ?_) (by kernel_rfl) (by kernel_rfl) (by kernel_rfl) (by kernel_rfl) (by rfl) (fun _ _ _ h => h) ?_ hHeld ?_
  rotate_left 1
  (intro o ho W hSw; simp only [List.getElem?_toArray, List.getElem?_cons_succ, List.getElem?_cons_zero, Option.some.injEq] at ho; subst ho; (try dsimp only at hSw); go_simp; try with_reducible rfl)
  (try simp only [Act.put, List.setIfInBounds_toArray, List.set_cons_zero, List.set_cons_succ])
  refine wpAnyH_takeD 6 28 (v := ?_) (by kernel_rfl) (by kernel_rfl) (by kernel_rfl) (by kernel_rfl) (by rfl) (fun _ _ _ h => h) ?_ hHeld ?_
  rotate_left 1
  (intro o ho W hSw; simp only [List.getElem?_toArray, List.getElem?_cons_succ, List.getElem?_cons_zero, Option.some.injEq] at ho; subst ho; (try dsimp only at hSw); go_simp; try with_reducible rfl)
  (try simp only [Act.put, List.setIfInBounds_toArray, List.set_cons_zero, List.set_cons_succ])
  refine wpAnyH_takeD 7 29 (v := ?_) (by kernel_rfl) (by kernel_rfl) (by kernel_rfl) (by kernel_rfl) (by rfl) (fun _ _ _ h => h) ?_ hHeld ?_
  rotate_left 1
  (intro o ho W hSw; simp only [List.getElem?_toArray, List.getElem?_cons_succ, List.getElem?_cons_zero, Option.some.injEq] at ho; subst ho; (try dsimp only at hSw); go_simp; try with_reducible rfl)
  (try simp only [Act.put, List.setIfInBounds_toArray, List.set_cons_zero, List.set_cons_succ])
  refine wpAnyH_takeD 8 30 (v := ?_) (by kernel_rfl) (by kernel_rfl) (by kernel_rfl) (by kernel_rfl) (by rfl) (fun _ _ _ h => h) ?_ hHeld ?_
  rotate_left 1
  (intro o ho W hSw; simp only [List.getElem?_toArray, List.getElem?_cons_succ, List.getElem?_cons_zero, Option.some.injEq] at ho; subst ho; (try dsimp only at hSw); go_simp; try with_reducible rfl)
  (try simp only [Act.put, List.setIfInBounds_toArray, List.set_cons_zero, List.set_cons_succ])
  refine wpAnyH_takeD 9 31 (v := ?_) (by kernel_rfl) (by kernel_rfl) (by kernel_rfl) (by kernel_rfl) (by rfl) (fun _ _ _ h => h) ?_ hHeld ?_
  rotate_left 1
  (intro o ho W hSw; simp only [List.getElem?_toArray, List.getElem?_cons_succ, List.getElem?_cons_zero, Option.some.injEq] at ho; subst ho; (try dsimp only at hSw); go_simp; try with_reducible rfl)
  (try simp only [Act.put, List.setIfInBounds_toArray, List.set_cons_zero, List.set_cons_succ])
  refine wpAnyH_takeD 10 32 (v := ?_) (by kernel_rfl) (by kernel_rfl) (by kernel_rfl) (by kernel_rfl) (by rfl) (fun _ _ _ h => h) ?_ hHeld ?_
  rotate_left 1
  (intro o ho W hSw; simp only [List.getElem?_toArray, List.getElem?_cons_succ, List.getElem?_cons_zero, Option.some.injEq] at ho; subst ho; (try dsimp only at hSw); go_simp; try with_reducible rfl)
  (try simp only [Act.put, List.setIfInBounds_toArray, List.set_cons_zero, List.set_cons_succ])
  refine wpAnyH_takeD 11 33 (v := ?_) (by kernel_rfl) (by kernel_rfl) (by kernel_rfl) (by kernel_rfl) (by rfl) (fun _ _ _ h => h) ?_ hHeld ?_
  rotate_left 1
  (intro o ho W hSw; simp only [List.getElem?_toArray, List.getElem?_cons_succ, List.getElem?_cons_zero, Option.some.injEq] at ho; subst ho; (try dsimp only at hSw); go_simp; try with_reducible rfl)
  (try simp only [Act.put, List.setIfInBounds_toArray, List.set_cons_zero, List.set_cons_succ])
  refine wpAnyH_takeD 12 34 (v := ?_) (by kernel_rfl) (by kernel_rfl) (by kernel_rfl) (by kernel_rfl) (by rfl) (fun _ _ _ h => h) ?_ hHeld ?_
  rotate_left 1
  (intro o ho W hSw; simp only [List.getElem?_toArray, List.getElem?_cons_succ, List.getElem?_cons_zero, Option.some.injEq] at ho; subst ho; (try dsimp only at hSw); go_simp; try with_reducible rfl)
  (try simp only [Act.put, List.setIfInBounds_toArray, List.set_cons_zero, List.set_cons_succ])
  refine wpAnyH_takeD 13 35 (v := ?_) (by kernel_rfl) (by kernel_rfl) (by kernel_rfl) (by kernel_rfl) (by rfl) (fun _ _ _ h => h) ?_ hHeld ?_
  rotate_left 1
  (intro o ho W hSw; simp only [List.getElem?_toArray, List.getElem?_cons_succ, List.getElem?_cons_zero, Option.some.injEq] at ho; subst ho; (try dsimp only at hSw); go_simp; try with_reducible rfl)
  (try simp only [Act.put, List.setIfInBounds_toArray, List.set_cons_zero, List.set_cons_succ])
  refine wpAnyH_takeD 14 36 (v := ?_) (by kernel_rfl) (by kernel_rfl) (by kernel_rfl) (by kernel_rfl) (by rfl) (fun _ _ _ h => h) ?_ hHeld ?_
  rotate_left 1
  (intro o ho W hSw; simp only [List.getElem?_toArray, List.getElem?_cons_succ, List.getElem?_cons_zero, Option.some.injEq] at ho; subst ho; (try dsimp only at hSw); go_simp; try with_reducible rfl)
  (try simp only [Act.put, List.setIfInBounds_toArray, List.set_cons_zero, List.set_cons_succ])
  refine wpAnyH_takeD 15 37 (v := ?_) (by kernel_rfl) (by kernel_rfl) (by kernel_rfl) (by kernel_rfl) (by rfl) (fun _ _ _ h => h) ?_ hHeld ?_
  rotate_left 1
  (intro o ho W hSw; simp only [List.getElem?_toArray, List.getElem?_cons_succ, List.getElem?_cons_zero, Option.some.injEq] at ho; subst ho; (try dsimp only at hSw); go_simp; try with_reducible rfl)
  (try simp only [Act.put, List.setIfInBounds_toArray, List.set_cons_zero, List.set_cons_succ])
  refine wpAnyH_takeD 16 38 (v := ?_) (by kernel_rfl) (by kernel_rfl) (by kernel_rfl) (by kernel_rfl) (by rfl) (fun _ _ _ h => h) ?_ hHeld ?_
  rotate_left 1
  (intro o ho W hSw; simp only [List.getElem?_toArray, List.getElem?_cons_succ, List.getElem?_cons_zero, Option.some.injEq] at ho; subst ho; (try dsimp only at hSw); go_simp; try with_reducible rfl)
  (try simp only [Act.put, List.setIfInBounds_toArray, List.set_cons_zero, List.set_cons_succ])
  refine wpAnyH_takeD 17 39 (v := ?_) (by kernel_rfl) (by kernel_rfl) (by kernel_rfl) (by kernel_rfl) (by rfl) (fun _ _ _ h => h) ?_ hHeld ?_
  rotate_left 1
  (intro o ho W hSw; simp only [List.getElem?_toArray, List.getElem?_cons_succ, List.getElem?_cons_zero, Option.some.injEq] at ho; subst ho; (try dsimp only at hSw); go_simp; try with_reducible rfl)
  (try simp only [Act.put, List.setIfInBounds_toArray, List.set_cons_zero, List.set_cons_succ])
  refine wpAnyH_takeD 19 41 (v := ?_) (by kernel_rfl) (by kernel_rfl) (by kernel_rfl) (by kernel_rfl) (by rfl) (fun _ _ _ h => h) ?_ hHeld ?_
  rotate_left 1
  (intro o ho W hSw; simp only [List.getElem?_toArray, List.getElem?_cons_succ, List.getElem?_cons_zero, Option.some.injEq] at ho; subst ho; (try dsimp only at hSw); go_simp; try with_reducible rfl)
  (try simp only [Act.put, List.setIfInBounds_toArray, List.set_cons_zero, List.set_cons_succ])
  refine wpAnyH_takeD 20 42 (v := ?_) (by kernel_rfl) (by kernel_rfl) (by kernel_rfl) (by kernel_rfl) (by rfl) (fun _ _ _ h => h) ?_ hHeld ?_
  rotate_left 1
  (intro o ho W hSw; simp only [List.getElem?_toArray, List.getElem?_cons_succ, List.getElem?_cons_zero, Option.some.injEq] at ho; subst ho; (try dsimp only at hSw); go_simp; try with_reducible rfl)
  (try simp only [Act.put, List.setIfInBounds_toArray, List.set_cons_zero, List.set_cons_succ])
  refine wpAnyH_onlyD 18 (by kernel_rfl) (fun o ho K hK => ?_) (by kernel_rfl)
  simp only [List.getElem?_toArray, List.getElem?_cons_succ, List.getElem?_cons_zero, Option.some.injEq] at ho
  subst ho
  go_simp
  refine (X5.out _ Q7.out).mono ?_
  rintro e w8 ⟨a8, c8, rfl, D8, h⟩
  have Q8 := Lib.hid (Q7.out.step h)
  have DA := Lib.hid D8
  go_wp2_with fail
  refine hK.out _ _ (Q8.out.k.h3) ?_
  clear hK K hHeld
  intro hHeld
  clear h Q7 D8
  refine wpAnyH_onlyD 21 (by kernel_rfl) (fun o ho K hK => ?_) (by kernel_rfl)
  simp only [List.getElem?_toArray, List.getElem?_cons_succ, List.getElem?_cons_zero, Option.some.injEq] at ho
  subst ho
  go_simp
  refine (X6.out _ Q8.out).mono ?_
  rintro e w9 ⟨a9, c9, rfl, D9, h⟩
  have Q9 := Lib.hid (Q8.out.step h)
  have DB := Lib.hid D9
  have DC := Lib.hid (DA.out.below h (Nat.le_refl _))
  go_wp2_with fail
  refine hK.out _ _ (Q9.out.k.h3) ?_
  clear hK K hHeld
  intro hHeld
  clear h Q8 D9 DA
  refine wpAnyH_onlyD 22 (by kernel_rfl) (fun o ho K hK => ?_) (by kernel_rfl)
  simp only [List.getElem?_toArray, List.getElem?_cons_succ, List.getElem?_cons_zero, Option.some.injEq] at ho
  subst ho
  go_simp
  refine (dots_same a8 a9 N c8 c9 X Y _ hM DC.out DB.out).mono ?_
  rintro e w10 ⟨rfl, h⟩
  have Q10 := Lib.hid (Q9.out.step h)
  go_wp2_with fail
  refine hK.out _ _ (Q10.out.k.h3) ?_
  clear hK K hHeld
  intro hHeld
  clear h Q9
  refine wpAnyH_takeD 23 45 (v := ?_) (by kernel_rfl) (by kernel_rfl) (by kernel_rfl) (by kernel_rfl) (by rfl) (fun _ _ _ h => h) ?_ hHeld ?_
  rotate_left 1
  (intro o ho W hSw; simp only [List.getElem?_toArray, List.getElem?_cons_succ, List.getElem?_cons_zero, Option.some.injEq] at ho; subst ho; (try dsimp only at hSw); go_simp; try with_reducible rfl)
  (try simp only [Act.put, List.setIfInBounds_toArray, List.set_cons_zero, List.set_cons_succ])
  refine wpAnyH_takeD 24 46 (v := ?_) (by kernel_rfl) (by kernel_rfl) (by kernel_rfl) (by kernel_rfl) (by rfl) (fun _ _ _ h => h) ?_ hHeld ?_
  rotate_left 1
  (intro o ho W hSw; simp only [List.getElem?_toArray, List.getElem?_cons_succ, List.getElem?_cons_zero, Option.some.injEq] at ho; subst ho; (try dsimp only at hSw); go_simp; try with_reducible rfl)
  (try simp only [Act.put, List.setIfInBounds_toArray, List.set_cons_zero, List.set_cons_succ])
  refine wpAnyH_onlyD 25 (by kernel_rfl) (fun o ho K hK => ?_) (by kernel_rfl)
  simp only [List.getElem?_toArray, List.getElem?_cons_succ, List.getElem?_cons_zero, Option.some.injEq] at ho
  subst ho
  go_simp
  refine (paneAwake_any HC.out _).mono ?_
  rintro e w11 ⟨rfl, h⟩
  have Q11 := Lib.hid (Q10.out.step h)
  go_wp2_with fail
  refine hK.out _ _ (Q11.out.k.h3) ?_
  clear hK K hHeld
  intro hHeld
  clear h Q10
  refine wpAnyH_takeD 26 48 (v := ?_) (by kernel_rfl) (by kernel_rfl) (by kernel_rfl) (by kernel_rfl) (by rfl) (fun _ _ _ h => h) ?_ hHeld ?_
  rotate_left 1
  (intro o ho W hSw; simp only [List.getElem?_toArray, List.getElem?_cons_succ, List.getElem?_cons_zero, Option.some.injEq] at ho; subst ho; (try dsimp only at hSw); go_simp; try with_reducible rfl)
  (try simp only [Act.put, List.setIfInBounds_toArray, List.set_cons_zero, List.set_cons_succ])
  refine wpAnyH_takeD 27 4 (v := ?_) (by kernel_rfl) (by kernel_rfl) (by kernel_rfl) (by kernel_rfl) (by rfl) (fun _ _ _ h => h) ?_ hHeld ?_
  rotate_left 1
  (intro o ho W hSw; simp only [List.getElem?_toArray, List.getElem?_cons_succ, List.getElem?_cons_zero, Option.some.injEq] at ho; subst ho; (try dsimp only at hSw); go_simp; try with_reducible rfl)
  (try simp only [Act.put, List.setIfInBounds_toArray, List.set_cons_zero, List.set_cons_succ])
  refine wpAnyH_done (by kernel_rfl) ?_ _
  go_wp2
  go_ret
  exact ⟨rfl, Q11.out.l⟩
set_option maxRecDepth 100000 in
set_option maxHeartbeats 8000000 in
theorem peval_walk (C : PaneC) (p : Pn) (x y : Int) (w : World) (hx : In64 x) (hy : In64 y) (K : Pan w.heap.size w p) :
    Calls Try.prog 4 #[.agg #[.slice p.x.a p.x.n p.x.c, .slice p.y.a p.y.n p.y.c, .slice p.a p.n p.c], .int .i64 x, .int .i64 y] w fun e w' => e = .returned (.bool true) ∧ Below w.heap.size w w' := by
  have Q0 := Lib.hid (PQ.new 25 K (Nat.le_refl _))
  have HC := Lib.hid C
  clear C K
  by_cases F : fewP p
  rotate_left
  · go_enter Try.func4, Try.ntmps4
    go_wp2_with fail
    refine calls_gen (S := fun W => PQ w W w.heap.size w.heap.size p) Q0.out (fun W0 hS => ?_)
    have Q1 := Lib.hid hS
    clear hS Q0
    refine (few_any p w.heap.size W0 Q1.out.l.size Q1.out.p).mono ?_
    rintro e w1 ⟨rfl, h⟩
    have Q2 := Lib.hid (Q1.out.step h)
    clear h Q1
    rw [decide_eq_false F]
    go_wp2
    go_ret
    exact ⟨rfl, Q2.out.l⟩
  have X1 := Lib.hid (fun (b : Nat) (W : World) (Q : PG w W b p) => HC.out.eval p x y b 0 false w.heap.size W Q.l.size (Q.p.off (by have := Q.e; omega)) F Q.p Q.m hx hy)
  have X2 := Lib.hid (fun (b c : Nat) (W : World) (Q : PG w W b p) (hc : w.heap.size ≤ c) (m : MAt W c 0 false) => rPEval_any p x y c 0 false w.heap.size W hc F Q.p m hx hy)
  generalize evalP p x y = v at *
  go_enter Try.func4, Try.ntmps4
  go_wp2_with fail
  refine calls_gen (S := fun W => PQ w W w.heap.size w.heap.size p) Q0.out (fun W0 hS => ?_)
  have Q1 := Lib.hid hS
  clear hS Q0
  refine (few_any p w.heap.size W0 Q1.out.l.size Q1.out.p).mono ?_
  rintro e w1 ⟨rfl, h⟩
  have Q2 := Lib.hid (Q1.out.step h)
  clear h Q1
  rw [decide_eq_true F]
  have z0 : w.heap.size < w1.heap.size := Q2.out.k.lt
  go_wp2_with fail
  refine wp_gen (S := fun W => PG w W w1.heap.size p ∧ MAt W (w1.heap.size + 1) 0 false) ⟨⟨((Q2.out.alloc _).alloc _).k, (MAt.new w1 _ _).alloc _, ((Q2.out.alloc _).alloc _).l, ((Q2.out.alloc _).alloc _).p, z0⟩, by have := MAt.new (w1.alloc (.cells #[.bool false] 39)) false 41; simpa using this⟩ (fun W1 hS => ?_)
  have G0 := Lib.hid (show PG w W1.drew w1.heap.size p from hS.1.step (Below.refl _ _).drew)
  have N0 := Lib.hid hS.2.drew
  clear hS Q2 F
  generalize w1.heap.size = n at *
  refine wp_region_held_drew (S := fun W => (W.cell? ⟨w.heap.size, 0, none⟩ = some (.slice p.x.a p.x.n p.x.c) ∧ W.cell? ⟨w.heap.size, 1, none⟩ = some (.slice p.y.a p.y.n p.y.c) ∧ W.cell? ⟨w.heap.size, 2, none⟩ = some (.slice p.a p.n p.c)) ∧ W.cell? ⟨n, 0, none⟩ = some (.bool false) ∧ W.cell? ⟨n + 1, 0, none⟩ = some (.bool false)) (by kernel_rfl) ⟨G0.out.c.h3, G0.out.m.c, N0.out.c⟩ (fun hHeld => ?_)
  generalize W1.drew = w0 at *
  refine wpAnyH_takeD 0 16 (v := ?_) (by kernel_rfl) (by kernel_rfl) (by kernel_rfl) (by kernel_rfl) (by rfl) (fun _ _ _ h => h) ?_ hHeld ?_
  rotate_left 1
  (intro o ho W hSw; simp only [List.getElem?_toArray, List.getElem?_cons_succ, List.getElem?_cons_zero, Option.some.injEq] at ho; subst ho; (try dsimp only at hSw); go_simp; try with_reducible rfl)
  (try simp only [Act.put, List.setIfInBounds_toArray, List.set_cons_zero, List.set_cons_succ])
  refine wpAnyH_takeD 1 17 (v := ?_) (by kernel_rfl) (by kernel_rfl) (by kernel_rfl) (by kernel_rfl) (by rfl) (fun _ _ _ h => h) ?_ hHeld ?_
  rotate_left 1
  (intro o ho W hSw; simp only [List.getElem?_toArray, List.getElem?_cons_succ, List.getElem?_cons_zero, Option.some.injEq] at ho; subst ho; (try dsimp only at hSw); go_simp; try with_reducible rfl)
  (try simp only [Act.put, List.setIfInBounds_toArray, List.set_cons_zero, List.set_cons_succ])
  refine wpAnyH_takeD 2 18 (v := ?_) (by kernel_rfl) (by kernel_rfl) (by kernel_rfl) (by kernel_rfl) (by rfl) (fun _ _ _ h => h) ?_ hHeld ?_
  rotate_left 1
  (intro o ho W hSw; simp only [List.getElem?_toArray, List.getElem?_cons_succ, List.getElem?_cons_zero, Option.some.injEq] at ho; subst ho; (try dsimp only at hSw); go_simp; try with_reducible rfl)
  (try simp only [Act.put, List.setIfInBounds_toArray, List.set_cons_zero, List.set_cons_succ])
  refine wpAnyH_takeD 3 19 (v := ?_) (by kernel_rfl) (by kernel_rfl) (by kernel_rfl) (by kernel_rfl) (by rfl) (fun _ _ _ h => h) ?_ hHeld ?_
  rotate_left 1
  (intro o ho W hSw; simp only [List.getElem?_toArray, List.getElem?_cons_succ, List.getElem?_cons_zero, Option.some.injEq] at ho; subst ho; (try dsimp only at hSw); go_simp; try with_reducible rfl)
  (try simp only [Act.put, List.setIfInBounds_toArray, List.set_cons_zero, List.set_cons_succ])
  refine wpAnyH_takeD 5 21 (v := ?_) (by kernel_rfl) (by kernel_rfl) (by kernel_rfl) (by kernel_rfl) (by rfl) (fun _ _ _ h => h) ?_ hHeld ?_
  rotate_left 1
  (intro o ho W hSw; simp only [List.getElem?_toArray, List.getElem?_cons_succ, List.getElem?_cons_zero, Option.some.injEq] at ho; subst ho; (try dsimp only at hSw); go_simp; try with_reducible rfl)
  (try simp only [Act.put, List.setIfInBounds_toArray, List.set_cons_zero, List.set_cons_succ])
  refine wpAnyH_takeD 6 22 (v := ?_) (by kernel_rfl) (by kernel_rfl) (by kernel_rfl) (by kernel_rfl) (by rfl) (fun _ _ _ h => h) ?_ hHeld ?_
  rotate_left 1
  (intro o ho W hSw; simp only [List.getElem?_toArray, List.getElem?_cons_succ, List.getElem?_cons_zero, Option.some.injEq] at ho; subst ho; (try dsimp only at hSw); go_simp; try with_reducible rfl)
  (try simp only [Act.put, List.setIfInBounds_toArray, List.set_cons_zero, List.set_cons_succ])
  refine wpAnyH_takeD 7 23 (v := ?_) (by kernel_rfl) (by kernel_rfl) (by kernel_rfl) (by kernel_rfl) (by rfl) (fun _ _ _ h => h) ?_ hHeld ?_
  rotate_left 1
  (intro o ho W hSw; simp only [List.getElem?_toArray, List.getElem?_cons_succ, List.getElem?_cons_zero, Option.some.injEq] at ho; subst ho; (try dsimp only at hSw); go_simp; try with_reducible rfl)
  (try simp only [Act.put, List.setIfInBounds_toArray, List.set_cons_zero, List.set_cons_succ])
  refine wpAnyH_takeD 8 24 (v := ?_) (by kernel_rfl) (by kernel_rfl) (by kernel_rfl) (by kernel_rfl) (by rfl) (fun _ _ _ h => h) ?_ hHeld ?_
  rotate_left 1
  (intro o ho W hSw; simp only [List.getElem?_toArray, List.getElem?_cons_succ, List.getElem?_cons_zero, Option.some.injEq] at ho; subst ho; (try dsimp only at hSw); go_simp; try with_reducible rfl)
  (try simp only [Act.put, List.setIfInBounds_toArray, List.set_cons_zero, List.set_cons_succ])
  refine wpAnyH_onlyD 4 (by kernel_rfl) (fun o ho K hK => ?_) (by kernel_rfl)
  simp only [List.getElem?_toArray, List.getElem?_cons_succ, List.getElem?_cons_zero, Option.some.injEq] at ho
  subst ho
  go_simp
  refine (X1.out n _ G0.out).mono ?_
  rintro e w1 ⟨rfl, h⟩
  have G1 := Lib.hid (G0.out.fx h)
  have N1 := Lib.hid (h.far N0.out N0.out.lt (by omega))
  go_wp2_with fail
  refine hK.out _ _ (⟨G1.out.c.h3, G1.out.m.c, N1.out.c⟩) ?_
  clear hK K hHeld
  intro hHeld
  clear h G0 N0
  refine wpAnyH_onlyD 9 (by kernel_rfl) (fun o ho K hK => ?_) (by kernel_rfl)
  simp only [List.getElem?_toArray, List.getElem?_cons_succ, List.getElem?_cons_zero, Option.some.injEq] at ho
  subst ho
  go_simp
  refine (X2.out n (n + 1) _ G1.out (by omega) N1.out).mono ?_
  rintro e w2 ⟨rfl, h⟩
  have G2 := Lib.hid (show PG w w2 n p from ⟨G1.out.c.fx h (by omega), h.far G1.out.m G1.out.m.lt (by omega), G1.out.l.trans (h.below G1.out.l.size (by omega)), G1.out.p.fx h (by omega) G1.out.l.size, G1.out.e⟩)
  have N2 := Lib.hid (h.at N1.out N1.out.lt)
  go_wp2_with fail
  refine hK.out _ _ (⟨G2.out.c.h3, G2.out.m.c, N2.out.c⟩) ?_
  clear hK K hHeld
  intro hHeld
  clear h G1 N1
  refine wpAnyH_takeD 10 26 (v := ?_) (by kernel_rfl) (by kernel_rfl) (by kernel_rfl) (by kernel_rfl) (by rfl) (fun _ _ _ h => h) ?_ hHeld ?_
  rotate_left 1
  (intro o ho W hSw; simp only [List.getElem?_toArray, List.getElem?_cons_succ, List.getElem?_cons_zero, Option.some.injEq] at ho; subst ho; (try dsimp only at hSw); go_simp; try with_reducible rfl)
  (try simp only [Act.put, List.setIfInBounds_toArray, List.set_cons_zero, List.set_cons_succ])
  refine wpAnyH_takeD 11 27 (v := ?_) (by kernel_rfl) (by kernel_rfl) (by kernel_rfl) (by kernel_rfl) (by rfl) (fun _ _ _ h => h) ?_ hHeld ?_
  rotate_left 1
  (intro o ho W hSw; simp only [List.getElem?_toArray, List.getElem?_cons_succ, List.getElem?_cons_zero, Option.some.injEq] at ho; subst ho; (try dsimp only at hSw); go_simp; try with_reducible rfl)
  (try simp only [Act.put, List.setIfInBounds_toArray, List.set_cons_zero, List.set_cons_succ])
  refine wpAnyH_takeD 12 28 (v := ?_) (by kernel_rfl) (by kernel_rfl) (by kernel_rfl) (by kernel_rfl) (by rfl) (fun _ _ _ h => h) ?_ hHeld ?_
  rotate_left 1
  (intro o ho W hSw; simp only [List.getElem?_toArray, List.getElem?_cons_succ, List.getElem?_cons_zero, Option.some.injEq] at ho; subst ho; (try dsimp only at hSw); go_simp; try with_reducible rfl)
  (try simp only [Act.put, List.setIfInBounds_toArray, List.set_cons_zero, List.set_cons_succ])
  refine wpAnyH_takeD 13 29 (v := ?_) (by kernel_rfl) (by kernel_rfl) (by kernel_rfl) (by kernel_rfl) (by rfl) (fun _ _ _ h => h) ?_ hHeld ?_
  rotate_left 1
  (intro o ho W hSw; simp only [List.getElem?_toArray, List.getElem?_cons_succ, List.getElem?_cons_zero, Option.some.injEq] at ho; subst ho; (try dsimp only at hSw); go_simp; try with_reducible rfl)
  (try simp only [Act.put, List.setIfInBounds_toArray, List.set_cons_zero, List.set_cons_succ])
  refine wpAnyH_takeD 14 30 (v := ?_) (by kernel_rfl) (by kernel_rfl) (by kernel_rfl) (by kernel_rfl) (by rfl) (fun _ _ _ h => h) ?_ hHeld ?_
  rotate_left 1
  (intro o ho W hSw; simp only [List.getElem?_toArray, List.getElem?_cons_succ, List.getElem?_cons_zero, Option.some.injEq] at ho; subst ho; (try dsimp only at hSw); go_simp; try with_reducible rfl)
  (try simp only [Act.put, List.setIfInBounds_toArray, List.set_cons_zero, List.set_cons_succ])
  refine wpAnyH_takeD 15 31 (v := ?_) (by kernel_rfl) (by kernel_rfl) (by kernel_rfl) (by kernel_rfl) (by rfl) (fun _ _ _ h => h) ?_ hHeld ?_
  rotate_left 1
  (intro o ho W hSw; simp only [List.getElem?_toArray, List.getElem?_cons_succ, List.getElem?_cons_zero, Option.some.injEq] at ho; subst ho; (try dsimp only at hSw); go_simp; try with_reducible rfl)
  (try simp only [Act.put, List.setIfInBounds_toArray, List.set_cons_zero, List.set_cons_succ])
  refine wpAnyH_takeD 16 32 (v := ?_) (by kernel_rfl) (by kernel_rfl) (by kernel_rfl) (by kernel_rfl) (by rfl) (fun _ _ _ h => h) ?_ hHeld ?_
  rotate_left 1
  (intro o ho W hSw; simp only [List.getElem?_toArray, List.getElem?_cons_succ, List.getElem?_cons_zero, Option.some.injEq] at ho; subst ho; (try dsimp only at hSw); go_simp; try with_reducible rfl)
  (try simp only [Act.put, List.setIfInBounds_toArray, List.set_cons_zero, List.set_cons_succ])
  refine wpAnyH_takeD 17 33 (v := ?_) (by kernel_rfl) (by kernel_rfl) (by kernel_rfl) (by kernel_rfl) (by rfl) (fun _ _ _ h => h) ?_ hHeld ?_
  rotate_left 1
  (intro o ho W hSw; simp only [List.getElem?_toArray, List.getElem?_cons_succ, List.getElem?_cons_zero, Option.some.injEq] at ho; subst ho; (try dsimp only at hSw); go_simp; try with_reducible rfl)
  (try simp only [Act.put, List.setIfInBounds_toArray, List.set_cons_zero, List.set_cons_succ])
  refine wpAnyH_takeD 18 34 (v := ?_) (by kernel_rfl) (by kernel_rfl) (by kernel_rfl) (by kernel_rfl) (by rfl) (fun _ _ _ h => h) ?_ hHeld ?_
  rotate_left 1
  (intro o ho W hSw; simp only [List.getElem?_toArray, List.getElem?_cons_succ, List.getElem?_cons_zero, Option.some.injEq] at ho; subst ho; (try dsimp only at hSw); go_simp; try with_reducible rfl)
  (try simp only [Act.put, List.setIfInBounds_toArray, List.set_cons_zero, List.set_cons_succ])
  refine wpAnyH_takeD 19 35 (v := ?_) (by kernel_rfl) (by kernel_rfl) (by kernel_rfl) (by kernel_rfl) (by rfl) (fun _ _ _ h => h) ?_ hHeld ?_
  rotate_left 1
  (intro o ho W hSw; simp only [List.getElem?_toArray, List.getElem?_cons_succ, List.getElem?_cons_zero, Option.some.injEq] at ho; subst ho; (try dsimp only at hSw); go_simp; try with_reducible rfl)
  (try simp only [Act.put, List.setIfInBounds_toArray, List.set_cons_zero, List.set_cons_succ])
  refine wpAnyH_takeD 20 36 (v := ?_) (by kernel_rfl) (by kernel_rfl) (by kernel_rfl) (by kernel_rfl) (by rfl) (fun _ _ _ h => h) ?_ hHeld ?_
  rotate_left 1
  (intro o ho W hSw; simp only [List.getElem?_toArray, List.getElem?_cons_succ, List.getElem?_cons_zero, Option.some.injEq] at ho; subst ho; (try dsimp only at hSw); go_simp; try with_reducible rfl)
  (try simp only [Act.put, List.setIfInBounds_toArray, List.set_cons_zero, List.set_cons_succ])
  refine wpAnyH_takeD 21 37 (v := ?_) (by kernel_rfl) (by kernel_rfl) (by kernel_rfl) (by kernel_rfl) (by rfl) (fun _ _ _ h => h) ?_ hHeld ?_
  rotate_left 1
  (intro o ho W hSw; simp only [List.getElem?_toArray, List.getElem?_cons_succ, List.getElem?_cons_zero, Option.some.injEq] at ho; subst ho; (try dsimp only at hSw); go_simp; try with_reducible rfl)
  (try simp only [Act.put, List.setIfInBounds_toArray, List.set_cons_zero, List.set_cons_succ])
  refine wpAnyH_takeD 22 38 (v := ?_) (by kernel_rfl) (by kernel_rfl) (by kernel_rfl) (by kernel_rfl) (by rfl) (fun _ _ _ h => h) ?_ hHeld ?_
  rotate_left 1
  (intro o ho W hSw; simp only [List.getElem?_toArray, List.getElem?_cons_succ, List.getElem?_cons_zero, Option.some.injEq] at ho; subst ho; (try dsimp only at hSw); go_simp; try with_reducible rfl)
  (try simp only [Act.put, List.setIfInBounds_toArray, List.set_cons_zero, List.set_cons_succ])
  refine wpAnyH_onlyD 23 (by kernel_rfl) (fun o ho K hK => ?_) (by kernel_rfl)
  simp only [List.getElem?_toArray, List.getElem?_cons_succ, List.getElem?_cons_zero, Option.some.injEq] at ho
  subst ho
  go_simp
  refine (paneAwake_any HC.out _).mono ?_
  rintro e w3 ⟨rfl, h⟩
  have G3 := Lib.hid (G2.out.step h)
  have N3 := Lib.hid (N2.out.below h N2.out.lt)
  go_wp2_with fail
  refine hK.out _ _ (⟨G3.out.c.h3, G3.out.m.c, N3.out.c⟩) ?_
  clear hK K hHeld
  intro hHeld
  clear h G2 N2
  refine wpAnyH_takeD 24 40 (v := ?_) (by kernel_rfl) (by kernel_rfl) (by kernel_rfl) (by kernel_rfl) (by rfl) (fun _ _ _ h => h) ?_ hHeld ?_
  rotate_left 1
  (intro o ho W hSw; simp only [List.getElem?_toArray, List.getElem?_cons_succ, List.getElem?_cons_zero, Option.some.injEq] at ho; subst ho; (try dsimp only at hSw); go_simp; try with_reducible rfl)
  (try simp only [Act.put, List.setIfInBounds_toArray, List.set_cons_zero, List.set_cons_succ])
  refine wpAnyH_takeD 25 6 (v := ?_) (by kernel_rfl) (by kernel_rfl) (by kernel_rfl) (by kernel_rfl) (by rfl) (fun _ _ _ h => h) ?_ hHeld ?_
  rotate_left 1
  (intro o ho W hSw; simp only [List.getElem?_toArray, List.getElem?_cons_succ, List.getElem?_cons_zero, Option.some.injEq] at ho; subst ho; (try dsimp only at hSw); go_simp; try with_reducible rfl)
  (try simp only [Act.put, List.setIfInBounds_toArray, List.set_cons_zero, List.set_cons_succ])
  refine wpAnyH_done (by kernel_rfl) ?_ _
  go_wp2
  go_ret
  exact ⟨rfl, G3.out.l⟩
set_option maxHeartbeats 8000000 in
theorem pbetween_walk (C : PaneC) (p : Pn) (x y : Int) (w : World) (hx : In64 x) (hy : In64 y) (K : Pan w.heap.size w p) :
    Calls Try.prog 5 #[.agg #[.slice p.x.a p.x.n p.x.c, .slice p.y.a p.y.n p.y.c, .slice p.a p.n p.c], .int .i64 x, .int .i64 y] w fun e w' => e = .returned (.bool true) ∧ Below w.heap.size w w' := by
  have Q0 := Lib.hid (PQ.new 25 K (Nat.le_refl _))
  have HC := Lib.hid C
  clear C K
  by_cases F : fewP p
  rotate_left
  · go_enter Try.func5, Try.ntmps5
    go_wp2_with fail
    refine calls_gen (S := fun W => PQ w W w.heap.size w.heap.size p) Q0.out (fun W0 hS => ?_)
    have Q1 := Lib.hid hS
    clear hS Q0
    refine (few_any p w.heap.size W0 Q1.out.l.size Q1.out.p).mono ?_
    rintro e w1 ⟨rfl, h⟩
    have Q2 := Lib.hid (Q1.out.step h)
    clear h Q1
    rw [decide_eq_false F]
    go_wp2_with fail
    refine (paneAwake_any HC.out _).mono ?_
    rintro e w2 ⟨rfl, h⟩
    have Q3 := Lib.hid (Q2.out.step h)
    clear h Q2
    go_wp2
    go_ret
    exact ⟨rfl, Q3.out.l⟩
  have X3 := Lib.hid (fun (W : World) (Q : PQ w W w.heap.size w.heap.size p) => HC.out.right p w.heap.size W Q.l.size F Q.p)
  by_cases hp : paneR p = 0
  rotate_left
  · generalize paneR p = q at *
    go_enter Try.func5, Try.ntmps5
    go_wp2_with fail
    refine calls_gen (S := fun W => PQ w W w.heap.size w.heap.size p) Q0.out (fun W0 hS => ?_)
    have Q1 := Lib.hid hS
    clear hS Q0
    refine (few_any p w.heap.size W0 Q1.out.l.size Q1.out.p).mono ?_
    rintro e w1 ⟨rfl, h⟩
    have Q2 := Lib.hid (Q1.out.step h)
    clear h Q1
    rw [decide_eq_true F]
    obtain ⟨c0, c1, c2⟩ := Q2.out.k.h3
    go_wp2_with fail
    refine (X3.out _ Q2.out).mono ?_
    rintro e w2 ⟨rfl, h⟩
    have Q3 := Lib.hid (Q2.out.step h)
    clear h Q2 c0 c1 c2 F
    go_wp2_with fail
    refine (paneAwake_any HC.out _).mono ?_
    rintro e w3 ⟨rfl, h⟩
    have Q4 := Lib.hid (Q3.out.step h)
    clear h Q3
    go_wp2
    go_ret
    exact ⟨rfl, Q4.out.l⟩
  have X1 := Lib.hid (fun (b : Nat) (W : World) (Q : PG w W b p) => HC.out.eval p x y b 0 false w.heap.size W Q.l.size (Q.p.off (by have := Q.e; omega)) F Q.p Q.m hx hy)
  have X2 := Lib.hid (fun (b : Nat) (W : World) (Q : PG w W b p) => HC.out.bounds p w.heap.size W Q.l.size F Q.p)
  have B := pane_between hp x y
  rw [hp] at X3
  generalize evalP p x y = v at *
  generalize lowP p = lo at *
  generalize highP p = hi at *
  obtain ⟨b1, b2⟩ := B
  clear hp
  go_enter Try.func5, Try.ntmps5
  go_wp2_with fail
  refine calls_gen (S := fun W => PQ w W w.heap.size w.heap.size p) Q0.out (fun W0 hS => ?_)
  have Q1 := Lib.hid hS
  clear hS Q0
  refine (few_any p w.heap.size W0 Q1.out.l.size Q1.out.p).mono ?_
  rintro e w1 ⟨rfl, h⟩
  have Q2 := Lib.hid (Q1.out.step h)
  clear h Q1
  rw [decide_eq_true F]
  obtain ⟨c0, c1, c2⟩ := Q2.out.k.h3
  go_wp2_with fail
  refine (X3.out _ Q2.out).mono ?_
  rintro e w2 ⟨rfl, h⟩
  have Q3 := Lib.hid (Q2.out.step h)
  clear h Q2 c0 c1 c2 F
  have z0 : w.heap.size < w2.heap.size := Q3.out.k.lt
  obtain ⟨c0, c1, c2⟩ := Q3.out.k.h3
  go_wp2_with fail
  refine calls_gen (S := fun W => PG w W w2.heap.size p) ⟨(Q3.out.alloc _).k, MAt.new w2 _ _, (Q3.out.alloc _).l, (Q3.out.alloc _).p, z0⟩ (fun W1 hS => ?_)
  have G0 := Lib.hid hS
  clear hS Q3 c0 c1 c2
  generalize w2.heap.size = n at *
  refine (X1.out n _ G0.out).mono ?_
  rintro e w3 ⟨rfl, h⟩
  have G1 := Lib.hid (G0.out.fx h)
  clear h G0
  obtain ⟨c0, c1, c2⟩ := G1.out.c.h3
  go_wp2_with fail
  refine (X2.out n _ G1.out).mono ?_
  rintro e w4 ⟨rfl, h⟩
  have G2 := Lib.hid (G1.out.step h)
  clear h G1 c0 c1 c2
  have mc := G2.out.m.c
  go_wp2_with fail
  refine (paneAwake_any HC.out _).mono ?_
  rintro e w5 ⟨rfl, h⟩
  have G3 := Lib.hid (G2.out.step h)
  clear h G2 mc
  go_wp2
  go_ret
  exact ⟨rfl, G3.out.l⟩
end Go.Proofs.Ytbggakbjppnchaa
