/- The contract of the document's Eval of panes. -/
import Derived.Test.YtbggakbjppnchaaPf
namespace Go.Proofs.Ytbggakbjppnchaa
open Go.RowKit
set_option linter.unusedVariables false
set_option linter.unusedSimpArgs false

/-- a pane that came in, its copy in block m, and a flag that is kept -/
structure PF (w W : World) (B m b k : Nat) (o : Bool) (p : Pn) : Prop where
  c : BW W m [.slice p.x.a p.x.n p.x.c, .slice p.y.a p.y.n p.y.c, .slice p.a p.n p.c]
  f : Flag w W b k o
  p : Pan B W p
  z : B ≤ b
  e : b < m
theorem PF.below {w W W' : World} {B C m b k : Nat} {o : Bool} {p : Pn} (Q : PF w W B m b k o p) (h : Below C W W') (hm : m < C) (hw : w.heap.size ≤ C) : PF w W' B m b k o p :=
  ⟨Q.c.below h hm, ⟨Q.f.m.below h (by have := Q.e; omega), Q.f.f.then h hw, Q.f.lt⟩, Q.p.keep h (by have := Q.z; have := Q.e; omega), Q.z, Q.e⟩
theorem PF.step {w W W' : World} {B m b k : Nat} {o : Bool} {p : Pn} (Q : PF w W B m b k o p) (h : Below W.heap.size W W') : PF w W' B m b k o p := Q.below h Q.c.lt Q.f.f.size
theorem PF.drew {w W : World} {B m b k : Nat} {o : Bool} {p : Pn} (Q : PF w W B m b k o p) : PF w W.drew B m b k o p := Q.step (Below.refl _ _).drew
theorem PF.alloc {w W : World} {B m b k : Nat} {o : Bool} {p : Pn} (Q : PF w W B m b k o p) (ob : Obj) : PF w (W.alloc ob) B m b k o p := Q.step ((Below.refl _ _).alloc (Nat.le_refl _) ob)
theorem PF.fx {w W W' : World} {B m b k : Nat} {o q : Bool} {p : Pn} (Q : PF w W B m b k o p) (h : FxW W.heap.size W b k q W') : PF w W' B m b k q p :=
  ⟨Q.c.fx h (by have := Q.e; omega), Q.f.fx h, Q.p.fx h Q.z (by have := Q.z; have := Q.e; have := Q.c.lt; omega), Q.z, Q.e⟩
theorem PF.new {w : World} {B b k : Nat} {o : Bool} {p : Pn} (t : TypeId) (h : Pan B w p) (m : MAt w b k o) (z : B ≤ b) : PF w (w.alloc (.cells #[.slice p.x.a p.x.n p.x.c, .slice p.y.a p.y.n p.y.c, .slice p.a p.n p.c] t)) B w.heap.size b k o p :=
  ⟨BW.new w _ [_, _, _] t rfl, Flag.start m ((Below.refl _ _).alloc (Nat.le_refl _) _), h.keep ((Below.refl w.heap.size w).alloc (Nat.le_refl _) _) (by have := m.lt; omega), z, m.lt⟩
/-- the cells of a round of Eval -/
def EwS (m bY oY j : Nat) (s0 s1 s2 : Value) (y : Int) (W : World) : Prop :=
  W.cell? ⟨m, 0, none⟩ = some s0 ∧ W.cell? ⟨m, 1, none⟩ = some s1 ∧ W.cell? ⟨m, 2, none⟩ = some s2 ∧ W.cell? ⟨bY, oY + j, none⟩ = some (.int .i64 y)
theorem EwS.of {w W : World} {B m b k : Nat} {o : Bool} {xa a : Option Addr} {xn xc yn yc n c bY oY j : Nat} {xv yv : Nat → Int} {r : Nat → Sl} (Q : PF w W B m b k o ⟨⟨xa, xn, xc, xv⟩, ⟨some ⟨bY, oY, none⟩, yn, yc, yv⟩, a, n, c, r⟩) (h : j < yn) :
    EwS m bY oY j (.slice xa xn xc) (.slice (some ⟨bY, oY, none⟩) yn yc) (.slice a n c) (yv j) W := by
  obtain ⟨h0, h1, h2⟩ := Q.c.h3
  obtain ⟨b1, o1, e, _, hc⟩ := Q.p.y.at' (by show 0 < yn; omega)
  dsimp only at e hc
  cases e
  exact ⟨h0, h1, h2, hc j h⟩
set_option maxRecDepth 100000 in
set_option maxHeartbeats 8000000 in
theorem rPEval_any (p : Pn) (x y : Int) (b k : Nat) (o : Bool) (B : Nat) (w : World) (hB : B ≤ b) (F : fewP p) (K : Pan B w p) (m : MAt w b k o) (hx : In64 x) (hy : In64 y) :
    Calls Try.prog 17 #[.pointer (some ⟨b, k, none⟩), .agg #[.slice p.x.a p.x.n p.x.c, .slice p.y.a p.y.n p.y.c, .slice p.a p.n p.c], .int .i64 x, .int .i64 y] w fun e w' => e = .returned (.int .i64 (evalP p x y)) ∧ FxW w.heap.size w b k o w' := by
  have hlt := m.lt
  have Q0 := Lib.hid (PF.new 25 K m hB)
  have X := Lib.hid (fun (W : World) (Q : PF w W B w.heap.size b k o p) => rPRight_any p B W (by have := Q.f.f.size; omega) F Q.p)
  by_cases hp : paneR p = 0
  rotate_left
  · have E := Lib.hid (show 0 = evalP p x y by unfold evalP; rw [if_neg hp])
    generalize evalP p x y = q at *
    generalize paneR p = q2 at *
    clear K F m
    go_enter Try.func17, Try.ntmps17
    go_wp2_with fail
    refine calls_gen (S := fun W => PF w W B w.heap.size b k o p) Q0.out (fun W1 hS => ?_)
    have Q1 := Lib.hid hS
    clear hS Q0
    refine (X.out _ Q1.out).mono ?_
    rintro e w1 ⟨rfl, h⟩
    have Q2 := Lib.hid (Q1.out.step h)
    clear h Q1 X
    go_wp2
    go_ret
    exact ⟨retI E.out, Q2.out.f.f⟩
  rw [hp] at X
  have E := Lib.hid (show evalN p.y.n p.y.v (rowV p x) y = evalP p x y by unfold evalP; rw [if_pos hp])
  have XR := Lib.hid (fun (j : Nat) (hj : j < p.n) (W : World) (Q : PF w W B w.heap.size b k o p) => rPRow_any p (j : Int) B W (by have := Q.f.f.size; omega) F Q.p (by unfold In64; have := F.2.2.1; omega))
  have hM : ∀ j, j < p.n → rowM p (j : Int) = p.x.n := fun j hj => by
    obtain ⟨⟨s1, s2⟩, -⟩ := paneR_ok hp
    unfold rowM rowN
    rw [if_pos (by omega), show (j : Int).toNat = j from rfl, if_pos hj, s2 j hj, Nat.min_self]
  have XE := Lib.hid (fun (j : Nat) (hj : j < p.n) (a1 : Option Addr) (c1 : Nat) (W : World) (D : Dots W a1 p.x.n c1 p.x.v (p.r j).v) (M : MAt W b k o) => by
    have e := (pane_fits hp x y).1 j hj
    have := rTEval_any a1 p.x.n c1 p.x.v (p.r j).v x b k o W (by have := F.1; omega) hx D M
    rw [e, Bool.or_false] at this
    exact this)
  have XF := Lib.hid (fun (a1 : Option Addr) (c1 : Nat) (W : World) (D : Dots W a1 p.y.n c1 p.y.v (rowV p x)) (M : MAt W b k o) => by
    have e := (pane_fits hp x y).2
    have := rTEval_any a1 p.y.n c1 p.y.v (rowV p x) y b k o W (by have := F.2.1; omega) hy D M
    rw [e, Bool.or_false] at this
    exact this)
  rw [E.out] at XF
  have WF := Lib.hid (fun (j : Nat) (hj : j < p.n) => And.intro (K.y.wf j (by have := (paneR_ok hp).1.1; omega)) (wf_inT (rowV_inT hp x hj)))
  have RV := Lib.hid (fun (j : Nat) => (show evalN p.x.n p.x.v (p.r j).v x = rowV p x j from rfl))
  obtain ⟨⟨s1, -⟩, -⟩ := paneR_ok hp
  have HM := Lib.hid hM
  have bx := F.1
  have bn := F.2.2.1
  generalize rowV p x = rv at *
  generalize evalP p x y = q at *
  clear E hM hp K F m
  obtain ⟨⟨xa, xn, xc, xv⟩, ⟨ya, yn, yc, yv⟩, a, n, c, r⟩ := p
  dsimp only at *
  obtain ⟨s3, s4, s5, s6, rfl⟩ := s1
  obtain ⟨bY, oY, hya, -, -⟩ := Q0.out.p.y.at' (by show 0 < n; omega)
  dsimp only at hya
  subst hya
  obtain ⟨i0, hi, hz0, hz1, hz2⟩ := info_parts dotInfo
  have U := Try.underlying33
  go_enter Try.func17, Try.ntmps17
  go_wp2_with fail
  refine calls_gen (S := fun W => PF w W B w.heap.size b k o ⟨⟨xa, xn, xc, xv⟩, ⟨some ⟨bY, oY, none⟩, n, yc, yv⟩, a, n, c, r⟩ ∧ w.heap.size + 1 ≤ W.heap.size) ⟨Q0.out, by simp⟩ (fun W1 hS => ?_)
  have Q1 := Lib.hid hS.1
  have Z1 := hS.2
  clear hS Q0
  refine (X.out _ Q1.out).mono ?_
  rintro e w1 ⟨rfl, h⟩
  have Q2 := Lib.hid (Q1.out.step h)
  have Z2 : w.heap.size + 1 ≤ w1.heap.size := by have := h.size; omega
  clear h Q1 X Z1
  go_wp2
  go_loopw [9, 10] (fun v i wr => ∃ j : Nat, j ≤ n ∧ i = .int .i64 j ∧ wr.ownsRow (w.heap.size + 1) 50 2 v j (dotL yv rv j) ∧ PF w wr B w.heap.size b k o ⟨⟨xa, xn, xc, xv⟩, ⟨some ⟨bY, oY, none⟩, n, yc, yv⟩, a, n, c, r⟩ ∧ w.heap.size + 1 ≤ wr.heap.size) (fun _ i _ => n - (intOf i).toNat)
  case atStart => exact ⟨0, by omega, rfl, World.ownsRow_nil _ _ _ _, Q2.out, Z2⟩
  case round =>
    obtain ⟨j, hj, rfl, hO, hQ, hZ⟩ := hrel
    have Q3 := Lib.hid hQ
    have O3 := Lib.hid hO
    clear hO hQ Q2 Z2
    by_cases hlj : j < n
    · have z0 : (0 : Int) ≤ (j : Int) := by omega
      have z1 : (j : Int) < (n : Int) := by omega
      have T0 := Lib.hid (EwS.of Q3.out.drew hlj)
      obtain ⟨c0, c1, c2, c3⟩ := EwS.of Q3.out hlj
      go_wp2_with fail
      refine wp_region_held_drew (S := EwS w.heap.size bY oY j (.slice xa xn xc) (.slice (some ⟨bY, oY, none⟩) n yc) (.slice a n c) (yv j)) (by kernel_rfl) T0.out (fun hHeld => ?_)
      have Q4 := Lib.hid Q3.out.drew
      have O4 := Lib.hid (show wr.drew.ownsRow (w.heap.size + 1) 50 2 _ j (dotL yv rv j) from O3.out)
      have hZ4 : w.heap.size + 1 ≤ wr.drew.heap.size := hZ
      clear Q3 O3 hZ c0 c1 c2 c3 T0
      generalize wr.drew = w0 at *
      unfold EwS at hHeld ⊢
      refine wpAnyH_takeD 0 21 (v := ?_) (by kernel_rfl) (by kernel_rfl) (by kernel_rfl) (by kernel_rfl) (by rfl) (fun _ _ _ h => h) ?_ hHeld ?_
      rotate_left 1
      (intro o ho W hSw; simp only [List.getElem?_toArray, List.getElem?_cons_succ, List.getElem?_cons_zero, Option.some.injEq] at ho; subst ho; (try dsimp only at hSw); go_simp; try with_reducible rfl)
      (try simp only [Act.put, List.setIfInBounds_toArray, List.set_cons_zero, List.set_cons_succ])
      refine wpAnyH_takeD 1 22 (v := ?_) (by kernel_rfl) (by kernel_rfl) (by kernel_rfl) (by kernel_rfl) (by rfl) (fun _ _ _ h => h) ?_ hHeld ?_
      rotate_left 1
      (intro o ho W hSw; simp only [List.getElem?_toArray, List.getElem?_cons_succ, List.getElem?_cons_zero, Option.some.injEq] at ho; subst ho; (try dsimp only at hSw); go_simp; try with_reducible rfl)
      (try simp only [Act.put, List.setIfInBounds_toArray, List.set_cons_zero, List.set_cons_succ])
      refine wpAnyH_takeD 2 23 (v := ?_) (by kernel_rfl) (by kernel_rfl) (by kernel_rfl) (by kernel_rfl) (by rfl) (fun _ _ _ h => h) ?_ hHeld ?_
      rotate_left 1
      (intro o ho W hSw; simp only [List.getElem?_toArray, List.getElem?_cons_succ, List.getElem?_cons_zero, Option.some.injEq] at ho; subst ho; (try dsimp only at hSw); go_simp; try with_reducible rfl)
      (try simp only [Act.put, List.setIfInBounds_toArray, List.set_cons_zero, List.set_cons_succ])
      refine wpAnyH_takeD 3 24 (v := ?_) (by kernel_rfl) (by kernel_rfl) (by kernel_rfl) (by kernel_rfl) (by rfl) (fun _ _ _ h => h) ?_ hHeld ?_
      rotate_left 1
      (intro o ho W hSw; simp only [List.getElem?_toArray, List.getElem?_cons_succ, List.getElem?_cons_zero, Option.some.injEq] at ho; subst ho; (try dsimp only at hSw); go_simp; try with_reducible rfl)
      (try simp only [Act.put, List.setIfInBounds_toArray, List.set_cons_zero, List.set_cons_succ])
      refine wpAnyH_takeD 4 25 (v := ?_) (by kernel_rfl) (by kernel_rfl) (by kernel_rfl) (by kernel_rfl) (by rfl) (fun _ _ _ h => h) ?_ hHeld ?_
      rotate_left 1
      (intro o ho W hSw; simp only [List.getElem?_toArray, List.getElem?_cons_succ, List.getElem?_cons_zero, Option.some.injEq] at ho; subst ho; (try dsimp only at hSw); go_simp; try with_reducible rfl)
      (try simp only [Act.put, List.setIfInBounds_toArray, List.set_cons_zero, List.set_cons_succ])
      refine wpAnyH_takeD 5 26 (v := ?_) (by kernel_rfl) (by kernel_rfl) (by kernel_rfl) (by kernel_rfl) (by rfl) (fun _ _ _ h => h) ?_ hHeld ?_
      rotate_left 1
      (intro o ho W hSw; simp only [List.getElem?_toArray, List.getElem?_cons_succ, List.getElem?_cons_zero, Option.some.injEq] at ho; subst ho; (try dsimp only at hSw); go_simp; try with_reducible rfl)
      (try simp only [Act.put, List.setIfInBounds_toArray, List.set_cons_zero, List.set_cons_succ])
      refine wpAnyH_takeD 6 27 (v := ?_) (by kernel_rfl) (by kernel_rfl) (by kernel_rfl) (by kernel_rfl) (by rfl) (fun _ _ _ h => h) ?_ hHeld ?_
      rotate_left 1
      (intro o ho W hSw; simp only [List.getElem?_toArray, List.getElem?_cons_succ, List.getElem?_cons_zero, Option.some.injEq] at ho; subst ho; (try dsimp only at hSw); go_simp; try with_reducible rfl)
      (try simp only [Act.put, List.setIfInBounds_toArray, List.set_cons_zero, List.set_cons_succ])
      refine wpAnyH_takeD 7 28 (v := ?_) (by kernel_rfl) (by kernel_rfl) (by kernel_rfl) (by kernel_rfl) (by rfl) (fun _ _ _ h => h) ?_ hHeld ?_
      rotate_left 1
      (intro o ho W hSw; simp only [List.getElem?_toArray, List.getElem?_cons_succ, List.getElem?_cons_zero, Option.some.injEq] at ho; subst ho; (try dsimp only at hSw); go_simp; try with_reducible rfl)
      (try simp only [Act.put, List.setIfInBounds_toArray, List.set_cons_zero, List.set_cons_succ])
      refine wpAnyH_takeD 8 29 (v := ?_) (by kernel_rfl) (by kernel_rfl) (by kernel_rfl) (by kernel_rfl) (by rfl) (fun _ _ _ h => h) ?_ hHeld ?_
      rotate_left 1
      (intro o ho W hSw; simp only [List.getElem?_toArray, List.getElem?_cons_succ, List.getElem?_cons_zero, Option.some.injEq] at ho; subst ho; (try dsimp only at hSw); go_simp; try with_reducible rfl)
      (try simp only [Act.put, List.setIfInBounds_toArray, List.set_cons_zero, List.set_cons_succ])
      refine wpAnyH_takeD 10 31 (v := ?_) (by kernel_rfl) (by kernel_rfl) (by kernel_rfl) (by kernel_rfl) (by rfl) (fun _ _ _ h => h) ?_ hHeld ?_
      rotate_left 1
      (intro o ho W hSw; simp only [List.getElem?_toArray, List.getElem?_cons_succ, List.getElem?_cons_zero, Option.some.injEq] at ho; subst ho; (try dsimp only at hSw); go_simp; try with_reducible rfl)
      (try simp only [Act.put, List.setIfInBounds_toArray, List.set_cons_zero, List.set_cons_succ])
      refine wpAnyH_onlyD 9 (by kernel_rfl) (fun o ho K hK => ?_) (by kernel_rfl)
      simp only [List.getElem?_toArray, List.getElem?_cons_succ, List.getElem?_cons_zero, Option.some.injEq] at ho
      subst ho
      go_simp
      refine (XR.out j hlj _ Q4.out).mono ?_
      rintro e w1 ⟨a1, c1, rfl, D1, h⟩
      rw [HM.out j hlj] at D1 ⊢
      have Q5 := Lib.hid (Q4.out.step h)
      have O5 := Lib.hid (own_below O4.out h)
      have hZ5 : w.heap.size + 1 ≤ w1.heap.size := by have := h.size; omega
      have D5 := Lib.hid D1
      go_wp2_with fail
      refine hK.out _ _ (EwS.of Q5.out hlj) ?_
      clear hK K hHeld
      intro hHeld
      clear h D1 Q4 O4 hZ4
      refine wpAnyH_onlyD 11 (by kernel_rfl) (fun o ho K hK => ?_) (by kernel_rfl)
      simp only [List.getElem?_toArray, List.getElem?_cons_succ, List.getElem?_cons_zero, Option.some.injEq] at ho
      subst ho
      go_simp
      refine (XE.out j hlj a1 c1 _ D5.out Q5.out.f.m).mono ?_
      rintro e w2 ⟨rfl, h⟩
      rw [RV.out]
      have Q6 := Lib.hid (Q5.out.fx h)
      have O6 := Lib.hid (own_fx O5.out h (by omega))
      have hZ6 : w.heap.size + 1 ≤ w2.heap.size := by have := h.size; omega
      go_wp2_with fail
      refine hK.out _ _ (EwS.of Q6.out hlj) ?_
      clear hK K hHeld
      intro hHeld
      clear h D5 Q5 O5 hZ5
      refine wpAnyH_takeD 12 33 (v := ?_) (by kernel_rfl) (by kernel_rfl) (by kernel_rfl) (by kernel_rfl) (by rfl) (fun _ _ _ h => h) ?_ hHeld ?_
      rotate_left 1
      (intro o ho W hSw; simp only [List.getElem?_toArray, List.getElem?_cons_succ, List.getElem?_cons_zero, Option.some.injEq] at ho; subst ho; (try dsimp only at hSw); go_simp; try with_reducible rfl)
      (try simp only [Act.put, List.setIfInBounds_toArray, List.set_cons_zero, List.set_cons_succ])
      refine wpAnyH_onlyD 13 (by kernel_rfl) (fun o ho K hK => ?_) (by kernel_rfl)
      simp only [List.getElem?_toArray, List.getElem?_cons_succ, List.getElem?_cons_zero, Option.some.injEq] at ho
      subst ho
      go_simp
      refine hK.out _ _ (EwS.of (Q6.out.alloc _) hlj) ?_
      clear hK K hHeld
      intro hHeld
      refine wpAnyH_onlyD 14 (by kernel_rfl) (fun o ho K hK => ?_) (by kernel_rfl)
      simp only [List.getElem?_toArray, List.getElem?_cons_succ, List.getElem?_cons_zero, Option.some.injEq] at ho
      subst ho
      refine step_append_lies _ (by rfl) (.tmp 21) (.tmp 34) 33 (by rfl) (w.heap.size + 1) 50 i0 (.agg #[.int .i64 0, .int .i64 0]) 2 16 U hi hz0 hz1 hz2 rfl (by omega) _ j (dotL yv rv j) (by rfl) (O6.out.alloc _) ⟨w2.heap.size, 0, none⟩ 1 1 [.int .i64 (yv j), .int .i64 (rv j)] (by rfl) rfl (World.news_of_block (heap_alloc_new w2 _)) (by simp [Value.oneCell']) (by omega) (by unfold maxLen; omega) (by omega) (by simp; omega) _ rfl ?_
      intro g cap w3 hO hG hat hlt2
      have HB := (Below.refl (w.heap.size + 1) (w2.alloc (.cells #[.int .i64 (yv j), .int .i64 (rv j)] 50))).grown hG (by simp; omega) (fun m e => (O6.out.lt m e).1)
      have HB2 := ((Below.refl (w.heap.size + 1) w2).alloc hZ6 (.cells #[.int .i64 (yv j), .int .i64 (rv j)] 50)).trans HB
      have Q7 := Lib.hid (Q6.out.below HB2 (by omega) (by omega))
      have O7 := Lib.hid hO
      have hZ7 : w.heap.size + 1 ≤ w3.heap.size := by have := HB2.size; omega
      refine hK.out _ _ (EwS.of Q7.out hlj) ?_
      clear hK K hHeld hO hG HB HB2 hat Q6 O6
      intro hHeld
      refine wpAnyH_takeD 15 9 (v := ?_) (by kernel_rfl) (by kernel_rfl) (by kernel_rfl) (by kernel_rfl) (by rfl) (fun _ _ _ h => h) ?_ hHeld ?_
      rotate_left 1
      (intro o ho W hSw; simp only [List.getElem?_toArray, List.getElem?_cons_succ, List.getElem?_cons_zero, Option.some.injEq] at ho; subst ho; (try dsimp only at hSw); go_simp; try with_reducible rfl)
      (try simp only [Act.put, List.setIfInBounds_toArray, List.set_cons_zero, List.set_cons_succ])
      refine wpAnyH_done (by kernel_rfl) ?_ _
      clear hHeld
      go_wp2
      go_roundw
      case rel => exact ⟨j + 1, by omega, by go_num, O7.out, Q7.out, hZ7⟩
      case measure => simp [intOf]; omega
    · have e : j = n := by omega
      subst e
      obtain ⟨a', c', hv, D, -⟩ := owned_dots O3.out WF.out
      have D2 := Lib.hid D
      subst hv
      obtain ⟨c0, c1, c2⟩ := Q3.out.c.h3
      dsimp only at c0 c1 c2
      clear D O3
      go_wp2_with fail
      refine (XF.out a' c' _ D2.out Q3.out.f.m).mono ?_
      rintro e w2 ⟨rfl, h⟩
      have Q4 := Lib.hid (Q3.out.fx h)
      clear h Q3 c0 c1 c2
      go_wp2
      go_ret
      exact ⟨rfl, Q4.out.f.f⟩
end Go.Proofs.Ytbggakbjppnchaa
