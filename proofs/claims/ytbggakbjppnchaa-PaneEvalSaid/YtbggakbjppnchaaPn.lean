/- The program's pane: Eval; what pane tells. -/
import Derived.Test.YtbggakbjppnchaaPx
namespace Go.Proofs.Ytbggakbjppnchaa
open Go.RowKit
set_option linter.unusedVariables false
set_option linter.unusedSimpArgs false
attribute [local go_sem] Oper.semAt_some

theorem KeepsOthers.ofBelow {C : Nat} {W W' : World} (h : Below C W W') (hC : W.heap.size ≤ C) : KeepsOthers W W' :=
  ⟨h.size, fun k o hk _ => (h.block k (by have := (Array.getElem?_eq_some_iff.1 hk).1; omega)).trans hk⟩
theorem KeepsOthers.ofFx {W W' : World} {b k : Nat} {o : Bool} (h : FxW W.heap.size W b k o W') : KeepsOthers W W' :=
  (KeepsOthers.setCell W ⟨b, k, none⟩ (.bool o)).trans (KeepsOthers.ofBelow h (by rw [set_size]; exact Nat.le_refl _))
theorem below_put {W : World} (l : Nat) (o' : Obj) (h : l < W.heap.size) : Below l W (W.putObj l o') :=
  (Below.refl l W).grown (grownBy_putObj' W l o') (by omega) (fun k e => by cases e; omega)
theorem grown_set (W : World) (g i : Nat) (v : Value) : W.grownBy (W.setCell ⟨g, i, none⟩ v) (some g) :=
  ⟨rfl, rfl, rfl, by simp [World.setCell], fun k hk hne => by
    have : k ≠ g := fun e => hne (by rw [e])
    simp [World.setCell, Array.getElem?_modify, this.symm]⟩
theorem owns_nc {W : World} {base : Nat} {e : TypeId} {size : Nat} {v : Value} {n : Nat} {xs : List Value} {l : Nat} {o : Obj} (h : W.ownsRow base e size v n xs) (hl : W.heap[l]? = some o) (ho : o.isCells = false) : v.ownBlock ≠ some l := by
  obtain ⟨_, ⟨rfl, _⟩ | ⟨g, cap, cur, rfl, _, hg, _⟩⟩ := h
  · simp [Value.ownBlock]
  · intro c
    have : g = l := by simpa [Value.ownBlock] using c
    subst this
    rw [hg] at hl
    cases hl
    cases ho
theorem owns_cells {W : World} {base : Nat} {e : TypeId} {size : Nat} {v : Value} {n : Nat} {xs : List Value} (h : W.ownsRow base e size v n xs) : ∀ (j : Nat) (o : Obj), v.ownBlock = some j → W.heap[j]? = some o → o.isCells = true := by
  obtain ⟨_, ⟨rfl, _⟩ | ⟨g, cap, cur, rfl, _, hg, _⟩⟩ := h
  · intro j o hj; cases hj
  · intro j o hj hk
    have : g = j := by simpa [Value.ownBlock] using hj
    subst this
    rw [hg] at hk
    cases hk
    rfl
theorem owns_form {W : World} {base : Nat} {e : TypeId} {size : Nat} {v : Value} {n : Nat} {xs : List Value} (h : W.ownsRow base e size v n xs) : ∃ a c, v = .slice a n c := by
  obtain ⟨_, ⟨rfl, rfl⟩ | ⟨g, cap, cur, rfl, _⟩⟩ := h
  · exact ⟨none, 0, rfl⟩
  · exact ⟨_, cap, rfl⟩
/-- what Eval holds: the flag, the copies of its parameters, the pane; A the list's box -/
structure EvW (w W : World) (B b k : Nat) (o : Bool) (p : Pn) (x : Int) (A : Nat) : Prop where
  m : BW W w.heap.size [.pointer (some ⟨b, k, none⟩)]
  c : BW W (w.heap.size + 1) [.slice p.x.a p.x.n p.x.c, .slice p.y.a p.y.n p.y.c, .slice p.a p.n p.c]
  x : BW W (w.heap.size + 2) [.int .i64 x]
  f : Flag w W b k o
  q : Pan B W p
  z : B ≤ w.heap.size
  a : w.heap.size + 3 ≤ A
theorem EvW.below {w W W' : World} {B b k C A : Nat} {o : Bool} {p : Pn} {x : Int} (Q : EvW w W B b k o p x A) (h : Below C W W') (hC : w.heap.size + 3 ≤ C) : EvW w W' B b k o p x A :=
  ⟨Q.m.below h (by omega), Q.c.below h (by omega), Q.x.below h (by omega), ⟨Q.f.m.below h (by have := Q.f.lt; omega), Q.f.f.then h (by omega), Q.f.lt⟩, Q.q.keep h (by have := Q.z; omega), Q.z, Q.a⟩
theorem EvW.step {w W W' : World} {B b k A : Nat} {o : Bool} {p : Pn} {x : Int} (Q : EvW w W B b k o p x A) (h : Below W.heap.size W W') : EvW w W' B b k o p x A := Q.below h Q.x.lt
theorem EvW.fx {w W W' : World} {B b k A : Nat} {o : Bool} {p : Pn} {x : Int} (Q : EvW w W B b k o p x A) (h : FxW W.heap.size W b k o W') (ho : PanOff p b) : EvW w W' B b k o p x A :=
  ⟨Q.m.fx h (by have := Q.f.lt; omega), Q.c.fx h (by have := Q.f.lt; omega), Q.x.fx h (by have := Q.f.lt; omega), Q.f.fx h, Q.q.fxo h (by have := Q.z; have := Q.m.lt; omega) ho, Q.z, Q.a⟩
theorem EvW.at {w W : World} {B b k A A' : Nat} {o : Bool} {p : Pn} {x : Int} (Q : EvW w W B b k o p x A) (h : w.heap.size + 3 ≤ A') : EvW w W B b k o p x A' := ⟨Q.m, Q.c, Q.x, Q.f, Q.q, Q.z, h⟩
theorem EvW.box {w W : World} {B b k A : Nat} {o : Bool} {p : Pn} {x : Int} (Q : EvW w W B b k o p x A) : w.heap.size + 3 ≤ W.heap.size := Q.x.lt
theorem Dots.putL {W : World} {a : Option Addr} {n c l : Nat} {X Y : Nat → Int} {o o' : Obj} (D : Dots W a n c X Y) (hl : W.heap[l]? = some o) (ho : o.isCells = false) : Dots (W.putObj l o') a n c X Y :=
  ⟨D.hm, D.hl, D.wf, fun h0 => by
    obtain ⟨b, off, e, hb, hc⟩ := D.at' h0
    have g := grownBy_putObj' W l o'
    have r : ∀ r, some l = some r → ∃ o : Obj, W.heap[r]? = some o ∧ o.isCells = false := fun r e => by cases e; exact ⟨o, hl, ho⟩
    exact ⟨b, off, e, Nat.lt_of_lt_of_le hb g.size, fun i hi => ⟨cell_kept (hc i hi).1 g r, cell_kept (hc i hi).2 g r⟩⟩⟩
/-- the list of what has come: its box, its cells -/
def EvL (base A : Nat) (X Y : Nat → Int) (j : Nat) (W : World) : Prop := ∃ a c, BW W A [.slice a j c] ∧ W.ownsRow base 50 2 (.slice a j c) j (dotL X Y j) ∧ ∀ q, a = some q → q.block < A ∨ A + 2 < q.block
def EvM (n0 : Nat) (m x : Value) (W : World) : Prop := W.cell? ⟨n0, 0, none⟩ = some m ∧ W.cell? ⟨n0 + 2, 0, none⟩ = some x
theorem EvM.of {w W : World} {B b k A : Nat} {o : Bool} {p : Pn} {x : Int} (Q : EvW w W B b k o p x A) : EvM w.heap.size (.pointer (some ⟨b, k, none⟩)) (.int .i64 x) W := ⟨Q.m.c 0 _ rfl, Q.x.c 0 _ rfl⟩
theorem BW.grown {W W' : World} {n : Nat} {l : List Value} {row : Option Nat} (k : BW W n l) (h : W.grownBy W' row) (hn : row ≠ some n) : BW W' n l :=
  ⟨fun i v e => (h.cell_far ⟨n, i, none⟩ k.lt (fun c => hn c.symm)).trans (k.c i v e), fun j => (h.frozen_far ⟨n, j, none⟩ k.lt (fun c => hn c.symm)).trans (k.f j), by have := h.size; have := k.lt; omega⟩
def noDefer (ops : Array Oper) : Bool := ops.all fun o => match o.op with | .defer _ => false | _ => true
theorem noDefer_of {ops : Array Oper} (h : noDefer ops = true) : ∀ (i : Nat) (o : Oper), ops[i]? = some o → ∀ c, o.op ≠ .defer c := by
  intro i o ho c hc
  unfold noDefer at h
  rw [Array.all_eq_true] at h
  obtain ⟨hlt, he⟩ := Array.getElem?_eq_some_iff.1 ho
  have := h i hlt
  rw [he, hc] at this
  cases this
set_option maxRecDepth 100000 in
set_option maxHeartbeats 8000000 in
theorem pEval_any (p : Pn) (x y : Int) (b k : Nat) (o : Bool) (B : Nat) (w : World) (hB : B ≤ w.heap.size) (ho : PanOff p b) (F : fewP p) (K : Pan B w p) (m : MAt w b k o) (hx : In64 x) (hy : In64 y) :
    Calls Try.prog 16 #[.pointer (some ⟨b, k, none⟩), .agg #[.slice p.x.a p.x.n p.x.c, .slice p.y.a p.y.n p.y.c, .slice p.a p.n p.c], .int .i64 x, .int .i64 y] w fun e w' => e = .returned (.int .i64 (evalP p x y)) ∧ FxW w.heap.size w b k o w' := by
  have Q0 := Lib.hid (show EvW w (((w.alloc (.cells #[.pointer (some ⟨b, k, none⟩)] 37)).alloc (.cells #[.slice p.x.a p.x.n p.x.c, .slice p.y.a p.y.n p.y.c, .slice p.a p.n p.c] 25)).alloc (.cells #[.int .i64 x] 27)) B b k o p x (w.heap.size + 3) from
    ⟨((BW.new w _ [_] _ rfl).alloc _).alloc _, (BW.new _ _ [_, _, _] _ (by simp)).alloc _, BW.new _ _ [_] _ (by simp), Flag.start m (by repeat (first | exact Below.refl _ _ | assumption | refine Below.setCell ?_ (by first | omega | (simp; done) | (simp; omega)) _ | refine Below.alloc ?_ (by first | omega | (simp; done) | (simp; omega)) _ | refine below_drewN ?_ _ | refine Below.drew ?_ | refine Below.trans ?_ (Below.mono (by assumption) (by first | omega | (simp; done) | (simp; omega))))), K.keep (C := w.heap.size) (by repeat (first | exact Below.refl _ _ | assumption | refine Below.setCell ?_ (by first | omega | (simp; done) | (simp; omega)) _ | refine Below.alloc ?_ (by first | omega | (simp; done) | (simp; omega)) _ | refine below_drewN ?_ _ | refine Below.drew ?_ | refine Below.trans ?_ (Below.mono (by assumption) (by first | omega | (simp; done) | (simp; omega))))) hB, hB, Nat.le_refl _⟩)
  have XR := Lib.hid (fun (W : World) (Q : EvW w W B b k o p x (w.heap.size + 3)) => pRight_any p B W (by have := Q.box; omega) F Q.q)
  by_cases hp : paneR p = 0
  rotate_left
  · have E := Lib.hid (show evalP p x y = 0 by unfold evalP; rw [if_neg hp])
    rw [E.out]
    generalize paneR p = r at *
    clear F K m ho
    go_enter Try.func16, Try.ntmps16
    go_wp2_with fail
    refine calls_gen (S := fun W => EvW w W B b k o p x (w.heap.size + 3)) Q0.out (fun W1 hS => ?_)
    have Q1 := Lib.hid hS
    clear hS Q0
    refine (XR.out _ Q1.out).mono ?_
    rintro e w1 ⟨rfl, h⟩
    have Q2 := Lib.hid (Q1.out.step h)
    clear h Q1 XR
    go_wp2
    go_ret
    exact ⟨rfl, Q2.out.f.f⟩
  rw [hp] at XR
  have RC := col_right hp x
  have hc := (eval_cases RC y).1
  have ET := eval_two RC y
  have RR := Lib.hid (fun (i : Nat) (hi : i < p.n) => row_right hp hi)
  have EO := Lib.hid (pane_fits hp x y).1
  have SQ := Lib.hid (fun (W : World) (n0 : Nat) (h1 : b < n0) (h2 : B ≤ n0) (Q : BsW W n0 B p y) => pBeside1_seq p y b n0 B W hp F hy ho h2 h1 Q)
  have EP := Lib.hid (show evalN p.y.n p.y.v (rowV p x) y = evalP p x y by unfold evalP; rw [if_pos hp])
  rw [EP.out] at ET
  obtain ⟨⟨s1, s2⟩, -⟩ := paneR_ok hp
  generalize hi0 : cellUp p.y.v y (p.y.n - 1) = i0 at *
  have R2 := Lib.hid (show RightT 2 (fun i => p.y.v (i0 + i)) (fun i => rowV p x (i0 + i)) from ⟨by omega, by omega, fun i hi => RC.x _ (by omega), fun i hi => RC.y _ (by omega), fun i h0 hi => by
    have : i = 1 := by omega
    subst this
    exact RC.mono (by omega) hc⟩)
  generalize evalP p x y = res at *
  have HM := Lib.hid (show Try.prog.follows .mixedOrders = true by kernel_rfl)
  have HO := Lib.hid ho
  have HET := Lib.hid ET
  obtain ⟨i1, hi1, hz0, hz1, hz2⟩ := info_parts dotInfo
  have U := Try.underlying33
  have hyn : i0 + 1 < p.n := by have := s1.2.2.2.2; omega
  have hxn : p.x.n ≤ 32 := s1.2.1
  have S2 := Lib.hid s2
  clear hp RC ET EP hi0 m K F s1 s2 hc ho
  have hmf : ∀ (fn : Fn) (first cap : Array Value) (w : World), (Instr.makeFunc fn first cap).run Try.prog w = .ok (.func fn first cap) w := fun _ _ _ _ => rfl
  refine (callsIn_wide (n := 3)).1 (callsIn_of_wp_marks Try.func16 rfl trivial ?_ rfl)
  simp only [Try.ntmps16, List.size_toArray, List.length_cons, List.length_nil, Nat.reduceAdd, Nat.reduceSub, Array.replicate_succ, Array.replicate_zero, List.push_toArray, List.append_toArray, List.nil_append, List.cons_append]
  refine wpIn_wide.2 ?_
  go_wp2_with fail
  refine calls_gen (S := fun W => EvW w W B b k o p x (w.heap.size + 3)) Q0.out (fun W1 hS => ?_)
  have Q1 := Lib.hid hS
  clear hS Q0
  refine (XR.out _ Q1.out).mono ?_
  rintro e w1 ⟨rfl, h⟩
  have Q2 := Lib.hid (Q1.out.step h)
  clear h Q1 XR
  have L2 : w.heap.size + 3 ≤ w1.heap.size := Q2.out.box
  go_wp2_with (at_make; refine wpList_make_own _ rfl _ _ 33 rfl (w.heap.size + 3) 50 i1 (.agg #[.int .i64 0, .int .i64 0]) 2 U hi1 hz0 hz1 .i64 .i64 _ 2 rfl rfl rfl (by rw [hz2]; omega) (by unfold maxLen; omega) L2 ?_; intro w2 hown2 hgrow2; have Q3 := Lib.hid (Q2.out.step ⟨hgrow2.os, hgrow2.tape, hgrow2.output, hgrow2.size, fun k hk => hgrow2.block k hk (by simp)⟩); have O3 := Lib.hid hown2; obtain ⟨d0, d1, d2⟩ := Q3.out.c.h3; have l0 : w.heap.size + 1 < w2.heap.size := Q3.out.c.lt; clear hown2 hgrow2 Q2)
  refine (pBeside_any p y _).mono ?_
  rintro e w4 ⟨rfl, rfl⟩
  go_wp2_with fail
  have L3 : w.heap.size + 3 ≤ w2.heap.size := Q3.out.box
  refine wp_gen (S := fun W => (EvW w W B b k o p x w2.heap.size ∧ BsW W (w2.heap.size + 1) B p y) ∧ EvL (w.heap.size + 3) w2.heap.size (fun i => p.y.v (i0 + i)) (fun i => rowV p x (i0 + i)) 0 W ∧ w2.heap.size + 2 < W.heap.size) ?_ (fun W1 hS => ?_)
  · refine ⟨⟨((Q3.out.step ((Below.refl _ _).alloc (Nat.le_refl _) _)).step ((Below.refl _ _).alloc (Nat.le_refl _) _)).step ((Below.refl _ _).alloc (Nat.le_refl _) _) |>.at L3, ?_⟩, ?_, ?_⟩
    · exact ⟨(BW.new _ _ [_, _, _] _ (by simp)).alloc _, BW.new _ _ [_] _ (by simp), ((Q3.out.q.keep ((Below.refl _ _).alloc (Nat.le_refl _) _) (by have := Q3.out.z; omega)).keep ((Below.refl _ _).alloc (Nat.le_refl _) _) (by have := Q3.out.z; simp; omega)).keep ((Below.refl _ _).alloc (Nat.le_refl _) _) (by have := Q3.out.z; simp; omega)⟩
    · refine ⟨_, _, ((BW.new _ _ [_] _ rfl).alloc _).alloc _, ?_⟩
      refine ⟨?_, fun q e => by cases e; left; show w1.heap.size < w2.heap.size; have := O3.out.lt w1.heap.size rfl; omega⟩
      exact own_below (own_below (own_below O3.out ((Below.refl _ _).alloc (Nat.le_refl _) _)) ((Below.refl _ _).alloc (Nat.le_refl _) _)) ((Below.refl _ _).alloc (Nat.le_refl _) _)
    · simp
  have Q4 := Lib.hid hS.1.1
  have H4 := Lib.hid hS.1.2
  have E4 := Lib.hid hS.2.1
  have l4 := hS.2.2
  clear hS Q3 O3 d0 d1 d2 l0
  generalize w2.heap.size = A at *
  refine wp_rangeP (α := Option Addr × Nat) rfl (fun _ _ => rfl) (SQ.out W1 (A + 1) (by have := Q4.out.f.lt; omega) (by omega) H4.out) (Below.refl _ _) (fun _ _ => rfl) (fun h k => KpB.trans h k)
    (fun A' o1 o2 h1 _ => KpB.grown (grownBy_putObj' A' _ o2) (fun n e hn => by cases e; have := hn.1; omega) (by have := (Array.getElem?_eq_some_iff.1 h1).1; omega))
    (fun j x' A' o1 o2 h h1 h2 => ⟨h.1.putL h1 h2, h.2⟩)
    (fun j W => (EvW w W B b k o p x A ∧ A + 2 < W.heap.size) ∧ EvL (w.heap.size + 3) A (fun i => p.y.v (i0 + i)) (fun i => rowV p x (i0 + i)) j W)
    (fun j W W' h hb => ⟨⟨h.1.1.step hb, by have := h.1.2; have := hb.size; omega⟩, by obtain ⟨a, c, h1, h2, h3⟩ := h.2; exact ⟨a, c, h1.below hb h1.lt, own_below h2 hb, h3⟩⟩)
    (fun j W o1 o2 h h1 h2 => ⟨⟨h.1.1.below (below_put _ o2 (Array.getElem?_eq_some_iff.1 h1).1) (by omega), by have := h.1.2; have := (grownBy_putObj' W (W1.heap.size + 1) o2).size; omega⟩, by obtain ⟨a, c, h3, h4, h5⟩ := h.2; exact ⟨a, c, h3.below (below_put _ o2 (Array.getElem?_eq_some_iff.1 h1).1) (by omega), h4.kept (grownBy_putObj' W _ o2) (Or.inr (owns_nc h4 h1 h2)), h5⟩⟩)
    ⟨⟨Q4.out, l4⟩, E4.out⟩
    (fun j x' => { tmps := #[.pointer (some ⟨b, k, none⟩), .agg #[.slice p.x.a p.x.n p.x.c, .slice p.y.a p.y.n p.y.c, .slice p.a p.n p.c], .int .i64 x, .int .i64 y, .pointer (some ⟨w.heap.size, 0, none⟩), .pointer (some ⟨w.heap.size + 1, 0, none⟩), .pointer (some ⟨w.heap.size + 1 + 1, 0, none⟩), undef, .int .i64 0,
      .pointer (some ⟨A, 0, none⟩), .int .i64 (p.y.v (i0 + j)), .slice x'.1 p.x.n x'.2, .agg #[.slice p.x.a p.x.n p.x.c, .slice p.y.a p.y.n p.y.c, .slice p.a p.n p.c], .int .i64 0, .bool false, .slice (some ⟨w1.heap.size, 0, none⟩) 0 2, .agg #[.slice p.x.a p.x.n p.x.c, .slice p.y.a p.y.n p.y.c, .slice p.a p.n p.c], .int .i64 y,
      .func (.func 39) #[] #[.pointer (some ⟨A + 1, 0, none⟩), .pointer (some ⟨A + 1 + 1, 0, none⟩)], .int .i64 (p.y.v (i0 + j)), .slice x'.1 p.x.n x'.2, undef, undef, undef, undef, undef, undef, undef, undef, undef, undef, undef, undef, undef], defers := [] }) ?assign ?body ?done
  case assign =>
    intro l j x' W K hK
    unfold encB
    gi_wp2
    exact hK
  case body =>
    rintro l j x' W hj ⟨⟨hQ, LW⟩, hE⟩ ⟨hD, hn⟩
    have Q5 := Lib.hid hQ
    obtain ⟨va, vc, hB5, hO5, hv5⟩ := hE
    have V5 := Lib.hid hv5
    have B5 := Lib.hid hB5
    have O5 := Lib.hid hO5
    have D5 := Lib.hid hD
    have N5 := Lib.hid hn
    have C5 := Lib.hid (EvM.of hQ)
    clear hQ hB5 hO5 hD hn Q4 H4 E4 hv5
    gi_wp2_with fail
    refine wpIn_region_heldR (S := EvM w.heap.size (.pointer (some ⟨b, k, none⟩)) (.int .i64 x)) HM.out (noDefer_of (by kernel_rfl)) (fun a w h => (by exact h)) C5.out (fun hHeld => ?_)
    have hjn : i0 + j < p.n := by omega
    have LA := Lib.hid Q5.out.a
    have X5 := Lib.hid (KpB.below (b := b) (B := B) (n0 := A + 1) (Below.refl W.heap.size W).drew ⟨by have := Q5.out.box; have := Q5.out.z; omega, LW⟩)
    have K5 := Lib.hid (KeepsOthers.drew W)
    have Q6 := Lib.hid (Q5.out.step (Below.refl _ _).drew)
    have B6 := Lib.hid B5.out.drew
    have O6 := Lib.hid (own_below O5.out (Below.refl _ _).drew)
    have D6 := Lib.hid (D5.out.below (Below.refl W.heap.size W).drew (Nat.le_refl _))
    have C6 := Lib.hid hHeld
    have XE := Lib.hid (tEval_any x'.1 p.x.n x'.2 p.x.v (p.r (i0 + j)).v x b k o W.drew (by omega) hx (fun _ q hq c => by have := N5.out q hq; omega) D6.out Q6.out.f.m)
    rw [EO.out _ hjn, Bool.or_false, show evalN p.x.n p.x.v (p.r (i0 + j)).v x = rowV p x (i0 + j) from rfl] at XE
    have bA : b < w.heap.size ∧ w.heap.size + 3 ≤ A := ⟨Q6.out.f.lt, Q6.out.a⟩
    have LW6 : A + 2 < W.drew.heap.size := LW
    clear Q5 B5 O5 D5 N5 C5 C6
    generalize W.drew = w0 at *
    unfold EvM at hHeld ⊢
    refine wpAnyH_takeD 1 22 (v := ?_) (by kernel_rfl) (by kernel_rfl) (by kernel_rfl) (by kernel_rfl) (by rfl) (fun _ _ _ h => h) ?_ hHeld ?_
    rotate_left 1
    (intro o ho W hSw; simp only [List.getElem?_toArray, List.getElem?_cons_succ, List.getElem?_cons_zero, Option.some.injEq] at ho; subst ho; (try dsimp only at hSw); go_simp; try with_reducible rfl)
    (try simp only [Act.put, List.setIfInBounds_toArray, List.set_cons_zero, List.set_cons_succ])
    refine wpAnyH_takeD 2 23 (v := ?_) (by kernel_rfl) (by kernel_rfl) (by kernel_rfl) (by kernel_rfl) (by rfl) (fun _ _ _ h => h) ?_ hHeld ?_
    rotate_left 1
    (intro o ho W hSw; simp only [List.getElem?_toArray, List.getElem?_cons_succ, List.getElem?_cons_zero, Option.some.injEq] at ho; subst ho; (try dsimp only at hSw); go_simp; try with_reducible rfl)
    (try simp only [Act.put, List.setIfInBounds_toArray, List.set_cons_zero, List.set_cons_succ])
    refine wpAnyH_takeD 3 24 (v := ?_) (by kernel_rfl) (by kernel_rfl) (by kernel_rfl) (by kernel_rfl) (by rfl) (fun _ _ _ h => h) ?_ hHeld ?_
    rotate_left 1
    (intro o ho W hSw; simp only [List.getElem?_toArray, List.getElem?_cons_succ, List.getElem?_cons_zero, Option.some.injEq] at ho; subst ho; (try dsimp only at hSw); go_simp; try with_reducible rfl)
    (try simp only [Act.put, List.setIfInBounds_toArray, List.set_cons_zero, List.set_cons_succ])
    refine wpAnyH_takeD 4 25 (v := ?_) (by kernel_rfl) (by kernel_rfl) (by kernel_rfl) (by kernel_rfl) (by rfl) (fun _ _ _ h => h) ?_ hHeld ?_
    rotate_left 1
    (intro o ho W hSw; simp only [List.getElem?_toArray, List.getElem?_cons_succ, List.getElem?_cons_zero, Option.some.injEq] at ho; subst ho; (try dsimp only at hSw); go_simp; try with_reducible rfl)
    (try simp only [Act.put, List.setIfInBounds_toArray, List.set_cons_zero, List.set_cons_succ])
    refine wpAnyH_twoD 0 5 (by kernel_rfl) (fun o ho K hK => ?_) (fun o ho K hK => ?_) (by kernel_rfl) (by kernel_rfl)
    · skip
      simp only [List.getElem?_toArray, List.getElem?_cons_succ, List.getElem?_cons_zero, Option.some.injEq] at ho
      subst ho
      have cA := B6.out.c 0 _ rfl
      go_simp
      refine hK.out _ _ (EvM.of Q6.out) ?_
      clear hK K hHeld cA
      intro hHeld
      refine wpAnyH_onlyD 5 (by kernel_rfl) (fun o ho K hK => ?_) (by kernel_rfl)
      simp only [List.getElem?_toArray, List.getElem?_cons_succ, List.getElem?_cons_zero, Option.some.injEq] at ho
      subst ho
      go_simp
      refine XE.out.mono ?_
      rintro e w3 ⟨rfl, h⟩
      have Q7 := Lib.hid (Q6.out.fx h HO.out)
      have B7 := Lib.hid (B6.out.fx h (by omega))
      have O7 := Lib.hid (own_fx O6.out h (by omega))
      have LW7 : A + 2 < w3.heap.size := by have := h.size; omega
      have X7 := Lib.hid (X5.out.trans (KpB.fx h ⟨by have := Q6.out.z; omega, LW6⟩))
      have K7 := Lib.hid (K5.out.trans (KeepsOthers.ofFx h))
      refine hK.out _ _ (EvM.of Q7.out) ?_
      clear hK K hHeld h Q6 B6 O6 X5 K5 D6 XE LW6
      intro hHeld
      refine wpAnyH_takeD 6 27 (v := ?_) (by kernel_rfl) (by kernel_rfl) (by kernel_rfl) (by kernel_rfl) (by rfl) (fun _ _ _ h => h) ?_ hHeld ?_
      rotate_left 1
      (intro o ho W hSw; simp only [List.getElem?_toArray, List.getElem?_cons_succ, List.getElem?_cons_zero, Option.some.injEq] at ho; subst ho; (try dsimp only at hSw); go_simp; try with_reducible rfl)
      (try simp only [Act.put, List.setIfInBounds_toArray, List.set_cons_zero, List.set_cons_succ])
      refine wpAnyH_onlyD 7 (by kernel_rfl) (fun o ho K hK => ?_) (by kernel_rfl)
      simp only [List.getElem?_toArray, List.getElem?_cons_succ, List.getElem?_cons_zero, Option.some.injEq] at ho
      subst ho
      go_simp
      have Q8 := Lib.hid (Q7.out.step ((Below.refl _ _).alloc (Nat.le_refl _) (.cells #[.int .i64 (p.y.v (i0 + j)), .int .i64 (rowV p x (i0 + j))] 50)))
      have B8 := Lib.hid (B7.out.alloc (.cells #[.int .i64 (p.y.v (i0 + j)), .int .i64 (rowV p x (i0 + j))] 50))
      have O8 := Lib.hid (own_below O7.out ((Below.refl _ _).alloc (Nat.le_refl _) (.cells #[.int .i64 (p.y.v (i0 + j)), .int .i64 (rowV p x (i0 + j))] 50)))
      have X8 := Lib.hid (X7.out.trans (KpB.below ((Below.refl w3.heap.size w3).alloc (Nat.le_refl _) (.cells #[.int .i64 (p.y.v (i0 + j)), .int .i64 (rowV p x (i0 + j))] 50)) ⟨by have := Q7.out.z; omega, LW7⟩))
      have K8 := Lib.hid (K7.out.trans (KeepsOthers.alloc w3 (.cells #[.int .i64 (p.y.v (i0 + j)), .int .i64 (rowV p x (i0 + j))] 50)))
      refine hK.out _ _ (EvM.of Q8.out) ?_
      clear hK K hHeld
      intro hHeld
      refine wpAnyH_onlyD 8 (by kernel_rfl) (fun o ho K hK => ?_) (by kernel_rfl)
      simp only [List.getElem?_toArray, List.getElem?_cons_succ, List.getElem?_cons_zero, Option.some.injEq] at ho
      subst ho
      refine step_append_lies _ (by rfl) (.tmp 21) (.tmp 28) 33 (by rfl) (w.heap.size + 3) 50 i1 (.agg #[.int .i64 0, .int .i64 0]) 2 16 U hi1 hz0 hz1 hz2 rfl (by omega) _ j (dotL (fun i => p.y.v (i0 + i)) (fun i => rowV p x (i0 + i)) j) (by rfl) O8.out ⟨w3.heap.size, 0, none⟩ 1 1 [.int .i64 (p.y.v (i0 + j)), .int .i64 (rowV p x (i0 + j))] (by rfl) rfl (World.news_of_block (heap_alloc_new w3 _)) (by simp [Value.oneCell']) (by omega) (by unfold maxLen; omega) (by omega) (by simp; omega) _ rfl ?_
      intro g cap w4 hO hG hat hlt2
      have hob : ∀ m, (Value.slice va j vc).ownBlock = some m → m < A ∨ A + 2 < m := fun m e => by
        cases va with
        | none => cases e
        | some q => cases e; exact V5.out q rfl
      have hgA : g < A ∨ A + 2 < g := by
        rcases hat with e | e
        · exact hob g e
        · simp at e; omega
      have HB := (Below.refl (w.heap.size + 3) (w3.alloc (.cells #[.int .i64 (p.y.v (i0 + j)), .int .i64 (rowV p x (i0 + j))] 50))).grown hG (by simp; omega) (fun m e => (O8.out.lt m e).1)
      have Q9 := Lib.hid (Q8.out.below HB (Nat.le_refl _))
      have B9 := Lib.hid (B8.out.grown hG (fun e => by have := hob A e; omega))
      have O9 := Lib.hid hO
      have X9 := Lib.hid (X8.out.trans (KpB.grown hG (fun n e hn => by have := hob n e; have := hn.1; have := (O8.out.lt n e).1; have := Q7.out.z; omega) (by have := Q7.out.z; simp; omega)))
      have K9 := Lib.hid (K8.out.trans (KeepsOthers.of_grownBy hG (owns_cells O8.out)))
      have LW9 : A + 2 < w4.heap.size := by have := hG.size; simp at this; omega
      have G9 := Lib.hid (O9.out.lt g rfl)
      have GA := Lib.hid hgA
      refine hK.out _ _ (EvM.of Q9.out) ?_
      clear hK K hHeld hO hG hat HB Q8 B8 O8 X8 K8 Q7 B7 O7 X7 K7 LW7 hob hgA
      intro hHeld
      refine wpAnyH_onlyD 9 (by kernel_rfl) (fun o ho K hK => ?_) (by kernel_rfl)
      simp only [List.getElem?_toArray, List.getElem?_cons_succ, List.getElem?_cons_zero, Option.some.injEq] at ho
      subst ho
      have cA := B9.out.c 0 _ rfl
      have cf := B9.out.f 0
      go_simp
      refine hK.out _ _ (EvM.of (Q9.out.below ((Below.refl (w.heap.size + 3) w4).setCell (p := ⟨A, 0, none⟩) bA.2 (.slice (some ⟨g, 0, none⟩) (j + 1) cap)) (Nat.le_refl _))) ?_
      clear hK K hHeld cA cf
      intro hHeld
      refine wpAnyH_done (by kernel_rfl) ?_ _
      refine ⟨K9.out.trans (KeepsOthers.setCell _ _ _), X9.out.trans (KpB.put _ (fun hn => by have := hn.1; have := Q9.out.z; omega)), ⟨Q9.out.below ((Below.refl (w.heap.size + 3) w4).setCell (p := ⟨A, 0, none⟩) bA.2 (.slice (some ⟨g, 0, none⟩) (j + 1) cap)) (Nat.le_refl _), by rw [set_size]; exact LW9⟩, some ⟨g, 0, none⟩, cap, bw_set (i := 0) B9.out _ _ rfl, ?_, fun q e => by cases e; exact GA.out⟩
      have neA : g ≠ A := by have := GA.out; omega
      exact O9.out.kept (grown_set w4 A 0 _) (Or.inr (by simpa [Value.ownBlock] using neA))
    · skip
      simp only [List.getElem?_toArray, List.getElem?_cons_succ, List.getElem?_cons_zero, Option.some.injEq] at ho
      subst ho
      go_simp
      refine XE.out.mono ?_
      rintro e w3 ⟨rfl, h⟩
      have Q7 := Lib.hid (Q6.out.fx h HO.out)
      have B7 := Lib.hid (B6.out.fx h (by omega))
      have O7 := Lib.hid (own_fx O6.out h (by omega))
      have LW7 : A + 2 < w3.heap.size := by have := h.size; omega
      have X7 := Lib.hid (X5.out.trans (KpB.fx h ⟨by have := Q6.out.z; omega, LW6⟩))
      have K7 := Lib.hid (K5.out.trans (KeepsOthers.ofFx h))
      refine hK.out _ _ (EvM.of Q7.out) ?_
      clear hK K hHeld h Q6 B6 O6 X5 K5 D6 XE LW6
      intro hHeld
      refine wpAnyH_takeD 6 27 (v := ?_) (by kernel_rfl) (by kernel_rfl) (by kernel_rfl) (by kernel_rfl) (by rfl) (fun _ _ _ h => h) ?_ hHeld ?_
      rotate_left 1
      (intro o ho W hSw; simp only [List.getElem?_toArray, List.getElem?_cons_succ, List.getElem?_cons_zero, Option.some.injEq] at ho; subst ho; (try dsimp only at hSw); go_simp; try with_reducible rfl)
      (try simp only [Act.put, List.setIfInBounds_toArray, List.set_cons_zero, List.set_cons_succ])
      refine wpAnyH_twoD 0 7 (by kernel_rfl) (fun o ho K hK => ?_) (fun o ho K hK => ?_) (by kernel_rfl) (by kernel_rfl)
      · skip
        simp only [List.getElem?_toArray, List.getElem?_cons_succ, List.getElem?_cons_zero, Option.some.injEq] at ho
        subst ho
        have cA := B7.out.c 0 _ rfl
        go_simp
        refine hK.out _ _ (EvM.of Q7.out) ?_
        clear hK K hHeld cA
        intro hHeld
        refine wpAnyH_onlyD 7 (by kernel_rfl) (fun o ho K hK => ?_) (by kernel_rfl)
        simp only [List.getElem?_toArray, List.getElem?_cons_succ, List.getElem?_cons_zero, Option.some.injEq] at ho
        subst ho
        go_simp
        have Q8 := Lib.hid (Q7.out.step ((Below.refl _ _).alloc (Nat.le_refl _) (.cells #[.int .i64 (p.y.v (i0 + j)), .int .i64 (rowV p x (i0 + j))] 50)))
        have B8 := Lib.hid (B7.out.alloc (.cells #[.int .i64 (p.y.v (i0 + j)), .int .i64 (rowV p x (i0 + j))] 50))
        have O8 := Lib.hid (own_below O7.out ((Below.refl _ _).alloc (Nat.le_refl _) (.cells #[.int .i64 (p.y.v (i0 + j)), .int .i64 (rowV p x (i0 + j))] 50)))
        have X8 := Lib.hid (X7.out.trans (KpB.below ((Below.refl w3.heap.size w3).alloc (Nat.le_refl _) (.cells #[.int .i64 (p.y.v (i0 + j)), .int .i64 (rowV p x (i0 + j))] 50)) ⟨by have := Q7.out.z; omega, LW7⟩))
        have K8 := Lib.hid (K7.out.trans (KeepsOthers.alloc w3 (.cells #[.int .i64 (p.y.v (i0 + j)), .int .i64 (rowV p x (i0 + j))] 50)))
        refine hK.out _ _ (EvM.of Q8.out) ?_
        clear hK K hHeld
        intro hHeld
        refine wpAnyH_onlyD 8 (by kernel_rfl) (fun o ho K hK => ?_) (by kernel_rfl)
        simp only [List.getElem?_toArray, List.getElem?_cons_succ, List.getElem?_cons_zero, Option.some.injEq] at ho
        subst ho
        refine step_append_lies _ (by rfl) (.tmp 21) (.tmp 28) 33 (by rfl) (w.heap.size + 3) 50 i1 (.agg #[.int .i64 0, .int .i64 0]) 2 16 U hi1 hz0 hz1 hz2 rfl (by omega) _ j (dotL (fun i => p.y.v (i0 + i)) (fun i => rowV p x (i0 + i)) j) (by rfl) O8.out ⟨w3.heap.size, 0, none⟩ 1 1 [.int .i64 (p.y.v (i0 + j)), .int .i64 (rowV p x (i0 + j))] (by rfl) rfl (World.news_of_block (heap_alloc_new w3 _)) (by simp [Value.oneCell']) (by omega) (by unfold maxLen; omega) (by omega) (by simp; omega) _ rfl ?_
        intro g cap w4 hO hG hat hlt2
        have hob : ∀ m, (Value.slice va j vc).ownBlock = some m → m < A ∨ A + 2 < m := fun m e => by
          cases va with
          | none => cases e
          | some q => cases e; exact V5.out q rfl
        have hgA : g < A ∨ A + 2 < g := by
          rcases hat with e | e
          · exact hob g e
          · simp at e; omega
        have HB := (Below.refl (w.heap.size + 3) (w3.alloc (.cells #[.int .i64 (p.y.v (i0 + j)), .int .i64 (rowV p x (i0 + j))] 50))).grown hG (by simp; omega) (fun m e => (O8.out.lt m e).1)
        have Q9 := Lib.hid (Q8.out.below HB (Nat.le_refl _))
        have B9 := Lib.hid (B8.out.grown hG (fun e => by have := hob A e; omega))
        have O9 := Lib.hid hO
        have X9 := Lib.hid (X8.out.trans (KpB.grown hG (fun n e hn => by have := hob n e; have := hn.1; have := (O8.out.lt n e).1; have := Q7.out.z; omega) (by have := Q7.out.z; simp; omega)))
        have K9 := Lib.hid (K8.out.trans (KeepsOthers.of_grownBy hG (owns_cells O8.out)))
        have LW9 : A + 2 < w4.heap.size := by have := hG.size; simp at this; omega
        have G9 := Lib.hid (O9.out.lt g rfl)
        have GA := Lib.hid hgA
        refine hK.out _ _ (EvM.of Q9.out) ?_
        clear hK K hHeld hO hG hat HB Q8 B8 O8 X8 K8 Q7 B7 O7 X7 K7 LW7 hob hgA
        intro hHeld
        refine wpAnyH_onlyD 9 (by kernel_rfl) (fun o ho K hK => ?_) (by kernel_rfl)
        simp only [List.getElem?_toArray, List.getElem?_cons_succ, List.getElem?_cons_zero, Option.some.injEq] at ho
        subst ho
        have cA := B9.out.c 0 _ rfl
        have cf := B9.out.f 0
        go_simp
        refine hK.out _ _ (EvM.of (Q9.out.below ((Below.refl (w.heap.size + 3) w4).setCell (p := ⟨A, 0, none⟩) bA.2 (.slice (some ⟨g, 0, none⟩) (j + 1) cap)) (Nat.le_refl _))) ?_
        clear hK K hHeld cA cf
        intro hHeld
        refine wpAnyH_done (by kernel_rfl) ?_ _
        refine ⟨K9.out.trans (KeepsOthers.setCell _ _ _), X9.out.trans (KpB.put _ (fun hn => by have := hn.1; have := Q9.out.z; omega)), ⟨Q9.out.below ((Below.refl (w.heap.size + 3) w4).setCell (p := ⟨A, 0, none⟩) bA.2 (.slice (some ⟨g, 0, none⟩) (j + 1) cap)) (Nat.le_refl _), by rw [set_size]; exact LW9⟩, some ⟨g, 0, none⟩, cap, bw_set (i := 0) B9.out _ _ rfl, ?_, fun q e => by cases e; exact GA.out⟩
        have neA : g ≠ A := by have := GA.out; omega
        exact O9.out.kept (grown_set w4 A 0 _) (Or.inr (by simpa [Value.ownBlock] using neA))
      · skip
        simp only [List.getElem?_toArray, List.getElem?_cons_succ, List.getElem?_cons_zero, Option.some.injEq] at ho
        subst ho
        go_simp
        have Q8 := Lib.hid (Q7.out.step ((Below.refl _ _).alloc (Nat.le_refl _) (.cells #[.int .i64 (p.y.v (i0 + j)), .int .i64 (rowV p x (i0 + j))] 50)))
        have B8 := Lib.hid (B7.out.alloc (.cells #[.int .i64 (p.y.v (i0 + j)), .int .i64 (rowV p x (i0 + j))] 50))
        have O8 := Lib.hid (own_below O7.out ((Below.refl _ _).alloc (Nat.le_refl _) (.cells #[.int .i64 (p.y.v (i0 + j)), .int .i64 (rowV p x (i0 + j))] 50)))
        have X8 := Lib.hid (X7.out.trans (KpB.below ((Below.refl w3.heap.size w3).alloc (Nat.le_refl _) (.cells #[.int .i64 (p.y.v (i0 + j)), .int .i64 (rowV p x (i0 + j))] 50)) ⟨by have := Q7.out.z; omega, LW7⟩))
        have K8 := Lib.hid (K7.out.trans (KeepsOthers.alloc w3 (.cells #[.int .i64 (p.y.v (i0 + j)), .int .i64 (rowV p x (i0 + j))] 50)))
        refine hK.out _ _ (EvM.of Q8.out) ?_
        clear hK K hHeld
        intro hHeld
        refine wpAnyH_onlyD 0 (by kernel_rfl) (fun o ho K hK => ?_) (by kernel_rfl)
        simp only [List.getElem?_toArray, List.getElem?_cons_succ, List.getElem?_cons_zero, Option.some.injEq] at ho
        subst ho
        have cA := B8.out.c 0 _ rfl
        go_simp
        refine hK.out _ _ (EvM.of Q8.out) ?_
        clear hK K hHeld cA
        intro hHeld
        refine wpAnyH_onlyD 8 (by kernel_rfl) (fun o ho K hK => ?_) (by kernel_rfl)
        simp only [List.getElem?_toArray, List.getElem?_cons_succ, List.getElem?_cons_zero, Option.some.injEq] at ho
        subst ho
        refine step_append_lies _ (by rfl) (.tmp 21) (.tmp 28) 33 (by rfl) (w.heap.size + 3) 50 i1 (.agg #[.int .i64 0, .int .i64 0]) 2 16 U hi1 hz0 hz1 hz2 rfl (by omega) _ j (dotL (fun i => p.y.v (i0 + i)) (fun i => rowV p x (i0 + i)) j) (by rfl) O8.out ⟨w3.heap.size, 0, none⟩ 1 1 [.int .i64 (p.y.v (i0 + j)), .int .i64 (rowV p x (i0 + j))] (by rfl) rfl (World.news_of_block (heap_alloc_new w3 _)) (by simp [Value.oneCell']) (by omega) (by unfold maxLen; omega) (by omega) (by simp; omega) _ rfl ?_
        intro g cap w4 hO hG hat hlt2
        have hob : ∀ m, (Value.slice va j vc).ownBlock = some m → m < A ∨ A + 2 < m := fun m e => by
          cases va with
          | none => cases e
          | some q => cases e; exact V5.out q rfl
        have hgA : g < A ∨ A + 2 < g := by
          rcases hat with e | e
          · exact hob g e
          · simp at e; omega
        have HB := (Below.refl (w.heap.size + 3) (w3.alloc (.cells #[.int .i64 (p.y.v (i0 + j)), .int .i64 (rowV p x (i0 + j))] 50))).grown hG (by simp; omega) (fun m e => (O8.out.lt m e).1)
        have Q9 := Lib.hid (Q8.out.below HB (Nat.le_refl _))
        have B9 := Lib.hid (B8.out.grown hG (fun e => by have := hob A e; omega))
        have O9 := Lib.hid hO
        have X9 := Lib.hid (X8.out.trans (KpB.grown hG (fun n e hn => by have := hob n e; have := hn.1; have := (O8.out.lt n e).1; have := Q7.out.z; omega) (by have := Q7.out.z; simp; omega)))
        have K9 := Lib.hid (K8.out.trans (KeepsOthers.of_grownBy hG (owns_cells O8.out)))
        have LW9 : A + 2 < w4.heap.size := by have := hG.size; simp at this; omega
        have G9 := Lib.hid (O9.out.lt g rfl)
        have GA := Lib.hid hgA
        refine hK.out _ _ (EvM.of Q9.out) ?_
        clear hK K hHeld hO hG hat HB Q8 B8 O8 X8 K8 Q7 B7 O7 X7 K7 LW7 hob hgA
        intro hHeld
        refine wpAnyH_onlyD 9 (by kernel_rfl) (fun o ho K hK => ?_) (by kernel_rfl)
        simp only [List.getElem?_toArray, List.getElem?_cons_succ, List.getElem?_cons_zero, Option.some.injEq] at ho
        subst ho
        have cA := B9.out.c 0 _ rfl
        have cf := B9.out.f 0
        go_simp
        refine hK.out _ _ (EvM.of (Q9.out.below ((Below.refl (w.heap.size + 3) w4).setCell (p := ⟨A, 0, none⟩) bA.2 (.slice (some ⟨g, 0, none⟩) (j + 1) cap)) (Nat.le_refl _))) ?_
        clear hK K hHeld cA cf
        intro hHeld
        refine wpAnyH_done (by kernel_rfl) ?_ _
        refine ⟨K9.out.trans (KeepsOthers.setCell _ _ _), X9.out.trans (KpB.put _ (fun hn => by have := hn.1; have := Q9.out.z; omega)), ⟨Q9.out.below ((Below.refl (w.heap.size + 3) w4).setCell (p := ⟨A, 0, none⟩) bA.2 (.slice (some ⟨g, 0, none⟩) (j + 1) cap)) (Nat.le_refl _), by rw [set_size]; exact LW9⟩, some ⟨g, 0, none⟩, cap, bw_set (i := 0) B9.out _ _ rfl, ?_, fun q e => by cases e; exact GA.out⟩
        have neA : g ≠ A := by have := GA.out; omega
        exact O9.out.kept (grown_set w4 A 0 _) (Or.inr (by simpa [Value.ownBlock] using neA))
  case done =>
    rintro D W hD ⟨⟨hQ, LW⟩, a, c, hB, hO, hv⟩ hK
    obtain ⟨a2, c2, e2, D2, hv2⟩ := owned_dots hO (fun i hi => ⟨wf_inT (R2.out.x i hi), wf_inT (R2.out.y i hi)⟩)
    cases e2
    have Q5 := Lib.hid hQ
    have XE := Lib.hid (tEval_any a 2 c (fun i => p.y.v (i0 + i)) (fun i => rowV p x (i0 + i)) y b k o W (by omega) hy (fun _ q hq e => by have := hv2 q hq; have := hQ.f.lt; omega) D2 hQ.f.m)
    rw [(eval_cases R2.out y).2.1, Bool.or_false, HET.out] at XE
    have c0 := hQ.m.c 0 _ rfl
    have cA := hB.c 0 _ rfl
    have KD := Lib.hid hK
    have dD : w.heap.size ≤ D := by have := hQ.a; omega
    clear hQ hB hO hv D2 hv2 hK Q4 H4 E4 hD
    go_wp2_with fail
    refine XE.out.mono ?_
    rintro e w5 ⟨rfl, h⟩
    have Q6 := Lib.hid (Q5.out.fx h HO.out)
    have K6 := Lib.hid ((KeepsOthers.ofFx h).same D _ KD.out rfl)
    clear h Q5 XE c0 cA KD
    go_wp2
    refine ⟨by simp, .inl ⟨_, _, rfl, run_takeDeferred K6.out, ?_⟩⟩
    exact ⟨_, results_tmp rfl _ _ _, rfl, Q6.out.f.f.then (below_put D _ (Array.getElem?_eq_some_iff.1 K6.out).1) dD⟩
theorem paneC : PaneC := ⟨pRight_any, pRow_any, pBounds_any, pEval_any⟩
end Go.Proofs.Ytbggakbjppnchaa
