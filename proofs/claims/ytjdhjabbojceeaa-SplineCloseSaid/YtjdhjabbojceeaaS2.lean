/- The program's spline: four points taken at once; a place; At. -/
import Derived.Test.YtjdhjabbojceeaaS1
import Derived.Test.YtjdhjabbojceeaaNc
namespace Go.Proofs.Ytjdhjabbojceeaa
open Go.RowKit
set_option linter.unusedVariables false
set_option linter.unusedSimpArgs false

/-- a region that draws its order, walked by what holds behind each operation, up to where the rest goes on by hand -/
theorem wpAnyH_inv2 {P : Program} {md : Region.Mode} {ops : Array Oper} {Q : Exit → Act → World → Prop} {S : World → Prop} (I : Nat → Array Bool → Act → World → Prop) (m : Nat)
    (fin : ∀ listed a w, I 0 listed a w → wpAnyH P md ops Q S m listed a w)
    (some' : ∀ n listed a w, I (n + 1) listed a w → Region.ready md ops listed ≠ [])
    (step : ∀ n listed a w, I (n + 1) listed a w → ∀ i ∈ Region.ready md ops listed, (ops[i]?.isSome) = true ∧
      ∀ o, ops[i]? = some o → ∀ K' : Act → World → Prop, Shut (∀ a w, S w → I n (listed.setIfInBounds i true) a w → K' a w) → if Region.wanted o (yielded ops a.tmps) = true then Oper.wp P o a w K' Q else K' (a.put o.dst undef) w) :
    ∀ (n : Nat) (listed : Array Bool) (a : Act) (w : World), I n listed a w → wpAnyH P md ops Q S (m + n) listed a w
  | 0, listed, a, w, h => fin listed a w h
  | n + 1, listed, a, w, h => ⟨fun k => absurd k (some' n listed a w h), fun i hi => by
      obtain ⟨s, k⟩ := step n listed a w h i hi
      cases ho : ops[i]? with
      | none => rw [ho] at s; cases s
      | some o => exact wpOp_step ho (fun K' hK => k o ho K' (fun a w hS hI => hK a w ⟨hS, wpAnyH_inv2 I m fin some' step n _ a w hI⟩))⟩
theorem sp_all {l : List Nat} {P : Nat → Bool} {i : Nat} (h : l.all P = true) (hi : i ∈ l) : P i = true := List.all_eq_true.mp h i hi
/-- a block of zeros that may have come up -/
def OwB (B : Nat) (W : World) (p : Bool) (x : Value) : Prop := p = true → ∃ m, x = .pointer (some ⟨m, 0, none⟩) ∧ B ≤ m ∧ BW W m [.int .i64 0, .int .i64 0]
def Dis (p q : Bool) (x y : Value) : Prop := p = true → q = true → x ≠ y
theorem OwB.no {B : Nat} {W : World} {x : Value} : OwB B W false x := fun h => absurd h (by simp)
theorem Dis.no {q : Bool} {x y : Value} : Dis false q x y := fun h => absurd h (by simp)
theorem OwB.alloc {B : Nat} {W : World} {p : Bool} {x : Value} (h : OwB B W p x) (o : Obj) : OwB B (W.alloc o) p x := fun k => by
  obtain ⟨m, e, l, v⟩ := h k
  exact ⟨m, e, l, v.alloc o⟩
theorem OwB.new {B : Nat} {W : World} (h : B ≤ W.heap.size) (t : TypeId) : OwB B (W.alloc (.cells #[.int .i64 0, .int .i64 0] t)) true (.pointer (some ⟨W.heap.size, 0, none⟩)) := fun _ => ⟨_, rfl, h, BW.new W _ [_, _] t rfl⟩
theorem dis_new {B : Nat} {W : World} {q : Bool} {y : Value} (h : OwB B W q y) : Dis true q (.pointer (some ⟨W.heap.size, 0, none⟩)) y := fun _ k e => by
  obtain ⟨m, e2, _, v⟩ := h k
  rw [e2] at e; injection e with e; injection e with e; injection e with e
  have := v.lt; omega
theorem dis_new' {B : Nat} {W : World} {q : Bool} {y : Value} (h : OwB B W q y) : Dis q true y (.pointer (some ⟨W.heap.size, 0, none⟩)) := fun k _ e => dis_new h rfl k e.symm
/-- four blocks that come up in whatever order -/
structure A4 (B : Nat) (W : World) (p0 p1 p2 p3 : Bool) (x0 x1 x2 x3 : Value) : Prop where
  b0 : OwB B W p0 x0
  b1 : OwB B W p1 x1
  b2 : OwB B W p2 x2
  b3 : OwB B W p3 x3
  d01 : Dis p0 p1 x0 x1
  d02 : Dis p0 p2 x0 x2
  d03 : Dis p0 p3 x0 x3
  d12 : Dis p1 p2 x1 x2
  d13 : Dis p1 p3 x1 x3
  d23 : Dis p2 p3 x2 x3
  z : B ≤ W.heap.size
theorem A4.zero {B : Nat} {W : World} (h : B ≤ W.heap.size) (x0 x1 x2 x3 : Value) : A4 B W false false false false x0 x1 x2 x3 := ⟨OwB.no, OwB.no, OwB.no, OwB.no, Dis.no, Dis.no, Dis.no, Dis.no, Dis.no, Dis.no, h⟩
section
variable {B : Nat} {W : World} {p0 p1 p2 p3 : Bool} {x0 x1 x2 x3 : Value} (t : TypeId)
theorem A4.add0 (h : A4 B W p0 p1 p2 p3 x0 x1 x2 x3) : A4 B (W.alloc (.cells #[.int .i64 0, .int .i64 0] t)) true p1 p2 p3 (.pointer (some ⟨W.heap.size, 0, none⟩)) x1 x2 x3 :=
  ⟨OwB.new h.z t, h.b1.alloc _, h.b2.alloc _, h.b3.alloc _, dis_new h.b1, dis_new h.b2, dis_new h.b3, h.d12, h.d13, h.d23, by simp; have := h.z; omega⟩
theorem A4.add1 (h : A4 B W p0 p1 p2 p3 x0 x1 x2 x3) : A4 B (W.alloc (.cells #[.int .i64 0, .int .i64 0] t)) p0 true p2 p3 x0 (.pointer (some ⟨W.heap.size, 0, none⟩)) x2 x3 :=
  ⟨h.b0.alloc _, OwB.new h.z t, h.b2.alloc _, h.b3.alloc _, dis_new' h.b0, h.d02, h.d03, dis_new h.b2, dis_new h.b3, h.d23, by simp; have := h.z; omega⟩
theorem A4.add2 (h : A4 B W p0 p1 p2 p3 x0 x1 x2 x3) : A4 B (W.alloc (.cells #[.int .i64 0, .int .i64 0] t)) p0 p1 true p3 x0 x1 (.pointer (some ⟨W.heap.size, 0, none⟩)) x3 :=
  ⟨h.b0.alloc _, h.b1.alloc _, OwB.new h.z t, h.b3.alloc _, h.d01, dis_new' h.b0, h.d03, dis_new' h.b1, h.d13, dis_new h.b3, by simp; have := h.z; omega⟩
theorem A4.add3 (h : A4 B W p0 p1 p2 p3 x0 x1 x2 x3) : A4 B (W.alloc (.cells #[.int .i64 0, .int .i64 0] t)) p0 p1 p2 true x0 x1 x2 (.pointer (some ⟨W.heap.size, 0, none⟩)) :=
  ⟨h.b0.alloc _, h.b1.alloc _, h.b2.alloc _, OwB.new h.z t, h.d01, h.d02, dis_new' h.b0, h.d12, dis_new' h.b1, dis_new' h.b2, by simp; have := h.z; omega⟩
end
theorem sp_put2 {W : World} {n : Nat} {a b : Value} (k : BW W n [a, b]) (u0 u1 : Value) : BW ((W.setCell ⟨n, 0, none⟩ u0).setCell ⟨n, 1, none⟩ u1) n [u0, u1] := (k.put (i := 0) u0 _ rfl).put (i := 1) u1 _ rfl
theorem sp_bel2 {w W : World} (h : Below w.heap.size w W) {r : Nat} (e : w.heap.size ≤ r) (u0 u1 : Value) : Below w.heap.size w ((W.setCell ⟨r, 0, none⟩ u0).setCell ⟨r, 1, none⟩ u1) := (h.setCell (p := ⟨r, 0, none⟩) e u0).setCell (p := ⟨r, 1, none⟩) e u1
theorem sp_far2 {W : World} {n r : Nat} {l : List Value} (k : BW W n l) (e : r ≠ n) (u0 u1 : Value) : BW ((W.setCell ⟨r, 0, none⟩ u0).setCell ⟨r, 1, none⟩ u1) n l := (k.far e 0 u0).far e 1 u1
/-- four blocks beside those that are kept -/
structure T4 (w W : World) (b k : Nat) (o : Bool) (L : List (Nat × List Value)) (B m0 m1 m2 m3 : Nat) (l0 l1 l2 l3 : List Value) : Prop where
  q : StF w W b k o L
  a0 : BW W m0 l0
  a1 : BW W m1 l1
  a2 : BW W m2 l2
  a3 : BW W m3 l3
  n : (m0 ≠ m1 ∧ m0 ≠ m2 ∧ m0 ≠ m3) ∧ (m1 ≠ m2 ∧ m1 ≠ m3) ∧ m2 ≠ m3
  g : B ≤ m0 ∧ B ≤ m1 ∧ B ≤ m2 ∧ B ≤ m3
  hL : ∀ n l, (n, l) ∈ L → n < B
  hB : w.heap.size ≤ B
section
variable {w W W' : World} {b k : Nat} {o p : Bool} {L : List (Nat × List Value)} {B m0 m1 m2 m3 : Nat} {l0 l1 l2 l3 : List Value} {c d : Value}
theorem A4.fin {x0 x1 x2 x3 : Value} (h : A4 B W true true true true x0 x1 x2 x3) (q : StF w W b k o L) (hL : ∀ n l, (n, l) ∈ L → n < B) (hB : w.heap.size ≤ B) :
    ∃ m0 m1 m2 m3, x0 = .pointer (some ⟨m0, 0, none⟩) ∧ x1 = .pointer (some ⟨m1, 0, none⟩) ∧ x2 = .pointer (some ⟨m2, 0, none⟩) ∧ x3 = .pointer (some ⟨m3, 0, none⟩) ∧ T4 w W b k o L B m0 m1 m2 m3 [.int .i64 0, .int .i64 0] [.int .i64 0, .int .i64 0] [.int .i64 0, .int .i64 0] [.int .i64 0, .int .i64 0] := by
  obtain ⟨m0, rfl, g0, v0⟩ := h.b0 rfl
  obtain ⟨m1, rfl, g1, v1⟩ := h.b1 rfl
  obtain ⟨m2, rfl, g2, v2⟩ := h.b2 rfl
  obtain ⟨m3, rfl, g3, v3⟩ := h.b3 rfl
  exact ⟨m0, m1, m2, m3, rfl, rfl, rfl, rfl, q, v0, v1, v2, v3, ⟨⟨fun e => h.d01 rfl rfl (by rw [e]), fun e => h.d02 rfl rfl (by rw [e]), fun e => h.d03 rfl rfl (by rw [e])⟩, ⟨fun e => h.d12 rfl rfl (by rw [e]), fun e => h.d13 rfl rfl (by rw [e])⟩, fun e => h.d23 rfl rfl (by rw [e])⟩, ⟨g0, g1, g2, g3⟩, hL, hB⟩
theorem T4.put0 (t : T4 w W b k o L B m0 m1 m2 m3 [c, d] l1 l2 l3) (u v : Value) : T4 w ((W.setCell ⟨m0, 0, none⟩ u).setCell ⟨m0, 1, none⟩ v) b k o L B m0 m1 m2 m3 [u, v] l1 l2 l3 :=
  ⟨t.q.far2 (by have := t.g; have := t.hB; omega) (fun n l e => by have := t.hL n l e; have := t.g; omega) u v, sp_put2 t.a0 u v, sp_far2 t.a1 t.n.1.1 u v, sp_far2 t.a2 t.n.1.2.1 u v, sp_far2 t.a3 t.n.1.2.2 u v, t.n, t.g, t.hL, t.hB⟩
theorem T4.put1 (t : T4 w W b k o L B m0 m1 m2 m3 l0 [c, d] l2 l3) (u v : Value) : T4 w ((W.setCell ⟨m1, 0, none⟩ u).setCell ⟨m1, 1, none⟩ v) b k o L B m0 m1 m2 m3 l0 [u, v] l2 l3 :=
  ⟨t.q.far2 (by have := t.g; have := t.hB; omega) (fun n l e => by have := t.hL n l e; have := t.g; omega) u v, sp_far2 t.a0 t.n.1.1.symm u v, sp_put2 t.a1 u v, sp_far2 t.a2 t.n.2.1.1 u v, sp_far2 t.a3 t.n.2.1.2 u v, t.n, t.g, t.hL, t.hB⟩
theorem T4.put2 (t : T4 w W b k o L B m0 m1 m2 m3 l0 l1 [c, d] l3) (u v : Value) : T4 w ((W.setCell ⟨m2, 0, none⟩ u).setCell ⟨m2, 1, none⟩ v) b k o L B m0 m1 m2 m3 l0 l1 [u, v] l3 :=
  ⟨t.q.far2 (by have := t.g; have := t.hB; omega) (fun n l e => by have := t.hL n l e; have := t.g; omega) u v, sp_far2 t.a0 t.n.1.2.1.symm u v, sp_far2 t.a1 t.n.2.1.1.symm u v, sp_put2 t.a2 u v, sp_far2 t.a3 t.n.2.2 u v, t.n, t.g, t.hL, t.hB⟩
theorem T4.put3 (t : T4 w W b k o L B m0 m1 m2 m3 l0 l1 l2 [c, d]) (u v : Value) : T4 w ((W.setCell ⟨m3, 0, none⟩ u).setCell ⟨m3, 1, none⟩ v) b k o L B m0 m1 m2 m3 l0 l1 l2 [u, v] :=
  ⟨t.q.far2 (by have := t.g; have := t.hB; omega) (fun n l e => by have := t.hL n l e; have := t.g; omega) u v, sp_far2 t.a0 t.n.1.2.2.symm u v, sp_far2 t.a1 t.n.2.1.2.symm u v, sp_far2 t.a2 t.n.2.2.symm u v, sp_put2 t.a3 u v, t.n, t.g, t.hL, t.hB⟩
theorem T4.fx (t : T4 w W b k o L B m0 m1 m2 m3 l0 l1 l2 l3) (h : FxW W.heap.size W b k p W') : T4 w W' b k p L B m0 m1 m2 m3 l0 l1 l2 l3 := by
  have hb := t.q.f.lt
  have hg := t.g
  have hB := t.hB
  exact ⟨t.q.fx h, t.a0.fx h (by omega), t.a1.fx h (by omega), t.a2.fx h (by omega), t.a3.fx h (by omega), t.n, t.g, t.hL, t.hB⟩
theorem T4.ge (t : T4 w W b k o L B m0 m1 m2 m3 l0 l1 l2 l3) : w.heap.size ≤ m0 ∧ w.heap.size ≤ m1 ∧ w.heap.size ≤ m2 ∧ w.heap.size ≤ m3 := by
  have := t.g; have := t.hB; omega
theorem T4.drew (t : T4 w W b k o L B m0 m1 m2 m3 l0 l1 l2 l3) : T4 w W.drew b k o L B m0 m1 m2 m3 l0 l1 l2 l3 := ⟨t.q.drew, t.a0.drew, t.a1.drew, t.a2.drew, t.a3.drew, t.n, t.g, t.hL, t.hB⟩
end
/-- the cells of the four points of a piece -/
def C4 (ba o0 o1 o2 o3 : Nat) (x0 y0 x1 y1 x2 y2 x3 y3 : Int) (W : World) : Prop :=
  (W.cell? ⟨ba, o0, none⟩ = some (.int .i64 x0) ∧ W.cell? ⟨ba, o0 + 1, none⟩ = some (.int .i64 y0)) ∧ (W.cell? ⟨ba, o1, none⟩ = some (.int .i64 x1) ∧ W.cell? ⟨ba, o1 + 1, none⟩ = some (.int .i64 y1)) ∧
  (W.cell? ⟨ba, o2, none⟩ = some (.int .i64 x2) ∧ W.cell? ⟨ba, o2 + 1, none⟩ = some (.int .i64 y2)) ∧ (W.cell? ⟨ba, o3, none⟩ = some (.int .i64 x3) ∧ W.cell? ⟨ba, o3 + 1, none⟩ = some (.int .i64 y3))
/-- the cells of four blocks -/
def C4' (m0 m1 m2 m3 : Nat) (x0 y0 x1 y1 x2 y2 x3 y3 : Int) (W : World) : Prop :=
  (W.cell? ⟨m0, 0, none⟩ = some (.int .i64 x0) ∧ W.cell? ⟨m0, 1, none⟩ = some (.int .i64 y0)) ∧ (W.cell? ⟨m1, 0, none⟩ = some (.int .i64 x1) ∧ W.cell? ⟨m1, 1, none⟩ = some (.int .i64 y1)) ∧
  (W.cell? ⟨m2, 0, none⟩ = some (.int .i64 x2) ∧ W.cell? ⟨m2, 1, none⟩ = some (.int .i64 y2)) ∧ (W.cell? ⟨m3, 0, none⟩ = some (.int .i64 x3) ∧ W.cell? ⟨m3, 1, none⟩ = some (.int .i64 y3))
theorem T4.cells {w W : World} {b k : Nat} {o : Bool} {L : List (Nat × List Value)} {B m0 m1 m2 m3 : Nat} {x0 y0 x1 y1 x2 y2 x3 y3 : Int} (t : T4 w W b k o L B m0 m1 m2 m3 [.int .i64 x0, .int .i64 y0] [.int .i64 x1, .int .i64 y1] [.int .i64 x2, .int .i64 y2] [.int .i64 x3, .int .i64 y3]) : C4' m0 m1 m2 m3 x0 y0 x1 y1 x2 y2 x3 y3 W :=
  ⟨t.a0.h2'', t.a1.h2'', t.a2.h2'', t.a3.h2''⟩
end Go.Proofs.Ytjdhjabbojceeaa
