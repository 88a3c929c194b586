/- The contract of the document's Eval of panes. -/
import Derived.Test.YtbpmbdnhfkfkhaaPf
namespace Go.Proofs.Ytbpmbdnhfkfkhaa
open Go.RowKit
set_option linter.unusedVariables false
set_option linter.unusedSimpArgs false

/-- a pane that came in, its copy in block m, and a flag that is kept -/
structure PF (w W : World) (B m b k : Nat) (o : Bool) (p : Pn) : Prop where
  c : BW W m [.slice p.x.a p.x.n p.x.c, .slice p.y.a p.y.n p.y.c, .slice p.a p.n p.c]
  f : Flag w W b k o
  p : Pan B W p
  z : B ≤ b
  e : b < m
theorem PF.below {w W W' : World} {B C m b k : Nat} {o : Bool} {p : Pn} (Q : PF w W B m b k o p) (h : Below C W W') (hm : m < C) (hw : w.heap.size ≤ C) : PF w W' B m b k o p :=
  ⟨Q.c.below h hm, ⟨Q.f.m.below h (by have := Q.e; omega), Q.f.f.then h hw, Q.f.lt⟩, Q.p.keep h (by have := Q.z; have := Q.e; omega), Q.z, Q.e⟩
theorem PF.step {w W W' : World} {B m b k : Nat} {o : Bool} {p : Pn} (Q : PF w W B m b k o p) (h : Below W.heap.size W W') : PF w W' B m b k o p := Q.below h Q.c.lt Q.f.f.size
theorem PF.drew {w W : World} {B m b k : Nat} {o : Bool} {p : Pn} (Q : PF w W B m b k o p) : PF w W.drew B m b k o p := Q.step (Below.refl _ _).drew
theorem PF.alloc {w W : World} {B m b k : Nat} {o : Bool} {p : Pn} (Q : PF w W B m b k o p) (ob : Obj) : PF w (W.alloc ob) B m b k o p := Q.step ((Below.refl _ _).alloc (Nat.le_refl _) ob)
theorem PF.fx {w W W' : World} {B m b k : Nat} {o q : Bool} {p : Pn} (Q : PF w W B m b k o p) (h : FxW W.heap.size W b k q W') : PF w W' B m b k q p :=
  ⟨Q.c.fx h (by have := Q.e; omega), Q.f.fx h, Q.p.fx h Q.z (by have := Q.z; have := Q.e; have := Q.c.lt; omega), Q.z, Q.e⟩
theorem PF.new {w : World} {B b k : Nat} {o : Bool} {p : Pn} (t : TypeId) (h : Pan B w p) (m : MAt w b k o) (z : B ≤ b) : PF w (w.alloc (.cells #[.slice p.x.a p.x.n p.x.c, .slice p.y.a p.y.n p.y.c, .slice p.a p.n p.c] t)) B w.heap.size b k o p :=
  ⟨BW.new w _ [_, _, _] t rfl, Flag.start m ((Below.refl _ _).alloc (Nat.le_refl _) _), h.keep ((Below.refl w.heap.size w).alloc (Nat.le_refl _) _) (by have := m.lt; omega), z, m.lt⟩
/-- the cells of a round of Eval -/
def EwS (m bY oY j : Nat) (s0 s1 s2 : Value) (y : Int) (W : World) : Prop :=
  W.cell? ⟨m, 0, none⟩ = some s0 ∧ W.cell? ⟨m, 1, none⟩ = some s1 ∧ W.cell? ⟨m, 2, none⟩ = some s2 ∧ W.cell? ⟨bY, oY + j, none⟩ = some (.int .i64 y)
theorem EwS.of {w W : World} {B m b k : Nat} {o : Bool} {xa a : Option Addr} {xn xc yn yc n c bY oY j : Nat} {xv yv : Nat → Int} {r : Nat → Sl} (Q : PF w W B m b k o ⟨⟨xa, xn, xc, xv⟩, ⟨some ⟨bY, oY, none⟩, yn, yc, yv⟩, a, n, c, r⟩) (h : j < yn) :
    EwS m bY oY j (.slice xa xn xc) (.slice (some ⟨bY, oY, none⟩) yn yc) (.slice a n c) (yv j) W := by
  obtain ⟨h0, h1, h2⟩ := Q.c.h3
  obtain ⟨b1, o1, e, _, hc⟩ := Q.p.y.at' (by show 0 < yn; omega)
  dsimp only at e hc
  cases e
  exact ⟨h0, h1, h2, hc j h⟩
end Go.Proofs.Ytbpmbdnhfkfkhaa
