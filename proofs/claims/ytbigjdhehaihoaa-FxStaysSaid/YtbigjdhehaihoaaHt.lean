/- Two receivers of a statement's own: the program's and the document's. -/
import Derived.Test.YtbigjdhehaihoaaGg
import Derived.Test.YtbigjdhehaihoaaZq
import Derived.OpenShut
import Derived.Deep.RegionWith
import Derived.Deep.DeepCutAuto
namespace Go.Proofs.Ytbigjdhehaihoaa
open Go.RowKit

/-- two receivers of a statement's own, apart -/
structure Two (w W : World) (n m : Nat) (o p : Bool) : Prop where
  a : MAt W n 0 o
  b : MAt W m 0 p
  ne : n ≠ m
  na : w.heap.size ≤ n
  nb : w.heap.size ≤ m
  bl : Below w.heap.size w W
theorem Two.fst {w W W' : World} {n m : Nat} {o p q : Bool} (t : Two w W n m o p) (h : FxW W.heap.size W n 0 q W') : Two w W' n m q p :=
  ⟨h.at t.a t.a.lt, h.far t.b t.b.lt t.ne, t.ne, t.na, t.nb, t.bl.trans (h.below t.bl.size t.na)⟩
theorem Two.snd {w W W' : World} {n m : Nat} {o p q : Bool} (t : Two w W n m o p) (h : FxW W.heap.size W m 0 q W') : Two w W' n m o q :=
  ⟨h.far t.a t.a.lt (fun e => t.ne e.symm), h.at t.b t.b.lt, t.ne, t.na, t.nb, t.bl.trans (h.below t.bl.size t.nb)⟩
theorem Two.new {w W : World} (h : Below w.heap.size w W) (s t : TypeId) : Two w ((W.alloc (.cells #[.bool false] s)).alloc (.cells #[.bool false] t)) W.heap.size (W.heap.size + 1) false false := by
  have := h.size
  refine ⟨(MAt.new W false s).alloc _, ?_, by omega, this, by omega, (h.alloc this _).alloc (by simp; omega) _⟩
  have k := MAt.new (W.alloc (.cells #[.bool false] s)) false t
  simpa using k
theorem Two.le {w W : World} {n m : Nat} {o p : Bool} (t : Two w W n m o p) : w.heap.size ≤ W.heap.size := t.bl.size

theorem Two.drew {w W : World} {n m : Nat} {o p : Bool} (t : Two w W n m o p) : Two w W.drew n m o p := ⟨t.a.drew, t.b.drew, t.ne, t.na, t.nb, t.bl.drew⟩
theorem Two.more {w W W' : World} {n m : Nat} {o p : Bool} (t : Two w W n m o p) (h : Below W.heap.size W W') : Two w W' n m o p :=
  ⟨t.a.below h t.a.lt, t.b.below h t.b.lt, t.ne, t.na, t.nb, t.bl.trans (h.mono t.le)⟩
end Go.Proofs.Ytbigjdhehaihoaa
