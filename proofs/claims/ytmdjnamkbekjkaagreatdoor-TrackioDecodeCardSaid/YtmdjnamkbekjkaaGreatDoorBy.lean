/- -/
import Derived.Test.YtmdjnamkbekjkaaGreatDoorBx
import Derived.Test.YtmdjnamkbekjkaaGreatDoorBn
import Derived.Test.YtmdjnamkbekjkaaGreatDoorBk
import Derived.OpenShut
import Derived.Deep.RegionWith
import Derived.Deep.DeepCutAuto
import Derived.Test.YtmdjnamkbekjkaaGreatDoorBf
import Derived.LoopN
namespace Go.Proofs.YtmdjnamkbekjkaaGreatDoor
open Go.RowKit
set_option linter.unusedVariables false
set_option linter.unusedSimpArgs false
structure Two (w W : World) (n m : Nat) (o p : Bool) : Prop where
 a : MAt W n 0 o
 b : MAt W m 0 p
 ne : n ≠ m
 na : w.heap.size ≤ n
 nb : w.heap.size ≤ m
 bl : Below w.heap.size w W
theorem Two.new {w W : World} (h : Below w.heap.size w W) (s t : TypeId) : Two w ((W.alloc (.cells #[.bool false] s)).alloc (.cells #[.bool false] t)) W.heap.size (W.heap.size + 1) false false := by
 have := h.size
 refine ⟨(MAt.new W false s).alloc _, ?_, by omega, this, by omega, (h.alloc this _).alloc (by simp; omega) _⟩
 have k := MAt.new (W.alloc (.cells #[.bool false] s)) false t
 simpa using k
theorem Two.le {w W : World} {n m : Nat} {o p : Bool} (t : Two w W n m o p) : w.heap.size ≤ W.heap.size := t.bl.size
theorem Two.more {w W W' : World} {n m : Nat} {o p : Bool} (t : Two w W n m o p) (h : Below W.heap.size W W') : Two w W' n m o p :=
 ⟨t.a.below h t.a.lt, t.b.below h t.b.lt, t.ne, t.na, t.nb, t.bl.trans (h.mono t.le)⟩
end Go.Proofs.YtmdjnamkbekjkaaGreatDoor
