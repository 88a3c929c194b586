/- Contracts of the document's answers for fx: bound, signed, Add, Sub, Neg, Abs, Of, Floor, Clamp. -/
import Derived.Test.YtbpmbdnhfkfkhaaBx
import Derived.Test.YtbpmbdnhfkfkhaaBn
import Derived.Test.YtbpmbdnhfkfkhaaBk
import Derived.OpenShut
import Derived.Deep.RegionWith
import Derived.Deep.DeepCutAuto
import Derived.Test.YtbpmbdnhfkfkhaaBf
import Derived.LoopN
namespace Go.Proofs.Ytbpmbdnhfkfkhaa
open Go.RowKit

def boundI (neg : Bool) : Int := if neg = true then -9223372036854775808 else 9223372036854775807
theorem FxW.put' {w : World} {b k : Nat} {o : Bool} : FxW w.heap.size w b k o (w.setCell ⟨b, k, none⟩ (.bool o)) := Below.refl _ _
theorem clip_low {n : Int} (h : n < -9223372036854775808) : boundI true = clip64 n ∧ out64 n = true := by
  refine ⟨by unfold clip64 boundI; rw [if_pos h, if_pos rfl], by unfold out64; rw [decide_eq_true_iff]; omega⟩
theorem clip_high {n : Int} (h : 9223372036854775807 < n) : boundI false = clip64 n ∧ out64 n = true := by
  refine ⟨by show (9223372036854775807 : Int) = clip64 n; unfold clip64; rw [if_neg (by omega), if_pos h], by unfold out64; rw [decide_eq_true_iff]; omega⟩
theorem clip_fit {n m : Int} (e : m = n) (h0 : -9223372036854775808 ≤ n) (h1 : n ≤ 9223372036854775807) : m = clip64 n ∧ out64 n = false := by
  have := clip64_of (n := n) ⟨h0, h1⟩
  exact ⟨e.trans this.1.symm, this.2⟩
end Go.Proofs.Ytbpmbdnhfkfkhaa
namespace Go.Proofs.Ytbpmbdnhfkfkhaa
open Go.RowKit

/-- two receivers of a statement's own, apart -/
structure Two (w W : World) (n m : Nat) (o p : Bool) : Prop where
  a : MAt W n 0 o
  b : MAt W m 0 p
  ne : n ≠ m
  na : w.heap.size ≤ n
  nb : w.heap.size ≤ m
  bl : Below w.heap.size w W
theorem Two.fst {w W W' : World} {n m : Nat} {o p q : Bool} (t : Two w W n m o p) (h : FxW W.heap.size W n 0 q W') : Two w W' n m q p :=
  ⟨h.at t.a t.a.lt, h.far t.b t.b.lt t.ne, t.ne, t.na, t.nb, t.bl.trans (h.below t.bl.size t.na)⟩
theorem Two.snd {w W W' : World} {n m : Nat} {o p q : Bool} (t : Two w W n m o p) (h : FxW W.heap.size W m 0 q W') : Two w W' n m o q :=
  ⟨h.far t.a t.a.lt (fun e => t.ne e.symm), h.at t.b t.b.lt, t.ne, t.na, t.nb, t.bl.trans (h.below t.bl.size t.nb)⟩
theorem Two.new {w W : World} (h : Below w.heap.size w W) (s t : TypeId) : Two w ((W.alloc (.cells #[.bool false] s)).alloc (.cells #[.bool false] t)) W.heap.size (W.heap.size + 1) false false := by
  have := h.size
  refine ⟨(MAt.new W false s).alloc _, ?_, by omega, this, by omega, (h.alloc this _).alloc (by simp; omega) _⟩
  have k := MAt.new (W.alloc (.cells #[.bool false] s)) false t
  simpa using k
theorem Two.le {w W : World} {n m : Nat} {o p : Bool} (t : Two w W n m o p) : w.heap.size ≤ W.heap.size := t.bl.size

theorem Two.drew {w W : World} {n m : Nat} {o p : Bool} (t : Two w W n m o p) : Two w W.drew n m o p := ⟨t.a.drew, t.b.drew, t.ne, t.na, t.nb, t.bl.drew⟩
theorem Two.more {w W W' : World} {n m : Nat} {o p : Bool} (t : Two w W n m o p) (h : Below W.heap.size W W') : Two w W' n m o p :=
  ⟨t.a.below h t.a.lt, t.b.below h t.b.lt, t.ne, t.na, t.nb, t.bl.trans (h.mono t.le)⟩
end Go.Proofs.Ytbpmbdnhfkfkhaa
namespace Go.Proofs.Ytbpmbdnhfkfkhaa
open Go.RowKit

end Go.Proofs.Ytbpmbdnhfkfkhaa
namespace Go.Proofs.Ytbpmbdnhfkfkhaa
open Go.RowKit

end Go.Proofs.Ytbpmbdnhfkfkhaa
namespace Go.Proofs.Ytbpmbdnhfkfkhaa
open Go.RowKit

theorem divF_eq {x y : Int} (hy : y ≠ 0) : divF x y = clip64 (sgnW (decide (x < 0) != decide (y < 0)) (rndN ((x.natAbs : Int) * 4294967296) y.natAbs)) ∧ divO x y = out64 (sgnW (decide (x < 0) != decide (y < 0)) (rndN ((x.natAbs : Int) * 4294967296) y.natAbs)) := by
  unfold divF divO quoF quoO
  rw [if_neg hy, if_neg hy, rq_div]
  exact ⟨rfl, rfl⟩
theorem divF_zero (x : Int) : divF x 0 = satS x ∧ divO x 0 = true := by
  unfold divF divO quoF quoO
  rw [if_pos rfl, if_pos rfl]
  refine ⟨?_, rfl⟩
  unfold satS
  by_cases p : 0 < x
  · rw [if_pos (by omega), if_pos p]
  · rw [if_neg (by omega), if_neg p]
    by_cases q : x < 0
    · rw [if_pos (by omega), if_pos q]
    · rw [if_neg (by omega), if_neg q]
end Go.Proofs.Ytbpmbdnhfkfkhaa
namespace Go.Proofs.Ytbpmbdnhfkfkhaa
open Go.RowKit

end Go.Proofs.Ytbpmbdnhfkfkhaa
