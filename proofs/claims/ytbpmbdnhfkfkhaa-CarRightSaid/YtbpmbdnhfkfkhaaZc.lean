/- What is wrong first with a car; the list of errors as it grows. -/
import Derived.Test.YtbpmbdnhfkfkhaaZb
import Derived.Test.YtbpmbdnhfkfkhaaZ4
import Derived.Test.YtbpmbdnhfkfkhaaZ5
import Derived.Test.YtbpmbdnhfkfkhaaZ6
import Derived.Test.YtbpmbdnhfkfkhaaZ7
import Derived.Test.YtbpmbdnhfkfkhaaBt
namespace Go.Proofs.Ytbpmbdnhfkfkhaa
open Go.RowKit
set_option linter.unusedVariables false
set_option linter.unusedSimpArgs false

/-- the parts' errors, in their order -/
def errC (c : Cr) : List Int :=
  [rngC (rCBodyB c), rngC (wheelB (fun k => c.f (4 + 0 * 10 + k))), rngC (wheelB (fun k => c.f (4 + 1 * 10 + k))), rngC (wheelB (fun k => c.f (4 + 2 * 10 + k))), rngC (wheelB (fun k => c.f (4 + 3 * 10 + k))),
   rngC (inC 0 562949953421312 (c.f 44) && inC 0 562949953421312 (c.f 45)),
   dotsN c.d.n c.d.x c.d.y (-140737488355328) 140737488355328 true, tyreN c.t, dotsN c.q.n c.q.x c.q.y (-17592186044416) 17592186044416 false, dotsN c.r.n c.r.x c.r.y 0 140737488355328 false,
   rCEngineN c, rCGearsN c, rngC (rCRestB c), rCEaseN c]
/-- the first that is not 0, and its place -/
def fstC : List Int → Nat → Int × Nat
  | [], _ => (0, 0)
  | x :: l, j => if x = 0 then fstC l (j + 1) else (x, j)
/-- what is wrong first with a car, and where -/
def rgtC (c : Cr) : Int × Nat := fstC (errC c) 0
def eiV (L : List Int) : List Value := L.map (Value.int .i64)
theorem eiV_add (L M : List Int) : eiV (L ++ M) = eiV L ++ eiV M := by unfold eiV; rw [List.map_append]
theorem eiV_len (L : List Int) : (eiV L).length = L.length := by unfold eiV; rw [List.length_map]
theorem eiV_at {L : List Int} {j : Nat} {x : Int} (h : L[j]? = some x) : (eiV L)[j]? = some (.int .i64 x) := by unfold eiV; rw [List.getElem?_map, h]; rfl
theorem CA.stepB {w W W' : World} {B C m : Nat} {c : Cr} (Q : CA w W B m c) (h : Below C W W') (hC : m < C) (hw : w.heap.size ≤ C) : CA w W' B m c :=
  ⟨Q.k.below h hC, Q.l.trans (h.mono hw), Q.M.keep h (by have := Q.z; omega), Q.z⟩
/-- the car's copy, and the list of errors so far -/
structure RcS (w W : World) (B : Nat) (c : Cr) (v : Value) (l : List Int) : Prop where
  q : CA w W B w.heap.size c
  o : OB (w.heap.size + 1) W v (eiV l)
theorem RcS.step {w W W' : World} {B : Nat} {c : Cr} {v : Value} {l : List Int} (Q : RcS w W B c v l) (h : Below W.heap.size W W') : RcS w W' B c v l := ⟨Q.q.step h, Q.o.below h⟩
theorem RcS.drew {w W : World} {B : Nat} {c : Cr} {v : Value} {l : List Int} (Q : RcS w W B c v l) : RcS w W.drew B c v l := Q.step (Below.refl _ _).drew
theorem RcS.new {w : World} {B : Nat} {c : Cr} (t : TypeId) (h : CrM B w c) (z : B ≤ w.heap.size) : RcS w (w.alloc (.cells (carL c).toArray t)) B c (.slice none 0 0) [] := ⟨CA.new t h z, OB.nil _ _⟩
end Go.Proofs.Ytbpmbdnhfkfkhaa
