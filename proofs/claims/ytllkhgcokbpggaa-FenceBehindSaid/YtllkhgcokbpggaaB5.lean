/- Contracts of the program's vec: component by component, by closures; Add, Sub, Neg, Scale, Over. -/
import Derived.Test.YtllkhgcokbpggaaBj
import Derived.Test.YtllkhgcokbpggaaBx
import Derived.Test.YtllkhgcokbpggaaBr
import Derived.Test.YtllkhgcokbpggaaBk
import Derived.Test.YtllkhgcokbpggaaBs
namespace Go.Proofs.Ytllkhgcokbpggaa
open Go.RowKit
set_option linter.unusedVariables false
set_option linter.unusedSimpArgs false

/-- a pointer to a receiver's flag in a box of its own -/
structure PB (W : World) (n b k : Nat) : Prop where
  c : W.cell? ⟨n, 0, none⟩ = some (.pointer (some ⟨b, k, none⟩))
  lt : n < W.heap.size
  ne : b ≠ n
theorem PB.new (w : World) (b k : Nat) (t : TypeId) (h : b < w.heap.size) : PB (w.alloc (.cells #[.pointer (some ⟨b, k, none⟩)] t)) w.heap.size b k :=
  ⟨World.cell?_alloc_new w _ t 0, by simp, by omega⟩
theorem PB.below {B : Nat} {w w' : World} {n b k : Nat} (p : PB w n b k) (h : Below B w w') (hn : n < B) : PB w' n b k :=
  ⟨(h.cell (p := ⟨n, 0, none⟩) hn).trans p.c, by have := h.size; have := p.lt; omega, p.ne⟩
theorem PB.alloc {w : World} {n b k : Nat} (p : PB w n b k) (o : Obj) : PB (w.alloc o) n b k := p.below ((Below.refl w.heap.size w).alloc (Nat.le_refl _) o) p.lt
theorem PB.drew {w : World} {n b k : Nat} (p : PB w n b k) : PB w.drew n b k := ⟨p.c, p.lt, p.ne⟩
theorem PB.fx {W W' : World} {n b k j : Nat} {q : Bool} (p : PB W n b k) (h : FxW W.heap.size W b j q W') : PB W' n b k :=
  ⟨(h.cell p.lt p.ne).trans p.c, by have := h.size; have := p.lt; omega, p.ne⟩
theorem PB.held {W : World} {n b k : Nat} (p : PB W n b k) : W.cell? ⟨n, 0, none⟩ = some (.pointer (some ⟨b, k, none⟩)) := p.c
/-- a number in a box of its own -/
structure IB (W : World) (n : Nat) (x : Int) : Prop where
  c : W.cell? ⟨n, 0, none⟩ = some (.int .i64 x)
  lt : n < W.heap.size
theorem IB.new (w : World) (n : Nat) (x : Int) (t : TypeId) (e : n = w.heap.size) : IB (w.alloc (.cells #[.int .i64 x] t)) n x := by
  subst e; exact ⟨World.cell?_alloc_new w _ t 0, by simp⟩
theorem IB.below {B : Nat} {w w' : World} {n : Nat} {x : Int} (p : IB w n x) (h : Below B w w') (hn : n < B) : IB w' n x :=
  ⟨(h.cell (p := ⟨n, 0, none⟩) hn).trans p.c, by have := h.size; have := p.lt; omega⟩
theorem IB.alloc {w : World} {n : Nat} {x : Int} (p : IB w n x) (o : Obj) : IB (w.alloc o) n x := p.below ((Below.refl w.heap.size w).alloc (Nat.le_refl _) o) p.lt
theorem IB.drew {w : World} {n : Nat} {x : Int} (p : IB w n x) : IB w.drew n x := ⟨p.c, p.lt⟩
theorem IB.fx {W W' : World} {n b j : Nat} {x : Int} {q : Bool} (p : IB W n x) (h : FxW W.heap.size W b j q W') (e : b ≠ n) : IB W' n x :=
  ⟨(h.cell p.lt e).trans p.c, by have := h.size; have := p.lt; omega⟩
end Go.Proofs.Ytllkhgcokbpggaa
namespace Go.Proofs.Ytllkhgcokbpggaa
open Go.RowKit

/-- what holds of what has come up so far (n: how many have not) is kept by each operation that may come up -/
theorem wpAnyH_inv {P : Program} {md : Region.Mode} {ops : Array Oper} {Q : Exit → Act → World → Prop} {S : World → Prop} (I : Nat → Array Bool → Act → World → Prop)
    (fin : ∀ n listed a w, I n listed a w → Region.ready md ops listed = [] → Q .normal a w)
    (zero : ∀ listed a w, I 0 listed a w → Region.ready md ops listed = [])
    (step : ∀ n listed a w, I (n + 1) listed a w → ∀ i ∈ Region.ready md ops listed, (ops[i]?.isSome) = true ∧
      ∀ o, ops[i]? = some o → ∀ K' : Act → World → Prop, Shut (∀ a w, S w → I n (listed.setIfInBounds i true) a w → K' a w) → if Region.wanted o (yielded ops a.tmps) = true then Oper.wp P o a w K' Q else K' (a.put o.dst undef) w) :
    ∀ (n : Nat) (listed : Array Bool) (a : Act) (w : World), I n listed a w → wpAnyH P md ops Q S n listed a w
  | 0, listed, a, w, h => ⟨zero listed a w h, fin 0 listed a w h (zero listed a w h)⟩
  | n + 1, listed, a, w, h => ⟨fin _ listed a w h, fun i hi => by
      obtain ⟨s, k⟩ := step n listed a w h i hi
      cases ho : ops[i]? with
      | none => rw [ho] at s; cases s
      | some o => exact wpOp_step ho (fun K' hK => k o ho K' (fun a w hS hI => hK a w ⟨hS, wpAnyH_inv I fin zero step n _ a w hI⟩))⟩
end Go.Proofs.Ytllkhgcokbpggaa
namespace Go.Proofs.Ytllkhgcokbpggaa
open Go.RowKit
set_option linter.unusedVariables false
set_option linter.unusedSimpArgs false

end Go.Proofs.Ytllkhgcokbpggaa
