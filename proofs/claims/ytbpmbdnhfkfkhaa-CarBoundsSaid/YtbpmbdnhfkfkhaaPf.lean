/- The contract of the document's Row of panes. -/
import Derived.Test.YtbpmbdnhfkfkhaaPe
import Derived.Test.YtbpmbdnhfkfkhaaBk
namespace Go.Proofs.Ytbpmbdnhfkfkhaa
open Go.RowKit
set_option linter.unusedVariables false
set_option linter.unusedSimpArgs false

theorem dotInfo : (Try.prog.info? 69).map (fun i => (i.zero, i.size, i.bytes)) = some (some (.agg #[.int .i64 0, .int .i64 0]), 2, 16) := by kernel_rfl
def rowM (p : Pn) (i : Int) : Nat := if 0 ≤ i then rowN p i.toNat else 0
theorem PQ.stepB {w W W' : World} {B C m : Nat} {p : Pn} (Q : PQ w W B m p) (h : Below C W W') (hm : m < C) (hw : w.heap.size ≤ C) : PQ w W' B m p :=
  ⟨Q.k.below h hm, Q.l.trans (h.mono hw), Q.p.keep h (by have := Q.z; omega), Q.z⟩
/-- the cells that a point of a row is read from -/
def RwS (m bx ox b off br orr i k : Nat) (sx sr s : Value) (x v : Int) (W : World) : Prop :=
  W.cell? ⟨m, 0, none⟩ = some sx ∧ W.cell? ⟨m, 2, none⟩ = some sr ∧ W.cell? ⟨bx, ox + k, none⟩ = some (.int .i64 x) ∧ W.cell? ⟨b, off + i, none⟩ = some s ∧ W.cell? ⟨br, orr + k, none⟩ = some (.int .i64 v)
theorem RwS.keep {m bx ox b off br orr i k : Nat} {sx sr s : Value} {x v : Int} {W W' : World} {C : Nat} (h : Below C W W') (h1 : m < C ∧ bx < C ∧ b < C ∧ br < C) (S : RwS m bx ox b off br orr i k sx sr s x v W) : RwS m bx ox b off br orr i k sx sr s x v W' :=
  ⟨(h.cell (p := ⟨m, 0, none⟩) h1.1).trans S.1, (h.cell (p := ⟨m, 2, none⟩) h1.1).trans S.2.1, (h.cell (p := ⟨bx, _, none⟩) h1.2.1).trans S.2.2.1, (h.cell (p := ⟨b, _, none⟩) h1.2.2.1).trans S.2.2.2.1, (h.cell (p := ⟨br, _, none⟩) h1.2.2.2).trans S.2.2.2.2⟩
end Go.Proofs.Ytbpmbdnhfkfkhaa
