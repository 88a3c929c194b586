/- A region that draws its order, walked by what holds behind each of its operations, in whatever order: as many steps as there are operations, not as many as there are orders. -/
import Derived.Test.YtjdhjabbojceeaaBk
namespace Go.Proofs.Ytjdhjabbojceeaa
open Go.RowKit

/-- what holds of what has come up so far (n: how many have not) is kept by each operation that may come up -/
theorem wpAnyH_inv {P : Program} {md : Region.Mode} {ops : Array Oper} {Q : Exit → Act → World → Prop} {S : World → Prop} (I : Nat → Array Bool → Act → World → Prop)
    (fin : ∀ n listed a w, I n listed a w → Region.ready md ops listed = [] → Q .normal a w)
    (zero : ∀ listed a w, I 0 listed a w → Region.ready md ops listed = [])
    (step : ∀ n listed a w, I (n + 1) listed a w → ∀ i ∈ Region.ready md ops listed, (ops[i]?.isSome) = true ∧
      ∀ o, ops[i]? = some o → ∀ K' : Act → World → Prop, Shut (∀ a w, S w → I n (listed.setIfInBounds i true) a w → K' a w) → if Region.wanted o (yielded ops a.tmps) = true then Oper.wp P o a w K' Q else K' (a.put o.dst undef) w) :
    ∀ (n : Nat) (listed : Array Bool) (a : Act) (w : World), I n listed a w → wpAnyH P md ops Q S n listed a w
  | 0, listed, a, w, h => ⟨zero listed a w h, fin 0 listed a w h (zero listed a w h)⟩
  | n + 1, listed, a, w, h => ⟨fin _ listed a w h, fun i hi => by
      obtain ⟨s, k⟩ := step n listed a w h i hi
      cases ho : ops[i]? with
      | none => rw [ho] at s; cases s
      | some o => exact wpOp_step ho (fun K' hK => k o ho K' (fun a w hS hI => hK a w ⟨hS, wpAnyH_inv I fin zero step n _ a w hI⟩))⟩
end Go.Proofs.Ytjdhjabbojceeaa
