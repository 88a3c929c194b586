/- A region that draws its order: its first operations in a forced order, the rest quiet in a class of worlds. -/
import Derived.Test.YtbigjdhehaihoaaProg
import Derived.WalkKit
import Derived.Deep.QuietTactic
import Derived.BigQuiet
import Derived.RegionTactic
import Derived.Deep.RegionWith
namespace Go.Proofs.Ytbigjdhehaihoaa
open Go.RowKit

/-- behind a prefix of a region the rest is quiet in a class: one walk in the order of the text -/
theorem wpAny_quiet_rest {P : Program} {md : Region.Mode} {l : List Oper} {C : World → Prop} {Q' : Exit → Act → World → Prop} (k : Nat) {fuel : Nat} {listed : Array Bool} {a : Act} {w : World}
    (hf : (l.drop k).length = fuel) (hs : Region.noSelect l.toArray = true) (hB : Region.lexFrom md l.toArray fuel k listed = true) (hC : C w)
    (h : wpQuiet P l.toArray C (fun a' => ∀ w', C w' → Q' .normal a' w') (l.drop k) a) : wpAny P md l.toArray Q' fuel listed a w := by
  subst hf
  exact wpAny_of_quiet (Q := fun a' => ∀ w', C w' → Q' .normal a' w') (fun _ w' hw' h => h w' hw') _ _ _ _ hC
    (wpAnyQ_lex hs (l.drop k) k listed a (fun j => by simp [List.getElem?_drop]) hB h)
end Go.Proofs.Ytbigjdhehaihoaa
