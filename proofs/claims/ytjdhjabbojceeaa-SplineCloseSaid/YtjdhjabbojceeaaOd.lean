/- Contracts of the document's table: Bound, Eval. -/
import Derived.Test.YtjdhjabbojceeaaOc
import Derived.Test.YtjdhjabbojceeaaHe
import Derived.Test.YtjdhjabbojceeaaKz
namespace Go.Proofs.Ytjdhjabbojceeaa
open Go.RowKit
set_option linter.unusedVariables false
set_option linter.unusedSimpArgs false

theorem wrap_last {len n : Nat} (hn : n + 1 = len) (h : len ≤ 100) : IntKind.i64.wrap ((len : Int) - 1) = (n : Int) ∧ wrap64 ((len : Int) - 1) = (n : Int) := by
  have e : (len : Int) - 1 = (n : Int) := by omega
  rw [e]
  exact ⟨IntWalk.i64_in _ (by omega), by unfold wrap64; omega⟩
theorem wrap_next {c d len : Nat} (hd : c + 1 = d) (h : d < len) (h2 : len ≤ 100) : IntKind.i64.wrap ((c : Int) + 1) = (d : Int) ∧ wrap64 ((c : Int) + 1) = (d : Int) ∧ IntKind.i64.wrap (d : Int) = (d : Int) ∧ wrap64 (d : Int) = (d : Int) := by
  have e : (c : Int) + 1 = (d : Int) := by omega
  rw [e]
  exact ⟨IntWalk.i64_in _ (by omega), by unfold wrap64; omega, IntWalk.i64_in _ (by omega), by unfold wrap64; omega⟩
theorem BW.h2'' {W : World} {n : Nat} {a b : Value} (k : BW W n [a, b]) : W.cell? ⟨n, 0, none⟩ = some a ∧ W.cell? ⟨n, 1, none⟩ = some b := ⟨k.c 0 _ rfl, k.c 1 _ rfl⟩
end Go.Proofs.Ytjdhjabbojceeaa
