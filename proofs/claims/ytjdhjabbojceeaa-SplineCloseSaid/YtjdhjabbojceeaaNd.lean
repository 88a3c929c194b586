/- Contracts of the document's plane: on, opposite. -/
import Derived.Test.YtjdhjabbojceeaaNc
import Derived.Test.YtjdhjabbojceeaaBg
namespace Go.Proofs.Ytjdhjabbojceeaa
open Go.RowKit
set_option linter.unusedVariables false
set_option linter.unusedSimpArgs false

theorem BW.h5 {W : World} {n : Nat} {a b c d e : Value} (k : BW W n [a, b, c, d, e]) : W.cell? ⟨n, 0, none⟩ = some a ∧ W.cell? ⟨n, 1, none⟩ = some b ∧ W.cell? ⟨n, 2, none⟩ = some c ∧ W.cell? ⟨n, 3, none⟩ = some d ∧ W.cell? ⟨n, 4, none⟩ = some e := ⟨k.c 0 _ rfl, k.c 1 _ rfl, k.c 2 _ rfl, k.c 3 _ rfl, k.c 4 _ rfl⟩
end Go.Proofs.Ytjdhjabbojceeaa
