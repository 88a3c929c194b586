/- Contracts of the document's plane: Near. -/
import Derived.Test.YtinahmhiopgcnaaGreatBj
import Derived.Test.YtinahmhiopgcnaaGreatBm
import Derived.Deep.LoopGhost
namespace Go.Proofs.YtinahmhiopgcnaaGreat
open Go.RowKit
set_option linter.unusedVariables false
set_option linter.unusedSimpArgs false

end Go.Proofs.YtinahmhiopgcnaaGreat
