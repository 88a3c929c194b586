/- Contracts of the document's plane: Near. -/
import Derived.Test.YtinahmhiopgcnaaBj
import Derived.Test.YtinahmhiopgcnaaBm
import Derived.Deep.LoopGhost
namespace Go.Proofs.Ytinahmhiopgcnaa
open Go.RowKit
set_option linter.unusedVariables false
set_option linter.unusedSimpArgs false

end Go.Proofs.Ytinahmhiopgcnaa
