/- Contracts of the document's table: in, Right, Cell, Bound. -/
import Derived.Test.YtjdhjabbojceeaaOa
import Derived.Test.YtjdhjabbojceeaaOb
import Derived.Test.YtjdhjabbojceeaaKy
namespace Go.Proofs.Ytjdhjabbojceeaa
open Go.RowKit
set_option linter.unusedVariables false
set_option linter.unusedSimpArgs false

end Go.Proofs.Ytjdhjabbojceeaa
