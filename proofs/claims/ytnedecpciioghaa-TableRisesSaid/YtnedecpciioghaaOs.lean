/- TableRises holds: for every input the law returns true and leaves its arguments as they were. No condition. -/
import Derived.Test.YtnedecpciioghaaRows
import Derived.Test.YtnedecpciioghaaOo
import Derived.WalkKit
import Derived.ProofKit
import Derived.OpenShut
import Derived.Test.YtnedecpciioghaaBk
import Derived.Test.YtnedecpciioghaaOb
import Derived.Lib.SmallJoins
namespace Go.Proofs.Ytnedecpciioghaa.tableRises
open Go.ChangeShapes Go.WideShapes Go.ChangeAt Go.RowKit Go.Joins
set_option linter.unusedVariables false

theorem own : ownKnob Try.prog.godebug = none := by kernel_rfl
theorem laid : laidOutB Try.prog = true := by kernel_rfl

end Go.Proofs.Ytnedecpciioghaa.tableRises
