/- The walks of FxMul and FxMix. -/
import Derived.Test.YtjdhjabbojceeaaBy
import Derived.Test.YtjdhjabbojceeaaBz
namespace Go.Proofs.Ytjdhjabbojceeaa
open Go.RowKit

end Go.Proofs.Ytjdhjabbojceeaa
