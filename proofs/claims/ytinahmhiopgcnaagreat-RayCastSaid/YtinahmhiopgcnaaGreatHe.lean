/- The walks of FxMul and FxMix. -/
import Derived.Test.YtinahmhiopgcnaaGreatBy
import Derived.Test.YtinahmhiopgcnaaGreatBz
namespace Go.Proofs.YtinahmhiopgcnaaGreat
open Go.RowKit

end Go.Proofs.YtinahmhiopgcnaaGreat
