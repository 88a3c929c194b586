/- The walks of FxMul and FxMix. -/
import Derived.Test.YtinahmhiopgcnaaBy
import Derived.Test.YtinahmhiopgcnaaBz
namespace Go.Proofs.Ytinahmhiopgcnaa
open Go.RowKit

end Go.Proofs.Ytinahmhiopgcnaa
