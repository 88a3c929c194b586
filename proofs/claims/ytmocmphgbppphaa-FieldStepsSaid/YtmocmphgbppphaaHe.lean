/- The walks of FxMul and FxMix. -/
import Derived.Test.YtmocmphgbppphaaBy
import Derived.Test.YtmocmphgbppphaaBz
namespace Go.Proofs.Ytmocmphgbppphaa
open Go.RowKit

end Go.Proofs.Ytmocmphgbppphaa
