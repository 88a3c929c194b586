/- The walks of FxMul and FxMix. -/
import Derived.Test.YtjbalpmcnihhpaaDoorBy
import Derived.Test.YtjbalpmcnihhpaaDoorBz
namespace Go.Proofs.YtjbalpmcnihhpaaDoor
open Go.RowKit

end Go.Proofs.YtjbalpmcnihhpaaDoor
