/- The walks of FxMul and FxMix. -/
import Derived.Test.YtjbalpmcnihhpaaGreatDoorBy
import Derived.Test.YtjbalpmcnihhpaaGreatDoorBz
namespace Go.Proofs.YtjbalpmcnihhpaaGreatDoor
open Go.RowKit

end Go.Proofs.YtjbalpmcnihhpaaGreatDoor
