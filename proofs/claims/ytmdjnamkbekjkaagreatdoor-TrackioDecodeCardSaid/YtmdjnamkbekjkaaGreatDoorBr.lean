/- -/
import Derived.Test.YtmdjnamkbekjkaaGreatDoorBn
import Derived.Test.YtmdjnamkbekjkaaGreatDoorBv
import Derived.Test.YtmdjnamkbekjkaaGreatDoorBk
import Derived.Test.YtmdjnamkbekjkaaGreatDoorBx
import Derived.Deep.RegionWith
import Derived.Deep.DeepCutAuto
import Derived.Test.YtmdjnamkbekjkaaGreatDoorBg
import Derived.Test.YtmdjnamkbekjkaaGreatDoorBh
import Derived.Test.YtmdjnamkbekjkaaGreatDoorBy
import Derived.Test.YtmdjnamkbekjkaaGreatDoorBj
namespace Go.Proofs.YtmdjnamkbekjkaaGreatDoor
open Go.RowKit
set_option linter.unusedVariables false
set_option linter.unusedSimpArgs false
end Go.Proofs.YtmdjnamkbekjkaaGreatDoor
