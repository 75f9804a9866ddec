import Derived.Test.YtdkepkaflielhaaGreatDoorAb
import Derived.Test.YtdkepkaflielhaaGreatDoorFlatS
import Derived.Test.YtdkepkaflielhaaGreatDoorOwnS
import Derived.Test.YtdkepkaflielhaaGreatDoorMarkS
import Derived.Test.YtdkepkaflielhaaGreatDoorBibs2
import Derived.Test.YtdkepkaflielhaaGreatDoorGrow
import Derived.Deep.RegionWith
import Derived.Deep.DeepCutAuto
set_option linter.unusedVariables false
set_option linter.unusedSimpArgs false
set_option maxRecDepth 100000
set_option maxHeartbeats 8000000
namespace Go.Proofs.YtdkepkaflielhaaGreatDoor
open Go.RowKit Go.PlainAid Go.ChangeShapes Go.WideShapes
theorem strL1_length (s:ByteArray):(strL1 s).length=1:=rfl
section
variable {H:Type} {enc:TypeId × Value→H} {w:World} {base:Nat} {spare:Nat→Bool} {held:Bool}
end
end Go.Proofs.YtdkepkaflielhaaGreatDoor
