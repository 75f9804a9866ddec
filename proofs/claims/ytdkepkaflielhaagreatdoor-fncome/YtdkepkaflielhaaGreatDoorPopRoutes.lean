import Derived.Test.YtdkepkaflielhaaGreatDoorAb
import Derived.Test.YtdkepkaflielhaaGreatDoorPopMath
import Derived.Test.YtdkepkaflielhaaGreatDoorPrefix
import Derived.Test.YtdkepkaflielhaaGreatDoorText
set_option linter.unusedVariables false
set_option linter.unusedSimpArgs false
set_option maxRecDepth 100000
set_option maxHeartbeats 8000000
namespace Go.Proofs.YtdkepkaflielhaaGreatDoor
open Go.RowKit Go.PlainAid
structure Rt where
 addr:ByteArray
 bits:Int
 hop:Int
section
variable (n:Nat) (l:List Rt)
end
end Go.Proofs.YtdkepkaflielhaaGreatDoor
