import Derived.Test.YtdkepkaflielhaaGreatDoorAb
import Derived.Test.YtdkepkaflielhaaGreatDoorLawSt9
set_option linter.unusedVariables false
set_option linter.unusedSimpArgs false
set_option maxRecDepth 100000
set_option maxHeartbeats 8000000
namespace Go.Proofs.YtdkepkaflielhaaGreatDoor
open Go.RowKit Go.PlainAid Go.ChangeShapes Go.WideShapes
section
variable {base lo hi B:Nat} {w W:World} {a b:Option Addr} {x:Bb}
end
end Go.Proofs.YtdkepkaflielhaaGreatDoor
