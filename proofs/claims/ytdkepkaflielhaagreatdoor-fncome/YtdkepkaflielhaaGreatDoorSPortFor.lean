import Derived.Test.YtdkepkaflielhaaGreatDoorAb
import Derived.Test.YtdkepkaflielhaaGreatDoorSPort
import Derived.Test.YtdkepkaflielhaaGreatDoorLawBibM
set_option linter.unusedVariables false
set_option linter.unusedSimpArgs false
set_option maxRecDepth 100000
set_option maxHeartbeats 8000000
namespace Go.Proofs.YtdkepkaflielhaaGreatDoor
open Go.RowKit Go.PlainAid
def bbZ:Bb:=⟨[],[]⟩
end Go.Proofs.YtdkepkaflielhaaGreatDoor
