import Derived.Test.YtdkepkaflielhaaGreatDoorMerged4
set_option linter.unusedVariables false
set_option linter.unusedSimpArgs false
set_option maxRecDepth 100000
set_option maxHeartbeats 8000000
namespace Go.Proofs.YtdkepkaflielhaaGreatDoor
open Go.RowKit Go.PlainAid
section
variable (n:Nat)
end
end Go.Proofs.YtdkepkaflielhaaGreatDoor
