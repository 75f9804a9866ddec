import Derived.Test.YtdkepkaflielhaaGreatDoorAb
import Derived.Test.YtdkepkaflielhaaGreatDoorFlat
import Derived.Test.YtdkepkaflielhaaGreatDoorBibs
set_option linter.unusedVariables false
set_option linter.unusedSimpArgs false
set_option maxRecDepth 100000
set_option maxHeartbeats 8000000
namespace Go.Proofs.YtdkepkaflielhaaGreatDoor
open Go.RowKit Go.PlainAid Go.ChangeShapes Go.WideShapes
structure BoxSession (w:World) (B:Nat) (p:Ss):Prop where
 c0:w.cell? ⟨B,0,none⟩=some (iV p.proto)
 c1:w.cell? ⟨B,1,none⟩=some (.string p.inn)
 c2:w.cell? ⟨B,2,none⟩=some (iV p.inPort)
 c3:w.cell? ⟨B,3,none⟩=some (.string p.peer)
 c4:w.cell? ⟨B,4,none⟩=some (iV p.peerPort)
 c5:w.cell? ⟨B,5,none⟩=some (iV p.state)
 c6:w.cell? ⟨B,6,none⟩=some (iV p.untl)
end Go.Proofs.YtdkepkaflielhaaGreatDoor
