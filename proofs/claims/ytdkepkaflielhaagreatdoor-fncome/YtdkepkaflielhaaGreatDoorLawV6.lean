import Derived.Test.YtdkepkaflielhaaGreatDoorAb
import Derived.Test.YtdkepkaflielhaaGreatDoorFlat
import Derived.Test.YtdkepkaflielhaaGreatDoorPkt
set_option linter.unusedVariables false
set_option linter.unusedSimpArgs false
set_option maxRecDepth 100000
set_option maxHeartbeats 8000000
namespace Go.Proofs.YtdkepkaflielhaaGreatDoor
open Go.RowKit Go.PlainAid Go.ChangeShapes Go.WideShapes
structure BoxV6 (w:World) (B:Nat) (p:P6):Prop where
 c0:w.cell? ⟨B,0,none⟩=some (iV p.cls)
 c1:w.cell? ⟨B,1,none⟩=some (iV p.flow)
 c2:w.cell? ⟨B,2,none⟩=some (iV p.next)
 c3:w.cell? ⟨B,3,none⟩=some (iV p.hops)
 c4:w.cell? ⟨B,4,none⟩=some (.string p.src)
 c5:w.cell? ⟨B,5,none⟩=some (.string p.dst)
 c6:w.cell? ⟨B,6,none⟩=some (.bool p.piece)
 c7:w.cell? ⟨B,7,none⟩=some (.bool p.more)
 c8:w.cell? ⟨B,8,none⟩=some (iV p.off)
 c9:w.cell? ⟨B,9,none⟩=some (iV p.id)
 c10:w.cell? ⟨B,10,none⟩=some (.string p.data)
end Go.Proofs.YtdkepkaflielhaaGreatDoor
