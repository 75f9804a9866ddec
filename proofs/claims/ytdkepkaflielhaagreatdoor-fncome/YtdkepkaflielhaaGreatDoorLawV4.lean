import Derived.Test.YtdkepkaflielhaaGreatDoorAb
import Derived.Test.YtdkepkaflielhaaGreatDoorFlat
import Derived.Test.YtdkepkaflielhaaGreatDoorPkt
set_option linter.unusedVariables false
set_option linter.unusedSimpArgs false
set_option maxRecDepth 100000
set_option maxHeartbeats 8000000
namespace Go.Proofs.YtdkepkaflielhaaGreatDoor
open Go.RowKit Go.PlainAid Go.ChangeShapes Go.WideShapes
structure BoxV4 (w:World) (B:Nat) (p:P4):Prop where
 c0:w.cell? ⟨B,0,none⟩=some (iV p.tos)
 c1:w.cell? ⟨B,1,none⟩=some (iV p.id)
 c2:w.cell? ⟨B,2,none⟩=some (.bool p.whole)
 c3:w.cell? ⟨B,3,none⟩=some (.bool p.more)
 c4:w.cell? ⟨B,4,none⟩=some (iV p.off)
 c5:w.cell? ⟨B,5,none⟩=some (iV p.ttl)
 c6:w.cell? ⟨B,6,none⟩=some (iV p.proto)
 c7:w.cell? ⟨B,7,none⟩=some (.string p.src)
 c8:w.cell? ⟨B,8,none⟩=some (.string p.dst)
 c9:w.cell? ⟨B,9,none⟩=some (.string p.opts)
 c10:w.cell? ⟨B,10,none⟩=some (.string p.data)
end Go.Proofs.YtdkepkaflielhaaGreatDoor
