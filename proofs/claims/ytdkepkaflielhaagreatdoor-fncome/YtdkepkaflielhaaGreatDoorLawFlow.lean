import Derived.Test.YtdkepkaflielhaaGreatDoorAb
import Derived.Test.YtdkepkaflielhaaGreatDoorFlat
import Derived.Test.YtdkepkaflielhaaGreatDoorCarry
set_option linter.unusedVariables false
set_option linter.unusedSimpArgs false
set_option maxRecDepth 100000
set_option maxHeartbeats 8000000
namespace Go.Proofs.YtdkepkaflielhaaGreatDoor
open Go.RowKit Go.PlainAid Go.ChangeShapes Go.WideShapes
structure BoxFlow (w:World) (B:Nat) (p:Fl):Prop where
 c0:w.cell? ⟨B,0,none⟩=some (iV p.proto)
 c1:w.cell? ⟨B,1,none⟩=some (.string p.src)
 c2:w.cell? ⟨B,2,none⟩=some (.string p.dst)
 c3:w.cell? ⟨B,3,none⟩=some (iV p.sp)
 c4:w.cell? ⟨B,4,none⟩=some (iV p.dp)
end Go.Proofs.YtdkepkaflielhaaGreatDoor
