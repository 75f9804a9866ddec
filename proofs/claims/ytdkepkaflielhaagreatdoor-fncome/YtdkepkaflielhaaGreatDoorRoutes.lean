import Derived.Test.YtdkepkaflielhaaGreatDoorAb
import Derived.Test.YtdkepkaflielhaaGreatDoorPopRoutes
import Derived.Laws.StructEq
import Derived.BigQuiet
import Derived.Lib.QuietBelow
import Derived.Deep.DeepCutAuto
set_option linter.unusedVariables false
set_option linter.unusedSimpArgs false
set_option maxRecDepth 100000
set_option maxHeartbeats 8000000
namespace Go.Proofs.YtdkepkaflielhaaGreatDoor
open Go.RowKit Go.PlainAid
structure RtsAt (w:World) (b off:Nat) (rs:List Rt):Prop where
 c0:∀ i (h:i < rs.length),w.cell? ⟨b,off+i*3,none⟩=some (.string rs[i].addr)
 c1:∀ i (h:i < rs.length),w.cell? ⟨b,off+i*3+1,none⟩=some (iV rs[i].bits)
 c2:∀ i (h:i < rs.length),w.cell? ⟨b,off+i*3+2,none⟩=some (iV rs[i].hop)
end Go.Proofs.YtdkepkaflielhaaGreatDoor
