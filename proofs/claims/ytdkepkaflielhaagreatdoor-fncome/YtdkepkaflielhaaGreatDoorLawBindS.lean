import Derived.Test.YtdkepkaflielhaaGreatDoorAb
import Derived.Test.YtdkepkaflielhaaGreatDoorFlatS
import Derived.Test.YtdkepkaflielhaaGreatDoorOwnS
import Derived.Test.YtdkepkaflielhaaGreatDoorLawBind
import Derived.Test.YtdkepkaflielhaaGreatDoorMarkS
import Derived.Test.YtdkepkaflielhaaGreatDoorGrow
import Derived.Deep.RegionWith
import Derived.Deep.DeepCutAuto
set_option linter.unusedVariables false
set_option linter.unusedSimpArgs false
set_option maxRecDepth 100000
set_option maxHeartbeats 8000000
namespace Go.Proofs.YtdkepkaflielhaaGreatDoor
open Go.RowKit Go.PlainAid Go.ChangeShapes Go.WideShapes
theorem Tryz.infoBd:(Tryz.prog.info? 48).map (fun i=>(i.zero,i.size,i.bytes))=some (some (.agg (BdR 0 ⟨#[]⟩ 0 ⟨#[]⟩ 0).toArray),5,56):=by kernel_rfl
def bindM (k:Nat):List Value:=(BdR ((k:Nat):Int) (markV (k+1)) ((k+2:Nat):Int) (markV (k+3)) ((k+4:Nat):Int))
end Go.Proofs.YtdkepkaflielhaaGreatDoor
