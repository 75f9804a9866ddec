import Derived.Test.YtdkepkaflielhaaGreatDoorAb
import Derived.Test.YtdkepkaflielhaaGreatDoorTickS
import Derived.Test.YtdkepkaflielhaaGreatDoorSBibR
set_option linter.unusedVariables false
set_option linter.unusedSimpArgs false
set_option maxRecDepth 100000
set_option maxHeartbeats 8000000
namespace Go.Proofs.YtdkepkaflielhaaGreatDoor
open Go.RowKit Go.PlainAid
def IsOneC (cs:List Value):Value→World→Prop:=fun v w=>∃ g,v=.slice (some ⟨g,0,none⟩) 1 1∧HoldsL w g cs
theorem stable_isOneC (cs:List Value) (hl:0 < cs.length):Stable (IsOneC cs):=fun v w w' ⟨g,h1,h2⟩ hb=>⟨g,h1,h2.kept hl hb⟩
end Go.Proofs.YtdkepkaflielhaaGreatDoor
