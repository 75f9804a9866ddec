import Derived.Test.YthagnjokdnnmpaaGreatMerged10
import Derived.Test.YthagnjokdnnmpaaGreatMerged17
import Derived.Test.YthagnjokdnnmpaaGreatMerged11
import Derived.Test.YthagnjokdnnmpaaGreatMerged7
import Derived.Deep.RegionWith
import Derived.Deep.DeepCutAuto
set_option linter.unusedVariables false
set_option linter.unusedSimpArgs false
set_option maxRecDepth 100000
set_option maxHeartbeats 8000000
namespace Go.Proofs.YthagnjokdnnmpaaGreat
open Go.RowKit Go.PlainAid Go.ChangeShapes Go.WideShapes
section
variable {H:Type} {enc:TypeId × Value→H} {w:World} {base:Nat} {spare:Nat→Bool} {held:Bool}
end
end Go.Proofs.YthagnjokdnnmpaaGreat
