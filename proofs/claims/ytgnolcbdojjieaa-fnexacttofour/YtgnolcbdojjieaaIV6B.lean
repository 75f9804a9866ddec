/- IV6B: what the program's layPiece and V6Bytes answer. Printed by mkiv6b.py. -/
import Derived.Test.YtgnolcbdojjieaaIV4BM
import Derived.Test.YtgnolcbdojjieaaILayM
import Derived.Test.YtgnolcbdojjieaaIV6
import Derived.Test.YtgnolcbdojjieaaBitMath
import Derived.Deep.RegionWith
import Derived.Deep.DeepCutAuto
namespace Go.Proofs.Ytgnolcbdojjieaa
open Go.RowKit Go.PlainAid Go.Lib
set_option linter.unusedVariables false
set_option linter.unusedSimpArgs false

end Go.Proofs.Ytgnolcbdojjieaa
