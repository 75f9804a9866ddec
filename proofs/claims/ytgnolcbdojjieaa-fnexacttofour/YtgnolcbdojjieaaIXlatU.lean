/- IXlatU: what the program's ToSix answers. Printed by mkixlatt.py. -/
import Derived.Test.YtgnolcbdojjieaaIXlatT
import Derived.Test.YtgnolcbdojjieaaIV4D
import Derived.Test.YtgnolcbdojjieaaMerged3
namespace Go.Proofs.Ytgnolcbdojjieaa
open Go.RowKit Go.PlainAid Go.Lib
set_option linter.unusedVariables false
set_option linter.unusedSimpArgs false


end Go.Proofs.Ytgnolcbdojjieaa
