/- IXlat6: what the program's layAsSix answers. Printed by mkixlat6.py. -/
import Derived.Test.YtgnolcbdojjieaaIXlat
import Derived.Test.YtgnolcbdojjieaaIV6B
namespace Go.Proofs.Ytgnolcbdojjieaa
open Go.RowKit Go.PlainAid Go.Lib
set_option linter.unusedVariables false
set_option linter.unusedSimpArgs false

end Go.Proofs.Ytgnolcbdojjieaa
