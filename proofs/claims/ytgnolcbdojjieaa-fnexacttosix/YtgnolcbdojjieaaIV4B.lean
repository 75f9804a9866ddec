/- IV4B: what the program's offWord and V4Bytes answer. Printed by mkiv4b.py. -/
import Derived.Test.YtgnolcbdojjieaaIV4BM
import Derived.Test.YtgnolcbdojjieaaIV4
import Derived.Test.YtgnolcbdojjieaaMerged1
import Derived.Test.YtgnolcbdojjieaaGrowU
import Derived.Laws.CopyOwn
namespace Go.Proofs.Ytgnolcbdojjieaa
open Go.RowKit Go.PlainAid Go.Lib
set_option linter.unusedVariables false
set_option linter.unusedSimpArgs false

end Go.Proofs.Ytgnolcbdojjieaa
