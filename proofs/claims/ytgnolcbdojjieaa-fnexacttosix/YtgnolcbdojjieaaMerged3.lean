/- IV4R, IV4D, in one text. -/
import Derived.Test.YtgnolcbdojjieaaIBox
import Derived.Test.YtgnolcbdojjieaaIV4
import Derived.Test.YtgnolcbdojjieaaBitMath
import Derived.Test.YtgnolcbdojjieaaMerged1
import Derived.Test.YtgnolcbdojjieaaBitK
import Derived.Defers
import Derived.Recover

/- IV4R: what the program's reader of IPv4 answers. Printed by mkiv4r.py. -/
namespace Go.Proofs.Ytgnolcbdojjieaa
open Go.RowKit Go.PlainAid
set_option linter.unusedVariables false
set_option linter.unusedSimpArgs false

end Go.Proofs.Ytgnolcbdojjieaa

/- IV4D: what the program's V4Read answers. Printed by mkiv4d.py. -/
namespace Go.Proofs.Ytgnolcbdojjieaa
open Go.RowKit Go.PlainAid
set_option linter.unusedVariables false
set_option linter.unusedSimpArgs false

end Go.Proofs.Ytgnolcbdojjieaa
