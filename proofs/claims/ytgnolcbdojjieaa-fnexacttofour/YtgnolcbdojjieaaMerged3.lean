/- IV6R, IV6D, in one text. -/
import Derived.Test.YtgnolcbdojjieaaMerged2
import Derived.Test.YtgnolcbdojjieaaIV6
import Derived.Defers
import Derived.Recover

/- IV6R: what the program's reader of IPv6 answers. Printed by mkiv6r.py. -/
namespace Go.Proofs.Ytgnolcbdojjieaa
open Go.RowKit Go.PlainAid
set_option linter.unusedVariables false
set_option linter.unusedSimpArgs false

end Go.Proofs.Ytgnolcbdojjieaa

/- IV6D: what the program's V6Read answers. Printed by mkiv4d.py. -/
namespace Go.Proofs.Ytgnolcbdojjieaa
open Go.RowKit Go.PlainAid
set_option linter.unusedVariables false
set_option linter.unusedSimpArgs false

end Go.Proofs.Ytgnolcbdojjieaa
