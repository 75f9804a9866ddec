/- IPiece6, IRest, in one text. -/
import Derived.Test.YtgnolcbdojjieaaIBut
import Derived.Test.YtgnolcbdojjieaaBitK
import Derived.Test.YtgnolcbdojjieaaICur
import Derived.Deep.RegionWith

/- IPiece6: what the program's withPiece answers. Printed by mkiv6r.py. -/
namespace Go.Proofs.Ytgnolcbdojjieaa
open Go.RowKit Go.PlainAid
set_option linter.unusedVariables false
set_option linter.unusedSimpArgs false

end Go.Proofs.Ytgnolcbdojjieaa

/- IRest: what the program's rest answers. -/
namespace Go.Proofs.Ytgnolcbdojjieaa
open Go.RowKit Go.PlainAid
set_option linter.unusedVariables false
set_option linter.unusedSimpArgs false

end Go.Proofs.Ytgnolcbdojjieaa
