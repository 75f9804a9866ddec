/- PktMath2: packets of IPv6 come back from their bytes; a byte of a header of IPv4 turned makes another packet. Nothing of the program. -/
import Derived.Test.YtgnolcbdojjieaaPktMath
namespace Go.Proofs.Ytgnolcbdojjieaa
open Go.RowKit Go.PlainAid
set_option linter.unusedVariables false
set_option linter.unusedSimpArgs false

end Go.Proofs.Ytgnolcbdojjieaa
