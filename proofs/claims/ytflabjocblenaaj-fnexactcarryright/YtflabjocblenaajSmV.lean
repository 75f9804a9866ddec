/- SmV: V4Right and V6Right of the specification at packets in the laws' limits. -/
import Derived.Test.YtflabjocblenaajLawV4
import Derived.Test.YtflabjocblenaajLawV6
import Derived.Test.YtflabjocblenaajSV4
import Derived.Test.YtflabjocblenaajSV6
namespace Go.Proofs.Ytflabjocblenaaj
open Go.RowKit Go.PlainAid
set_option linter.unusedVariables false


end Go.Proofs.Ytflabjocblenaaj
