/- SV6: what the specification's V6Right answers. -/
import Derived.Test.YtflabjocblenaajSV4
namespace Go.Proofs.Ytflabjocblenaaj
open Go.RowKit Go.PlainAid
set_option linter.unusedVariables false
set_option linter.unusedSimpArgs false


end Go.Proofs.Ytflabjocblenaaj
