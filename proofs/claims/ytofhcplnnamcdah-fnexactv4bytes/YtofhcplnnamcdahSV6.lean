/- SV6: what the specification's V6Right answers. -/
import Derived.Test.YtofhcplnnamcdahSV4
namespace Go.Proofs.Ytofhcplnnamcdah
open Go.RowKit Go.PlainAid
set_option linter.unusedVariables false
set_option linter.unusedSimpArgs false


end Go.Proofs.Ytofhcplnnamcdah
