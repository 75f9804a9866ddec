/- Texts put together: digits and groups: what the specification's l01Dec and l02Group answer. -/
import Derived.Test.YtgnolcbdojjieaaWords
import Derived.Laws.IdiomStrings
import Derived.Deep.DeepCutAuto
namespace Go.Proofs.Ytgnolcbdojjieaa
open Go.RowKit Go.PlainAid
set_option linter.unusedVariables false
set_option linter.unusedSimpArgs false

end Go.Proofs.Ytgnolcbdojjieaa
