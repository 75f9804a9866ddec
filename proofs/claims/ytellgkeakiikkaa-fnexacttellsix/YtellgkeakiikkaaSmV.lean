import Derived.Test.YtellgkeakiikkaaLawV4
import Derived.Test.YtellgkeakiikkaaLawV6
import Derived.Test.YtellgkeakiikkaaMerged4
import Derived.Test.YtellgkeakiikkaaSV6
set_option linter.unusedVariables false
set_option linter.unusedSimpArgs false
set_option maxRecDepth 100000
set_option maxHeartbeats 8000000
namespace Go.Proofs.Ytellgkeakiikkaa
open Go.RowKit Go.PlainAid
theorem specV6Right_sm (p:P6) (w:World) (hs:P6Sm p) (hw:P6Wf p) :
  Calls Try.prog 23 #[p6C p] w fun e w'=>e=.returned (.bool (v6Ok p))∧Below w.heap.size w w':=specV6Right_any p w hs.1 hs.2.1 hs.2.2
end Go.Proofs.Ytellgkeakiikkaa
