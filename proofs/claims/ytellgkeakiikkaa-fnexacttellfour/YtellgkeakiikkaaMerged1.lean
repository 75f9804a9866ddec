import Derived.Test.YtellgkeakiikkaaSV4
import Derived.Test.YtellgkeakiikkaaLawV4
import Derived.Test.YtellgkeakiikkaaLawV6
set_option linter.unusedVariables false
set_option linter.unusedSimpArgs false
set_option maxRecDepth 100000
set_option maxHeartbeats 8000000
namespace Go.Proofs.Ytellgkeakiikkaa
open Go.RowKit Go.PlainAid
theorem specV4Right_sm (p:P4) (w:World) (hs:P4Sm p) (hw:P4Wf p) :
  Calls Try.prog 18 #[p4C p] w fun e w'=>e=.returned (.bool (v4Ok p))∧Below w.heap.size w w':=specV4Right_any p w hs.1 hs.2.1 hs.2.2.1 hs.2.2.2
end Go.Proofs.Ytellgkeakiikkaa
