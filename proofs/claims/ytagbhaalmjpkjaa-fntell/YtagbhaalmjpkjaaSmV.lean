import Derived.Test.YtagbhaalmjpkjaaMerged5
import Derived.Test.YtagbhaalmjpkjaaSV4
import Derived.Test.YtagbhaalmjpkjaaSV6
set_option linter.unusedVariables false
set_option linter.unusedSimpArgs false
set_option maxRecDepth 100000
set_option maxHeartbeats 8000000
namespace Go.Proofs.Ytagbhaalmjpkjaa
open Go.RowKit Go.PlainAid
theorem specV4Right_sm (p:P4) (w:World) (hs:P4Sm p) (hw:P4Wf p) :
  Calls Try.prog 14 #[p4C p] w fun e w'=>e=.returned (.bool (v4Ok p))∧Below w.heap.size w w':=specV4Right_any p w hs.1 hs.2.1 hs.2.2.1 hs.2.2.2
theorem specV6Right_sm (p:P6) (w:World) (hs:P6Sm p) (hw:P6Wf p) :
  Calls Try.prog 19 #[p6C p] w fun e w'=>e=.returned (.bool (v6Ok p))∧Below w.heap.size w w':=specV6Right_any p w hs.1 hs.2.1 hs.2.2
end Go.Proofs.Ytagbhaalmjpkjaa
