/- SmV: V4Right and V6Right of the specification at packets in the laws' limits. -/
import Derived.Test.YtgnolcbdojjieaaLawV4
import Derived.Test.YtgnolcbdojjieaaLawV6
import Derived.Test.YtgnolcbdojjieaaSV4
import Derived.Test.YtgnolcbdojjieaaSV6
namespace Go.Proofs.Ytgnolcbdojjieaa
open Go.RowKit Go.PlainAid
set_option linter.unusedVariables false

theorem specV6Right_sm (p : P6) (w : World) (hs : P6Sm p) (hw : P6Wf p) :
  Calls Try.prog 28 #[p6C p] w fun e w' => e = .returned (.bool (v6Ok p)) ∧ Below w.heap.size w w' := specV6Right_any p w hs.1 hs.2.1 hs.2.2

end Go.Proofs.Ytgnolcbdojjieaa
