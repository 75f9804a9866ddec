/- SmV: V4Right and V6Right of the specification at packets in the laws' limits. -/
import Derived.Test.YtgnolcbdojjieaaLawV4
import Derived.Test.YtgnolcbdojjieaaLawV6
import Derived.Test.YtgnolcbdojjieaaSV4
import Derived.Test.YtgnolcbdojjieaaSV6
namespace Go.Proofs.Ytgnolcbdojjieaa
open Go.RowKit Go.PlainAid
set_option linter.unusedVariables false

theorem specV4Right_sm (p : P4) (w : World) (hs : P4Sm p) (hw : P4Wf p) :
  Calls Try.prog 26 #[p4C p] w fun e w' => e = .returned (.bool (v4Ok p)) ∧ Below w.heap.size w w' := specV4Right_any p w hs.1 hs.2.1 hs.2.2.1 hs.2.2.2
end Go.Proofs.Ytgnolcbdojjieaa
