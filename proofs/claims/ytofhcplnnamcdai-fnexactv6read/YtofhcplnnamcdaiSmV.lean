/- SmV: V4Right and V6Right of the specification at packets in the laws' limits. -/
import Derived.Test.YtofhcplnnamcdaiLawV4
import Derived.Test.YtofhcplnnamcdaiLawV6
import Derived.Test.YtofhcplnnamcdaiSV4
import Derived.Test.YtofhcplnnamcdaiSV6
namespace Go.Proofs.Ytofhcplnnamcdai
open Go.RowKit Go.PlainAid
set_option linter.unusedVariables false

theorem specV6Right_sm (p : P6) (w : World) (hs : P6Sm p) (hw : P6Wf p) :
    Calls Try.prog 10 #[p6C p] w fun e w' => e = .returned (.bool (v6Ok p)) ∧ Below w.heap.size w w' := specV6Right_any p w hs.1 hs.2.1 hs.2.2

end Go.Proofs.Ytofhcplnnamcdai
