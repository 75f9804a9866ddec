/- SmF: FlowRight of the specification at a flow that is within the laws' limits. -/
import Derived.Test.YtflabjocblenaaiSFlow
import Derived.Test.YtflabjocblenaaiLawFlow
namespace Go.Proofs.Ytflabjocblenaai
open Go.RowKit Go.PlainAid
set_option linter.unusedVariables false
theorem specFlowRight_sm (p : Fl) (w : World) (hs : FlSm p) (hw : FlWf p) :
    Calls Try.prog 19 #[fwC p] w fun e w' => e = .returned (.bool (flowOk p)) ∧ Below w.heap.size w w' := by
  obtain ⟨g0, g1⟩ := hs
  exact specFlowRight_any p w g0 g1
end Go.Proofs.Ytflabjocblenaai
