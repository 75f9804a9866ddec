/- Closed facts of the row and the program, some of them (each by the kernel). -/
import Derived.Test.YtmmojboagplopaaGreatDoorRows
import Derived.OpenVars
import Derived.WalkKit
import Derived.ProofKit
import Derived.SevenTiedAt
import Derived.KernelRfl
namespace Go.Proofs.YtmmojboagplopaaGreatDoor.fnExactDeskWords
open Go.ChangeShapes Go.WideShapes Go.ChangeAt Go.RowKit
set_option linter.unusedVariables false
set_option maxRecDepth 100000
theorem k12 : ((Rows.fnExactDeskWordsRow.named == Tryz.prog.varsNamed 3)) = true := by kernel_rfl
end Go.Proofs.YtmmojboagplopaaGreatDoor.fnExactDeskWords
