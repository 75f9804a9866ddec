/- Closed facts of the row and the program, some of them (each by the kernel). -/
import Derived.Test.YtmmojboagplopaaGreatDoorRows
import Derived.OpenVars
import Derived.WalkKit
import Derived.ProofKit
import Derived.SevenTiedAt
import Derived.KernelRfl
namespace Go.Proofs.YtmmojboagplopaaGreatDoor.fnExactDeskWords
open Go.ChangeShapes Go.WideShapes Go.ChangeAt Go.RowKit
set_option linter.unusedVariables false
set_option maxRecDepth 100000
theorem h1 : Rows.fnExactDeskWordsRow.wfByText (OpenSpec.ofChange Rows.fnExactDeskWordsSpec) = true := by kernel_rfl
theorem h2 : Tryz.prog.mainIs = some (true, "bc6e1b07842b5cbb078c987e0312a2181f2ef4133c88d1a00808739433269aa1".toList) := by kernel_rfl
theorem h3 : true = Tryz.prog.looks [] := by kernel_rfl
theorem h5 : Tryz.prog.funcNamed Rows.fnExactDeskWordsRow.func = some 3 := by kernel_rfl
theorem h6 : Tryz.f3.isInstance Tryz.prog Rows.fnExactDeskWordsRow.origin Rows.fnExactDeskWordsRow.targs := (of_decide_eq_true (by kernel_rfl))
theorem h7 : Tryz.f3.isWrapper Tryz.prog Rows.fnExactDeskWordsRow.wrapper Rows.fnExactDeskWordsRow.mainSum := (by unfold Func.isWrapper; first | (rw [if_pos (by decide +kernel)]; kernel_rfl) | (rw [if_neg (by decide +kernel)]; exact ⟨rfl, rfl⟩))
end Go.Proofs.YtmmojboagplopaaGreatDoor.fnExactDeskWords
