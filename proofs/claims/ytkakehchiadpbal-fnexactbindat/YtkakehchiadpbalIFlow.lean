/- IFlow: what the program's TcpFlags, addrsPair, isCarried, isEcho and FlowRight answer. -/
import Derived.Test.YtkakehchiadpbalCarry
import Derived.Test.YtkakehchiadpbalBase
import Derived.Test.YtkakehchiadpbalABit
import Derived.Test.YtkakehchiadpbalTwo
import Derived.Test.YtkakehchiadpbalLawFlow
import Derived.BigQuiet
import Derived.Deep.DeepCutAuto
namespace Go.Proofs.Ytkakehchiadpbal
open Go.RowKit Go.PlainAid
set_option linter.unusedVariables false
set_option linter.unusedSimpArgs false

theorem implLong_any (t : ByteArray) (w : World) :
    Calls Try.prog 59 #[.string t] w fun e w' => e = .returned (.bool (decide (20000 < t.size))) ∧ w' = w := by
  by_cases h : 20000 < t.size
  · have d : decide ((20000 : Int) < (t.size : Int)) = true := by simp; omega
    rw [decide_eq_true h]
    go_enter Try.func59, Try.ntmps59
    go_wp2_with fail
    go_ret
    exact ⟨rfl, rfl⟩
  · have d : decide ((20000 : Int) < (t.size : Int)) = false := by simp; omega
    rw [decide_eq_false h]
    go_enter Try.func59, Try.ntmps59
    go_wp2_with fail
    go_ret
    exact ⟨rfl, rfl⟩





end Go.Proofs.Ytkakehchiadpbal
