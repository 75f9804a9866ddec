/- SFlow: what the specification's l05Pair, l05Echo, l05Proto, FlowRight and TcpFlags answer. -/
import Derived.Test.YtofhcplnnamcdabCarry
import Derived.Test.YtofhcplnnamcdabBase
import Derived.BigQuiet
import Derived.Deep.DeepCutAuto
namespace Go.Proofs.Ytofhcplnnamcdab
open Go.RowKit Go.PlainAid
set_option linter.unusedVariables false
set_option linter.unusedSimpArgs false


theorem spPair_any (s d : ByteArray) (w : World) (hs : s.size ≤ maxLen) (hd : d.size ≤ maxLen) :
    Calls Try.prog 73 #[.string s, .string d] w fun e w' => e = .returned (.bool (pairOk s d)) ∧ w' = w := by
  have HA : Hid (∀ W, Calls Try.prog 89 #[.string s] W fun e w' => e = .returned (.bool (addrOk s)) ∧ w' = W) := fun W => specAddrRight_any s W
  unfold maxLen at hs hd
  unfold pairOk
  generalize addrOk s = b at *
  by_cases h : s.size = d.size
  · have dh : ((s.size : Int) == (d.size : Int)) = true := by simp; omega
    rw [decide_eq_true h]
    clear h
    cases b
    all_goals go_enter Try.func73, Try.ntmps73
    all_goals go_wp2_with fail
    all_goals refine (HA.out _).mono ?_
    all_goals rintro e w2 ⟨rfl, rfl⟩
    all_goals go_wp2_with fail
    all_goals go_ret
    all_goals exact ⟨rfl, rfl⟩
  · have dh : ((s.size : Int) == (d.size : Int)) = false := by simp; omega
    rw [decide_eq_false h]
    cases b
    all_goals go_enter Try.func73, Try.ntmps73
    all_goals go_wp2_with fail
    all_goals refine (HA.out _).mono ?_
    all_goals rintro e w2 ⟨rfl, rfl⟩
    all_goals go_wp2_with fail
    all_goals go_ret
    all_goals exact ⟨rfl, rfl⟩



end Go.Proofs.Ytofhcplnnamcdab
