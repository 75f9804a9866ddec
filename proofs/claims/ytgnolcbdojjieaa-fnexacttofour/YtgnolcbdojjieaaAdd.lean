/- Sums of two and three words by layWords and sumOf: what SumAdd, SumTurn and SumRight answer, in the program and in its specification. -/
import Derived.Test.YtgnolcbdojjieaaLay
namespace Go.Proofs.Ytgnolcbdojjieaa
open Go.RowKit Go.PlainAid

theorem getD_word (ws : List Int) (h : ∀ n ∈ ws, 0 ≤ n ∧ n ≤ 65535) (k : Nat) : 0 ≤ ws.getD k 0 ∧ ws.getD k 0 ≤ 65535 := by
 by_cases hk : k < ws.length
 ·simp only [List.getD, List.getElem?_eq_getElem hk, Option.getD_some]; exact h _ (List.getElem_mem hk)
 ·simp [List.getD, List.getElem?_eq_none (show ws.length ≤ k by omega)]

end Go.Proofs.Ytgnolcbdojjieaa
