/- What the sums of chapter 2 answer over a string, in the program and in its specification: one contract a function. -/
import Derived.Test.YtgnolcbdojjieaaWords
namespace Go.Proofs.Ytgnolcbdojjieaa
open Go.RowKit Go.PlainAid

/-- The sum of a text: its words, added so. -/
def sumV (s : ByteArray) : Int := sumN (bt s) ((s.size + 1) / 2)

theorem sumV_range (s : ByteArray) : 0 ≤ sumV s ∧ sumV s ≤ 65535 := sumN_range (bt_isByte s) _

end Go.Proofs.Ytgnolcbdojjieaa
