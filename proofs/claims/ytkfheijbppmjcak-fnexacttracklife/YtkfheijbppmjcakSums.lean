/- What the sums of chapter 2 answer over a string, in the program and in its specification: one contract a function. -/
import Derived.Test.YtkfheijbppmjcakWords
namespace Go.Proofs.Ytkfheijbppmjcak
open Go.RowKit Go.PlainAid


/-- The sum of a text: its words, added so. -/
def sumV (s : ByteArray) : Int := sumN (bt s) ((s.size + 1) / 2)

theorem sumV_range (s : ByteArray) : 0 ≤ sumV s ∧ sumV s ≤ 65535 := sumN_range (bt_isByte s) _



/-- What Sum answers: 0 of a text that is too long. -/
def sumA (s : ByteArray) : Int := if s.size ≤ 20000 then sumV s else 0

theorem sumA_range (s : ByteArray) : 0 ≤ sumA s ∧ sumA s ≤ 65535 := by
  unfold sumA; split
  · exact sumV_range s
  · omega



end Go.Proofs.Ytkfheijbppmjcak
