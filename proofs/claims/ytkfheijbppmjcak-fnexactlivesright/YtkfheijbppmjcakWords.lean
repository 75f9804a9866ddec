/- What the words of chapter 2 answer, in the program and in its specification: one contract a function, over strings. -/
import Derived.Test.YtkfheijbppmjcakChecked
import Derived.Test.YtkfheijbppmjcakMath
import Derived.Test.YtkfheijbppmjcakBase
import Derived.WalkKit
import Derived.WalkLawsBesides
import Derived.RegionTactic
import Derived.ChangeAlike
namespace Go.Proofs.Ytkfheijbppmjcak
open Go.RowKit Go.PlainAid






/-- What Word answers. -/
def wordV (s : ByteArray) (a : Int) : Int := if s.size ≤ 20000 ∧ 0 ≤ a ∧ a + 1 < s.size then wordN (bt s) a.toNat else 0

theorem wordV_yes {s : ByteArray} {k : Nat} (h : s.size ≤ 20000) (hk : k + 1 < s.size) : wordV s k = wordN (bt s) k := by
  unfold wordV; rw [if_pos ⟨h, by omega, by omega⟩]; simp
theorem wordV_no {s : ByteArray} {a : Int} (h : ¬ (s.size ≤ 20000 ∧ 0 ≤ a ∧ a + 1 < s.size)) : wordV s a = 0 := by
  unfold wordV; rw [if_neg h]




end Go.Proofs.Ytkfheijbppmjcak
