/- What the words of chapter 2 answer, in the program and in its specification: one contract a function, over strings. -/
import Derived.Test.YtgnolcbdojjieaaChecked
import Derived.Test.YtgnolcbdojjieaaMath
import Derived.Test.YtgnolcbdojjieaaBase
import Derived.WalkKit
import Derived.WalkLawsBesides
import Derived.RegionTactic
import Derived.ChangeAlike
namespace Go.Proofs.Ytgnolcbdojjieaa
open Go.RowKit Go.PlainAid




/-- A text of more than 20000 bytes is too long. -/
theorem tooLong_any (s : ByteArray) (w : World) :
  Calls Try.prog 22 #[.string s] w fun e w' => e = .returned (.bool (decide ((20000 : Int) < s.size))) ∧ w' = w := by
 go_enter Try.func22, Try.ntmps22
 go_wp2
 go_ret
 exact ⟨rfl, rfl⟩


end Go.Proofs.Ytgnolcbdojjieaa
