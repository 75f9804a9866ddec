/- What the words of chapter 2 answer, in the program and in its specification: one contract a function, over strings. -/
import Derived.Test.YtmmojboagplopaaGreatDoorProg
import Derived.Test.YtmmojboagplopaaGreatDoorMath
import Derived.Test.YtmmojboagplopaaGreatDoorBase
import Derived.WalkKit
import Derived.WalkLawsBesides
import Derived.RegionTactic
import Derived.ChangeAlike
namespace Go.Proofs.YtmmojboagplopaaGreatDoor
open Go.RowKit Go.PlainAid




/-- A text of more than 20000 bytes is too long. -/
theorem tooLong_any (s : ByteArray) (w : World) :
    Calls Tryz.prog 114 #[.string s] w fun e w' => e = .returned (.bool (decide ((20000 : Int) < s.size))) ∧ w' = w := by
  go_enter Tryz.func114, Tryz.ntmps114
  go_wp2
  go_ret
  exact ⟨rfl, rfl⟩

/-- The word from place k of a string on whose first byte is there: a byte 0 for the lower one that it lacks. -/
theorem wordFromS_any (s : ByteArray) (k : Nat) (w : World) (hk : k < s.size) (hs : s.size ≤ maxLen) :
    Calls Tryz.prog 139 #[.string s, .int .i64 k] w fun e w' => e = .returned (.int .i64 (wordN (bt s) k)) ∧ w' = w := by
  unfold maxLen at hs
  have hb := get_bt s
  have b1 := bt_isByte s k
  have b2 := bt_isByte s (k + 1)
  have hj := join_word (bt s k) (bt s (k + 1)) b1.1 b1.2 b2.1 b2.2
  by_cases h : k + 1 < s.size
  · go_enter Tryz.func139, Tryz.ntmps139
    go_wp2
    go_ret
    exact ⟨ret_int rfl, rfl⟩
  · have h2 : ¬ (k : Int) + 1 < s.size := by omega
    have HE : Hid (bt s (k + 1) = 0) := bt_end s (by omega)
    go_enter Tryz.func139, Tryz.ntmps139
    go_wp2
    go_ret
    exact ⟨ret_int (by unfold wordN; rw [HE.out]; omega), rfl⟩

/-- What Word answers. -/
def wordV (s : ByteArray) (a : Int) : Int := if s.size ≤ 20000 ∧ 0 ≤ a ∧ a + 1 < s.size then wordN (bt s) a.toNat else 0

theorem wordV_yes {s : ByteArray} {k : Nat} (h : s.size ≤ 20000) (hk : k + 1 < s.size) : wordV s k = wordN (bt s) k := by
  unfold wordV; rw [if_pos ⟨h, by omega, by omega⟩]; simp
theorem wordV_no {s : ByteArray} {a : Int} (h : ¬ (s.size ≤ 20000 ∧ 0 ≤ a ∧ a + 1 < s.size)) : wordV s a = 0 := by
  unfold wordV; rw [if_neg h]




end Go.Proofs.YtmmojboagplopaaGreatDoor
