/- SV4: what the specification's l01Is, l01Byte and V4Right answer. -/
import Derived.Test.YtkfheijbppmjcakDoorPkt
import Derived.Test.YtkfheijbppmjcakDoorBase
import Derived.BigQuiet
import Derived.Deep.DeepCutAuto
namespace Go.Proofs.YtkfheijbppmjcakDoor
open Go.RowKit Go.PlainAid
set_option linter.unusedVariables false
set_option linter.unusedSimpArgs false

theorem specIs_any (n lo hi : Int) (w : World) :
    Calls Tryd.prog 7 #[.int .i64 n, .int .i64 lo, .int .i64 hi] w fun e w' => e = .returned (.bool (isIn n lo hi)) ∧ w' = w := by
  by_cases h1 : lo ≤ n
  · by_cases h2 : n ≤ hi
    · have HV : Hid (isIn n lo hi = true) := by unfold Hid isIn; simp [h1, h2]
      go_enter Tryd.func7, Tryd.ntmps7
      go_wp2_with fail
      go_ret
      exact ⟨ret_bool (by rw [HV.out]), rfl⟩
    · have HV : Hid (isIn n lo hi = false) := by unfold Hid isIn; simp [h2]
      go_enter Tryd.func7, Tryd.ntmps7
      go_wp2_with fail
      go_ret
      exact ⟨ret_bool (by rw [HV.out]), rfl⟩
  · have HV : Hid (isIn n lo hi = false) := by unfold Hid isIn; simp [h1]
    have h1' : n < lo := by omega
    go_enter Tryd.func7, Tryd.ntmps7
    go_wp2_with fail
    go_ret
    exact ⟨ret_bool (by rw [HV.out]), rfl⟩

theorem specByte_any (n : Int) (w : World) :
    Calls Tryd.prog 8 #[.int .i64 n] w fun e w' => e = .returned (.bool (isIn n 0 255)) ∧ w' = w := by
  have HC : Hid (∀ W, Calls Tryd.prog 7 #[.int .i64 n, .int .i64 0, .int .i64 255] W fun e w' => e = .returned (.bool (isIn n 0 255)) ∧ w' = W) := fun W => specIs_any n 0 255 W
  generalize isIn n 0 255 = b at *
  go_enter Tryd.func8, Tryd.ntmps8
  go_wp2_with fail
  refine (HC.out _).mono ?_
  rintro e w2 ⟨rfl, rfl⟩
  go_wp2_with fail
  go_ret
  exact ⟨rfl, rfl⟩


end Go.Proofs.YtkfheijbppmjcakDoor
