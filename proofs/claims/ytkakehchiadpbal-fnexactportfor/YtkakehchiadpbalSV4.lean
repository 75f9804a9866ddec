/- SV4: what the specification's l01Is, l01Byte and V4Right answer. -/
import Derived.Test.YtkakehchiadpbalK3
import Derived.Test.YtkakehchiadpbalK1
import Derived.BigQuiet
import Derived.Deep.DeepCutAuto
namespace Go.Proofs.Ytkakehchiadpbal
open Go.RowKit Go.PlainAid
set_option linter.unusedVariables false
set_option linter.unusedSimpArgs false

theorem specIs_any (n lo hi : Int) (w : World) :
    Calls Try.prog 31 #[.int .i64 n, .int .i64 lo, .int .i64 hi] w fun e w' => e = .returned (.bool (isIn n lo hi)) ∧ w' = w := by
  by_cases h1 : lo ≤ n
  · by_cases h2 : n ≤ hi
    · have HV : Hid (isIn n lo hi = true) := by unfold Hid isIn; simp [h1, h2]
      go_enter Try.func31, Try.ntmps31
      go_wp2_with fail
      go_ret
      exact ⟨ret_bool (by rw [HV.out]), rfl⟩
    · have HV : Hid (isIn n lo hi = false) := by unfold Hid isIn; simp [h2]
      go_enter Try.func31, Try.ntmps31
      go_wp2_with fail
      go_ret
      exact ⟨ret_bool (by rw [HV.out]), rfl⟩
  · have HV : Hid (isIn n lo hi = false) := by unfold Hid isIn; simp [h1]
    have h1' : n < lo := by omega
    go_enter Try.func31, Try.ntmps31
    go_wp2_with fail
    go_ret
    exact ⟨ret_bool (by rw [HV.out]), rfl⟩



end Go.Proofs.Ytkakehchiadpbal
