/- ICount: what the program's countBelow answers. -/
import Derived.Test.YtmhkhbpedfdocahOnesMath
import Derived.Deep.QuietTactic
namespace Go.Proofs.Ytmhkhbpedfdocah
open Go.RowKit Go.PlainAid
set_option linter.unusedVariables false
set_option linter.unusedSimpArgs false

set_option maxHeartbeats 400000 in
theorem ones_any (x : Nat) (w : World) (hx : x < 65536) :
    Calls Try.prog 77 #[.int .u64 x] w fun e w' => e = .returned (.int .i64 (cntMask x 16 : Nat)) ∧ w' = w := by
  have HV : Hid (ocI x = ((cntMask x 16 : Nat) : Int)) := ocI_cnt x hx
  go_enter Try.func77, Try.ntmps77
  go_wp2_with fail
  go_ret
  exact ⟨ret_int HV.out, rfl⟩

theorem implCount_any (m p : Nat) (w : World) (hm : m < 65536) (hp : p ≤ 16) :
    Calls Try.prog 54 #[.int .i64 m, .int .i64 p] w fun e w' => e = .returned (.int .i64 (cntMask m p : Nat)) ∧ w' = w := by
  have HM : Hid (IntKind.u64.wrap (bits .and .i64 (m : Int) (wrap64 (wrap64 ((2 : Int) ^ p) - 1))) = ((m % 2 ^ p : Nat) : Int)) := mask_arg m p hm hp
  have HC : Hid (∀ W, Calls Try.prog 77 #[.int .u64 ((m % 2 ^ p : Nat) : Int)] W fun e w' => e = .returned (.int .i64 (cntMask m p : Nat)) ∧ w' = W) := fun W => by
    have hlt : m % 2 ^ p < 65536 := Nat.lt_of_le_of_lt (Nat.mod_le _ _) hm
    have := ones_any (m % 2 ^ p) W hlt
    rwa [cnt_le16 m p hp] at this
  go_enter Try.func54, Try.ntmps54
  go_wp2_with fail
  rw [HM.out]
  refine (HC.out _).mono ?_
  rintro e w2 ⟨rfl, rfl⟩
  go_wp2_with fail
  go_ret
  exact ⟨rfl, rfl⟩

end Go.Proofs.Ytmhkhbpedfdocah
