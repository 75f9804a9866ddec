/- What the sums of chapter 2 answer over a string, in the program and in its specification: one contract a function. -/
import Derived.Test.YtmmojboagplopaaGreatDoorWords
namespace Go.Proofs.YtmmojboagplopaaGreatDoor
open Go.RowKit Go.PlainAid


/-- The sum of a text: its words, added so. -/
def sumV (s : ByteArray) : Int := sumN (bt s) ((s.size + 1) / 2)

theorem sumV_range (s : ByteArray) : 0 ≤ sumV s ∧ sumV s ≤ 65535 := sumN_range (bt_isByte s) _


set_option maxHeartbeats 800000 in
theorem sumOfS_any (s : ByteArray) (w : World) (hs : s.size ≤ 1048578) :
    Calls Tryz.prog 167 #[.string s] w fun e w' => e = .returned (.int .i64 (sumV s)) ∧ w' = w := by
  have hs' : s.size ≤ maxLen := by unfold maxLen; omega
  go_enter Tryz.func167, Tryz.ntmps167
  go_wp2
  go_loop [3, 9] (fun n i => ∃ k : Nat, k ≤ (s.size + 1) / 2 ∧ i = .int .i64 k ∧ n = .int .i64 (sumN (bt s) k)) (fun _ i => (s.size + 1) / 2 - (intOf i).toNat)
  case atStart => exact ⟨0, Nat.zero_le _, rfl, rfl⟩
  case round =>
    obtain ⟨k, hk, rfl, rfl⟩ := hrel
    have hr := sumN_range (bt_isByte s) k
    have hq := wordN_range (bt_isByte s) (2 * k)
    have HN : Hid (sumN (bt s) (k + 1) = add1 (sumN (bt s) k) (wordN (bt s) (2 * k))) := rfl
    have HF : Hid _ := fold_add (sumN (bt s) k) (wordN (bt s) (2 * k)) hr.1 hr.2 hq.1 hq.2
    have ha := and_65535 (sumN (bt s) k + wordN (bt s) (2 * k))
    by_cases hlt : k < (s.size + 1) / 2
    · have h2 : 2 * k < s.size := by omega
      go_wp2_with (go_at_call 139; refine (wordFromS_any s (2 * k) _ h2 hs').mono ?_; rintro e w' ⟨rfl, rfl⟩)
      go_round
      case rel => exact ⟨k + 1, by omega, by go_num, by rw [HN.out, ← HF.out]⟩
      case measure => simp [intOf]; omega
    · go_wp2
      go_ret
      exact ⟨ret_int (by unfold sumV; rw [show (s.size + 1) / 2 = k by omega]), rfl⟩

/-- What Sum answers: 0 of a text that is too long. -/
def sumA (s : ByteArray) : Int := if s.size ≤ 20000 then sumV s else 0

theorem sumA_range (s : ByteArray) : 0 ≤ sumA s ∧ sumA s ≤ 65535 := by
  unfold sumA; split
  · exact sumV_range s
  · omega



end Go.Proofs.YtmmojboagplopaaGreatDoor
