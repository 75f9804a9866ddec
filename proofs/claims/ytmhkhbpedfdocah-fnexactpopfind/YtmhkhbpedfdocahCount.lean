/- Count: what the specification's l03Count answers. -/
import Derived.Test.YtmhkhbpedfdocahPopMath
import Derived.Test.YtmhkhbpedfdocahBits
namespace Go.Proofs.Ytmhkhbpedfdocah
open Go.RowKit Go.PlainAid
set_option linter.unusedVariables false
set_option linter.unusedSimpArgs false

theorem cntMask_le (m : Nat) : ∀ b, cntMask m b ≤ b
  | 0 => Nat.le_refl _
  | b + 1 => by have := cntMask_le m b; have : m / 2 ^ b % 2 < 2 := Nat.mod_lt _ (by omega); unfold cntMask; omega

theorem and_bit (m k : Nat) : bits .and .i64 ((m : Int) / 2 ^ k) 1 = ((m / 2 ^ k % 2 : Nat) : Int) := by
  rw [and_1]
  have : ((m / 2 ^ k % 2 : Nat) : Int) = (m : Int) / ((2 ^ k : Nat) : Int) % 2 := by rw [Int.natCast_emod, Int.natCast_ediv]; rfl
  rw [this, Int.natCast_pow]; rfl

set_option maxHeartbeats 1000000 in
theorem specCount_any (m b : Nat) (w : World) (hm : m < 65536) (hb : b ≤ 16) :
    Calls Try.prog 56 #[.int .i64 m, .int .i64 b] w fun e w' => e = .returned (.int .i64 (cntMask m b : Nat)) ∧ w' = w := by
  go_enter Try.func56, Try.ntmps56
  go_wp2_with fail
  go_loop [5, 6] (fun n i => ∃ k : Nat, k ≤ b ∧ i = .int .i64 k ∧ n = .int .i64 (cntMask m k : Nat)) (fun _ i => b - (intOf i).toNat)
  case atStart => exact ⟨0, Nat.zero_le _, rfl, rfl⟩
  case round =>
    obtain ⟨k, hk, rfl, rfl⟩ := hrel
    have hc := cntMask_le m k
    by_cases hlt : k < b
    · have HE : Hid (bits .and .i64 ((m : Int) / 2 ^ k) 1 = ((m / 2 ^ k % 2 : Nat) : Int)) := and_bit m k
      have HS : Hid (cntMask m (k + 1) = cntMask m k + m / 2 ^ k % 2) := rfl
      go_wp2_with fail
      go_round
      case rel =>
        have h2 : m / 2 ^ k % 2 < 2 := Nat.mod_lt _ (by omega)
        refine ⟨k + 1, by omega, by go_num, ?_⟩
        rw [HE.out, HS.out, IntWalk.wrap64_in _ ⟨by omega, by omega⟩, Int.natCast_add]
      case measure => simp [intOf]; omega
    · have hkb : k = b := by omega
      subst hkb
      go_wp2_with fail
      go_ret
      exact ⟨rfl, rfl⟩

end Go.Proofs.Ytmhkhbpedfdocah
