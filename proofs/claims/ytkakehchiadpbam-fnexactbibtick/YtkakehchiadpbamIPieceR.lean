/- IPieceR: what the program's addrsPair, isTime and PieceRight answer. -/
import Derived.Test.YtkakehchiadpbamK8
import Derived.Test.YtkakehchiadpbamK6
import Derived.Test.YtkakehchiadpbamK2
import Derived.Test.YtkakehchiadpbamIV4A
import Derived.BigQuiet
import Derived.Deep.DeepCutAuto
namespace Go.Proofs.Ytkakehchiadpbam
open Go.RowKit Go.PlainAid
set_option linter.unusedVariables false
set_option linter.unusedSimpArgs false


theorem implTime_any (n : Int) (w : World) :
    Calls Try.prog 26 #[.int .i64 n] w fun e w' => e = .returned (.bool (isTime n)) ∧ w' = w := by
  by_cases h1 : 0 ≤ n
  · by_cases h2 : n ≤ 1000000000
    · have HV : Hid (isTime n = true) := by unfold Hid isTime isIn; simp [h1, h2]
      go_enter Try.func26, Try.ntmps26
      go_wp2_with fail
      go_ret
      exact ⟨ret_bool (by rw [HV.out]), rfl⟩
    · have HV : Hid (isTime n = false) := by unfold Hid isTime isIn; simp [h2]
      go_enter Try.func26, Try.ntmps26
      go_wp2_with fail
      go_ret
      exact ⟨ret_bool (by rw [HV.out]), rfl⟩
  · have HV : Hid (isTime n = false) := by unfold Hid isTime isIn; simp [h1]
    have h1' : n < 0 := by omega
    go_enter Try.func26, Try.ntmps26
    go_wp2_with fail
    go_ret
    exact ⟨ret_bool (by rw [HV.out]), rfl⟩

theorem pieceOk_prog (p : Pc) : pieceOk p = (pairOk p.src p.dst && (isIn p.proto 0 255 && (decide (0 ≤ p.id) && (decide (p.id ≤ 4294967295) && (decide (1 ≤ p.data.size) && (pcV p.off p.more p.data 65535 && isTime p.since)))))) := by
  unfold pieceOk pcV
  rw [show isIn p.id 0 4294967295 = (decide (0 ≤ p.id) && decide (p.id ≤ 4294967295)) from rfl]
  ac_rfl

theorem ba_toList_nil {a : ByteArray} (h : ¬ 1 ≤ a.size) : a.toList = [] := by
  rw [ByteArray.toList_eq]
  have : a.data.size = 0 := by have : a.data.size = a.size := rfl; omega
  exact Array.toList_eq_nil_iff.2 (Array.size_eq_zero_iff.1 this)
theorem ba_toList_cons {a : ByteArray} (h : 1 ≤ a.size) : ¬ a.toList = [] := by
  rw [ByteArray.toList_eq]
  intro e
  have := Array.toList_eq_nil_iff.1 e
  have h2 : a.data.size = a.size := rfl
  rw [this] at h2; simp at h2; omega

end Go.Proofs.Ytkakehchiadpbam
