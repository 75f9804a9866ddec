/- Prefixes: what the program's PrefixRight and PrefixHas answer. -/
import Derived.Test.YtmhkhbpedfdocaaFirstMath
import Derived.Deep.RegionHeld
import Derived.Lib.QuietBelow
namespace Go.Proofs.Ytmhkhbpedfdocaa
open Go.RowKit Go.PlainAid
set_option linter.unusedVariables false
set_option linter.unusedSimpArgs false

theorem toList_beq (a b : ByteArray) : (a.toList == b.toList) = decide (a = b) := by
  rw [Bool.eq_iff_iff, beq_iff_eq, decide_eq_true_iff]
  refine ⟨fun h => ?_, fun h => by rw [h]⟩
  rw [ByteArray.toList_eq, ByteArray.toList_eq] at h
  exact ByteArray.ext (Array.toList_inj.1 h)

theorem decide_iff {p : Prop} [Decidable p] {b : Bool} (h : p ↔ b = true) : decide p = b := by rw [Bool.eq_iff_iff, decide_eq_true_iff]; exact h

theorem box_kept {w w3 : World} {B : Nat} {v0 v1 : Value} (hS : w.cell? ⟨B, 0, none⟩ = some v0 ∧ w.cell? ⟨B, 1, none⟩ = some v1) (h : Below w.heap.size w w3) : w3.cell? ⟨B, 0, none⟩ = some v0 ∧ w3.cell? ⟨B, 1, none⟩ = some v1 :=
  ⟨((bcell h).1 B 0 (World.block_lt_of_cell? w _ hS.1)).trans hS.1, ((bcell h).1 B 1 (World.block_lt_of_cell? w _ hS.1)).trans hS.2⟩

set_option maxRecDepth 100000 in
set_option maxHeartbeats 1000000 in
theorem implPrefixRight_any (s : ByteArray) (b : Int) (w : World) (hs : s.size ≤ 1048576) :
    Calls Try.prog 52 #[.agg #[.string s, .int .i64 b]] w fun e w' => e = .returned (.bool (prefixOk s b)) ∧ Below w.heap.size w w' := by
  have hc0 : (w.alloc (.cells #[.string s, .int .i64 b] 33)).cell? ⟨w.heap.size, 0, none⟩ = some (.string s) := by simp
  have hc1 : (w.alloc (.cells #[.string s, .int .i64 b] 33)).cell? ⟨w.heap.size, 1, none⟩ = some (.int .i64 b) := by simp
  have HB : Hid (Below w.heap.size w (w.alloc (.cells #[.string s, .int .i64 b] 33))) := (Below.refl _ _).alloc (Nat.le_refl _) _
  by_cases ha : addrOk s = true
  · have hcall : Hid (∀ W, Calls Try.prog 66 #[.string s] W fun e w' => e = .returned (.bool true) ∧ w' = W) := fun W => by rw [← ha]; exact implAddrRight_any s W
    have HA : Hid (addrOk s = true) := ha
    clear ha
    by_cases h0 : 0 ≤ b
    · by_cases h1 : b ≤ 8 * (s.size : Int)
      · have HV : Hid (prefixOk s b = zerosN (bt s) b.toNat (8 * s.size - b.toNat)) := by unfold Hid prefixOk; simp [HA.out, h0, h1]
        obtain ⟨b, rfl⟩ := Int.eq_ofNat_of_zero_le h0
        have hs16 : s.size ≤ 16 := by have := addrOk_size HA.out; omega
        go_enter Try.func52, Try.ntmps52
        go_wp2_with fail
        go_region_held (fun w' => w'.cell? ⟨w.heap.size, 0, none⟩ = some (.string s) ∧ w'.cell? ⟨w.heap.size, 1, none⟩ = some (.int .i64 b)) (go_keep) (first | (go_at_call 66; refine (hcall.out _).mono ?_; rintro e w1 ⟨rfl, rfl⟩) | (go_at_call 67; refine (implBits_any s _ hs).mono ?_; rintro e w2 ⟨rfl, rfl⟩) | (go_at_call 53; refine (implFirst_any s b _ hs16 (by omega)).mono ?_; rintro e w3 ⟨rfl, q3⟩; have hk : w3.cell? ⟨w.heap.size, 0, none⟩ = some (.string s) ∧ w3.cell? ⟨w.heap.size, 1, none⟩ = some (.int .i64 b) := box_kept (by assumption) q3))
        have hq : ((firstV s b).toList == s.toList) = prefixOk s b := by
          rw [HV.out, show (b : Int).toNat = b from rfl, toList_beq]
          exact decide_iff (first_right (by omega))
        go_wp2_with fail
        go_ret
        exact ⟨ret_bool hq, HB.out.trans ((below_undrew q3).mono (by simp))⟩
      · have HV : Hid (prefixOk s b = false) := by unfold Hid prefixOk; simp [h1]
        have d1 : decide (b ≤ 8 * (s.size : Int)) = false := by simpa using h1
        go_enter Try.func52, Try.ntmps52
        go_wp2_with fail
        generalize hW : w.alloc (.cells #[.string s, .int .i64 b] 33) = W at *
        clear hW h1
        first | go_quiet ((first | (go_at_call 66; exact Calls.quiet_of_same (hcall.out _)) | (go_at_call 67; exact Calls.quiet_of_same (implBits_any _ _ hs))))
        go_wp2_with fail
        go_ret
        exact ⟨ret_bool HV.out.symm, HB.out.trans ⟨rfl, rfl, rfl, Nat.le_refl _, fun _ _ => rfl⟩⟩
    · have HV : Hid (prefixOk s b = false) := by unfold Hid prefixOk; simp [h0]
      have d0 : decide (0 ≤ b) = false := by simpa using h0
      clear h0
      go_enter Try.func52, Try.ntmps52
      go_wp2_with fail
      generalize hW : w.alloc (.cells #[.string s, .int .i64 b] 33) = W at *
      clear hW
      first | go_quiet ((go_at_call 66; exact Calls.quiet_of_same (hcall.out _)))
      go_wp2_with fail
      go_ret
      exact ⟨ret_bool HV.out.symm, HB.out.trans ⟨rfl, rfl, rfl, Nat.le_refl _, fun _ _ => rfl⟩⟩
  · have ha' : addrOk s = false := by simpa using ha
    have HV : Hid (prefixOk s b = false) := by unfold Hid prefixOk; simp [ha']
    have hcall : Hid (∀ W, Calls Try.prog 66 #[.string s] W fun e w' => e = .returned (.bool false) ∧ w' = W) := fun W => by rw [← ha']; exact implAddrRight_any s W
    clear ha ha'
    go_enter Try.func52, Try.ntmps52
    go_wp2_with fail
    generalize hW : w.alloc (.cells #[.string s, .int .i64 b] 33) = W at *
    clear hW
    first | go_quiet ((go_at_call 66; exact Calls.quiet_of_same (hcall.out _)))
    go_wp2_with fail
    go_ret
    exact ⟨ret_bool HV.out.symm, HB.out.trans ⟨rfl, rfl, rfl, Nat.le_refl _, fun _ _ => rfl⟩⟩

end Go.Proofs.Ytmhkhbpedfdocaa
