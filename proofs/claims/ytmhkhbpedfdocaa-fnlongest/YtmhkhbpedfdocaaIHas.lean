/- Prefixes: what the program's PrefixHas answers. -/
import Derived.Test.YtmhkhbpedfdocaaIPrefix
namespace Go.Proofs.Ytmhkhbpedfdocaa
open Go.RowKit Go.PlainAid
set_option linter.unusedVariables false
set_option linter.unusedSimpArgs false

set_option maxRecDepth 100000 in
set_option maxHeartbeats 400000 in
theorem implPrefixHas_any (p : ByteArray) (b : Int) (a : ByteArray) (w : World) (hp : p.size ≤ 1048576) (ha : a.size ≤ 1048576) :
    Calls Try.prog 21 #[.agg #[.string p, .int .i64 b], .string a] w fun e w' => e = .returned (.bool (prefixHasV p b a)) ∧ Below w.heap.size w w' := by
  have hc0 : (w.alloc (.cells #[.string p, .int .i64 b] 33)).cell? ⟨w.heap.size, 0, none⟩ = some (.string p) := by simp
  have hc1 : (w.alloc (.cells #[.string p, .int .i64 b] 33)).cell? ⟨w.heap.size, 1, none⟩ = some (.int .i64 b) := by simp
  have hW1 : w.heap.size ≤ (w.alloc (.cells #[.string p, .int .i64 b] 33)).heap.size := by simp
  have HB : Hid (Below w.heap.size w (w.alloc (.cells #[.string p, .int .i64 b] 33))) := (Below.refl _ _).alloc (Nat.le_refl _) _
  have k0 := cell_regrown hc0
  have k1 := cell_regrown hc1
  by_cases hpo : prefixOk p b = true
  · have hcall : Hid (∀ W, Calls Try.prog 52 #[.agg #[.string p, .int .i64 b]] W fun e w' => e = .returned (.bool true) ∧ Below W.heap.size W w') := fun W => by rw [← hpo]; exact implPrefixRight_any p b W hp
    obtain ⟨hb0, hb1, hsz⟩ := prefixOk_le hpo
    have HP : Hid (prefixOk p b = true) := hpo
    have hz : Hid (zerosN (bt p) b.toNat (8 * p.size - b.toNat) = true) := by unfold prefixOk at hpo; simp at hpo; exact hpo.2
    obtain ⟨b, rfl⟩ := Int.eq_ofNat_of_zero_le hb0
    clear hpo
    by_cases hse : a.size = p.size
    · have e1 : ((a.size : Int) == (p.size : Int)) = true := by simp; omega
      have HV : Hid (prefixHasV p b a = sameN (bt p) (bt a) 0 b) := by unfold Hid prefixHasV hasV; simp [HP.out, hse, addrOk_yes (s := a) (by omega)]
      have HQ : Hid (((firstV a b).toList == p.toList) = prefixHasV p b a) := by
        unfold Hid
        rw [HV.out, toList_beq]
        exact decide_iff (first_has (by omega) hz.out hse)
      have ha16 : a.size ≤ 16 := by omega
      have hba : b ≤ 8 * a.size := by omega
      clear hsz hse
      go_enter Try.func21, Try.ntmps21
      go_wp2_with fail
      generalize hW : w.alloc (.cells #[.string p, .int .i64 b] 33) = W at *
      clear hW
      refine wp_region_quiet_below (by kernel_rfl) (by kernel_rfl) ?_
      repeat (go_big_quiet_step ((first | (go_at_call 52; exact Calls.regrown_of (hcall.out _)) | (go_at_call 53; exact Calls.regrown_of (implFirst_any a b _ ha16 hba)))))
      refine wpQuiet_nil ?_
      rintro w2 ⟨⟨dq, osq⟩, rfl⟩
      go_wp2_with fail
      go_ret
      exact ⟨ret_bool HQ.out, HB.out.trans ((below_regrown W dq osq).mono hW1)⟩
    · have e1 : ((a.size : Int) == (p.size : Int)) = false := by simp; omega
      have HV : Hid (prefixHasV p b a = false) := by unfold Hid prefixHasV hasV; simp [hse]
      clear hsz hse
      go_enter Try.func21, Try.ntmps21
      go_wp2_with fail
      generalize hW : w.alloc (.cells #[.string p, .int .i64 b] 33) = W at *
      clear hW
      refine wp_region_quiet_below (by kernel_rfl) (by kernel_rfl) ?_
      repeat (go_big_quiet_step ((go_at_call 52; exact Calls.regrown_of (hcall.out _))))
      refine wpQuiet_nil ?_
      rintro w2 ⟨⟨dq, osq⟩, rfl⟩
      go_wp2_with fail
      go_ret
      exact ⟨ret_bool HV.out.symm, HB.out.trans ((below_regrown W dq osq).mono hW1)⟩
  · have hpo' : prefixOk p b = false := by simpa using hpo
    have hcall : Hid (∀ W, Calls Try.prog 52 #[.agg #[.string p, .int .i64 b]] W fun e w' => e = .returned (.bool false) ∧ Below W.heap.size W w') := fun W => by rw [← hpo']; exact implPrefixRight_any p b W hp
    have HV : Hid (prefixHasV p b a = false) := by unfold Hid prefixHasV; simp [hpo']
    clear hpo hpo'
    go_enter Try.func21, Try.ntmps21
    go_wp2_with fail
    generalize hW : w.alloc (.cells #[.string p, .int .i64 b] 33) = W at *
    clear hW
    refine wp_region_quiet_below (by kernel_rfl) (by kernel_rfl) ?_
    repeat (go_big_quiet_step ((go_at_call 52; exact Calls.regrown_of (hcall.out _))))
    refine wpQuiet_nil ?_
    rintro w2 ⟨⟨dq, osq⟩, rfl⟩
    go_wp2_with fail
    go_ret
    exact ⟨ret_bool HV.out.symm, HB.out.trans ((below_regrown W dq osq).mono hW1)⟩

end Go.Proofs.Ytmhkhbpedfdocaa
