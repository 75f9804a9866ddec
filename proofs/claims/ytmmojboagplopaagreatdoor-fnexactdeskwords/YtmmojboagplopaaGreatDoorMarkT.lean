/- MarkT: what the laws' markText answers. -/
import Derived.Test.YtmmojboagplopaaGreatDoorBase
import Derived.Test.YtmmojboagplopaaGreatDoorTwo
import Derived.Deep.RegionWith
namespace Go.Proofs.YtmmojboagplopaaGreatDoor
open Go.RowKit Go.PlainAid
set_option linter.unusedVariables false
set_option linter.unusedSimpArgs false

def oneM (x : Nat) : ByteArray := ⟨#[UInt8.ofNat x]⟩
/-- The digits of a number ahead of a text. -/
def markA (k : Nat) (o : ByteArray) : ByteArray := if h : k = 0 then o else markA (k / 10) (oneM (48 + k % 10) ++ o)
termination_by k
decreasing_by omega
theorem markA_zero (o : ByteArray) : markA 0 o = o := by rw [markA]; rfl
theorem markA_step {k : Nat} (h : 0 < k) (o : ByteArray) : markA k o = markA (k / 10) (oneM (48 + k % 10) ++ o) := by rw [markA, dif_neg (by omega)]
def emM : ByteArray := ⟨#[109]⟩
/-- What markText answers. -/
def markV (k : Nat) : ByteArray := emM ++ markA k ⟨#[]⟩

theorem oneM_conv {w : World} {b cap : Nat} {x : Nat} (hx : x ≤ 255) (h0 : w.cell? ⟨b, 0, none⟩ = some (.int .u8 (x : Int))) :
    (convert 41 9 (.slice (some ⟨b, 0, none⟩) 1 cap)).run Tryz.prog w = .ok (.string (oneM x)) w :=
  run_convert_bytes_back (P := Tryz.prog) w 41 9 5 ⟨b, 0, none⟩ cap [UInt8.ofNat x] Tryz.underlying41 Tryz.underlying5 Tryz.underlying9 (by
    intro j hj
    match j, hj with
    | 0, _ => simp only [Addr.add, Nat.add_zero, List.getElem_cons_zero]; rw [UInt8.toNat_ofNat', Nat.mod_eq_of_lt (by omega)]; exact h0)

set_option maxRecDepth 100000 in
set_option maxHeartbeats 1000000 in
theorem markText_any (k : Nat) (w : World) (hk : 0 < k) (hk2 : k ≤ 1073741824) :
    Calls Tryz.prog 12 #[.int .i64 k] w fun e w' => e = .returned (.string (markV k)) ∧ Below w.heap.size w w' := by
  have HV : Hid (markV k = emM ++ markA k ⟨#[]⟩) := rfl
  generalize markV k = ans at *
  go_enter Tryz.func12, Tryz.ntmps12
  go_wp2_with fail
  go_loopw [0, 3] (fun kv ov wr => ∃ (m : Nat) (o : ByteArray), kv = .int .i64 m ∧ ov = .string o ∧ markA m o = markA k ⟨#[]⟩ ∧ m * 2 ^ o.size ≤ k ∧ m ≤ 1073741824 ∧ o.size ≤ 31 ∧ Below w.heap.size w wr) (fun kv _ _ => (intOf kv).toNat)
  case atStart => exact ⟨k, ⟨#[]⟩, rfl, rfl, rfl, by simp [ByteArray.size], hk2, by simp [ByteArray.size], Below.refl _ _⟩
  case round =>
    obtain ⟨m, o, rfl, rfl, hm, hb, hm2, ho, hbel⟩ := hrel
    have HM : Hid (markA m o = markA k ⟨#[]⟩) := hm
    have HB : Hid (m * 2 ^ o.size ≤ k) := hb
    have HL : Hid (Below w.heap.size w wr) := hbel
    clear hm hb hbel
    by_cases h0 : 0 < m
    · have hcv : (convert 41 9 (.slice (some ⟨wr.heap.size, 0, none⟩) 1 1)).run Tryz.prog (wr.alloc (.cells #[.int .u8 (48 + (m : Int) % 10)] 5)) = .ok (.string (oneM (48 + m % 10))) (wr.alloc (.cells #[.int .u8 (48 + (m : Int) % 10)] 5)) :=
        oneM_conv (by omega) (by simp)
      have ho2 : o.size ≤ 30 := by
        by_cases hx : o.size ≤ 30
        · exact hx
        · have h1 : 2 ^ 31 ≤ 2 ^ o.size := Nat.pow_le_pow_right (by omega) (by omega)
          have h2 : 1 * 2 ^ o.size ≤ m * 2 ^ o.size := Nat.mul_le_mul_right _ h0
          have := HB.out
          omega
      have HB2 : Hid (m / 10 * 2 ^ (o.size + 1) ≤ k) := by
        have h1 : m / 10 * 2 ≤ m := by omega
        have h2 := Nat.mul_le_mul_right (2 ^ o.size) h1
        have h3 := HB.out
        unfold Hid
        rw [Nat.pow_succ, Nat.mul_comm (2 ^ o.size) 2, ← Nat.mul_assoc]
        omega
      have z1 : (oneM (48 + m % 10)).size = 1 := rfl
      have n1 : ¬ 9223372036854775807 < (oneM (48 + m % 10)).size + o.size := by omega
      have HM2 : Hid (markA (m / 10) (oneM (48 + m % 10) ++ o) = markA k ⟨#[]⟩) := by unfold Hid; rw [← HM.out, markA_step h0]
      have z2 : (oneM (48 + m % 10) ++ o).size = o.size + 1 := by rw [ByteArray.size_append]; omega
      have hlt : m / 10 < m := by omega
      generalize oneM (48 + m % 10) = u at *
      go_wp2_with fail
      go_roundw
      case rel => exact ⟨m / 10, u ++ o, by go_num, rfl, HM2.out, by rw [z2]; exact HB2.out, by omega, by omega, HL.out.alloc HL.out.size _⟩
      case measure => simp [intOf]; omega
    · obtain rfl : m = 0 := by omega
      have HO : Hid (ans = ⟨#[109]⟩ ++ o) := by unfold Hid; rw [HV.out, ← HM.out, markA_zero]; rfl
      go_wp2_with fail
      go_ret
      exact ⟨ret_string HO.out.symm, HL.out⟩
end Go.Proofs.YtmmojboagplopaaGreatDoor
