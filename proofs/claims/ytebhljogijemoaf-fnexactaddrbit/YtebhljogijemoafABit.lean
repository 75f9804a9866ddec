/- AddrRight and AddrBit: what the program's answer, and the specification's AddrBit. -/
import Derived.Test.YtebhljogijemoafBits
namespace Go.Proofs.Ytebhljogijemoaf
open Go.RowKit Go.PlainAid
set_option linter.unusedVariables false
set_option linter.unusedSimpArgs false

/-- What AddrBit answers. -/
def addrBitV (s : ByteArray) (a : Int) : Int := if addrOk s = true ∧ 0 ≤ a ∧ a < 8 * (s.size : Int) then bitN (bt s) a.toNat else 0

theorem specAddrBit_any (s : ByteArray) (a : Int) (w : World) :
    Calls Try.prog 13 #[.string s, .int .i64 a] w fun e w' => e = .returned (.int .i64 (addrBitV s a)) ∧ w' = w := by
  by_cases hok : addrOk s = true
  · have hsz : s.size ≤ 1048576 := by have := addrOk_size hok; omega
    by_cases h0 : 0 ≤ a
    · by_cases h1 : a < 8 * (s.size : Int)
      · have HV : Hid (addrBitV s a = bitN (bt s) a.toNat) := if_pos ⟨hok, h0, h1⟩
        obtain ⟨k, rfl⟩ := Int.eq_ofNat_of_zero_le h0
        have hk : k < 8 * s.size := by omega
        go_enter Try.func13, Try.ntmps13
        go_wp2_with (first | (go_at_call 11; refine (specAddrRight_any s _).mono ?_; rw [hok]; rintro e w ⟨rfl, rfl⟩) | (go_at_call 22; refine (specBits_any s _ hsz).mono ?_; rintro e w ⟨rfl, rfl⟩) | (go_at_call 23; refine (specBit_any s k _ hk hsz).mono ?_; rintro e w ⟨rfl, rfl⟩))
        go_ret
        exact ⟨ret_int HV.out.symm, rfl⟩
      · have HV : Hid (addrBitV s a = 0) := if_neg (fun h => h1 h.2.2)
        go_enter Try.func13, Try.ntmps13
        go_wp2_with (first | (go_at_call 11; refine (specAddrRight_any s _).mono ?_; rw [hok]; rintro e w ⟨rfl, rfl⟩) | (go_at_call 22; refine (specBits_any s _ hsz).mono ?_; rintro e w ⟨rfl, rfl⟩))
        go_ret
        exact ⟨ret_int HV.out.symm, rfl⟩
    · have HV : Hid (addrBitV s a = 0) := if_neg (fun h => h0 h.2.1)
      go_enter Try.func13, Try.ntmps13
      go_wp2_with (go_at_call 11; refine (specAddrRight_any s _).mono ?_; rw [hok]; rintro e w ⟨rfl, rfl⟩)
      go_ret
      exact ⟨ret_int HV.out.symm, rfl⟩
  · have hok' : addrOk s = false := by simpa using hok
    have HV : Hid (addrBitV s a = 0) := if_neg (fun h => hok h.1)
    go_enter Try.func13, Try.ntmps13
    go_wp2_with (go_at_call 11; refine (specAddrRight_any s _).mono ?_; rw [hok']; rintro e w ⟨rfl, rfl⟩)
    go_ret
    exact ⟨ret_int HV.out.symm, rfl⟩

theorem implAddrRight_any (s : ByteArray) (w : World) :
    Calls Try.prog 12 #[.string s] w fun e w' => e = .returned (.bool (addrOk s)) ∧ w' = w := by
  by_cases h4 : s.size = 4
  · have HV : Hid (addrOk s = true) := addrOk_yes (.inl h4)
    have h4' : (s.size : Int) = 4 := by omega
    clear h4
    go_enter Try.func12, Try.ntmps12
    go_wp2
    go_ret
    exact ⟨ret_bool HV.out.symm, rfl⟩
  · by_cases h16 : s.size = 16
    · have HV : Hid (addrOk s = true) := addrOk_yes (.inr h16)
      have h16' : (s.size : Int) = 16 := by omega
      clear h16 h4
      go_enter Try.func12, Try.ntmps12
      go_wp2
      go_ret
      exact ⟨ret_bool HV.out.symm, rfl⟩
    · have HV : Hid (addrOk s = false) := addrOk_no (by omega)
      have e1 : ((s.size : Int) == 4) = false := by simp; omega
      have e2 : ((s.size : Int) == 16) = false := by simp; omega
      go_enter Try.func12, Try.ntmps12
      go_wp2
      go_ret
      exact ⟨ret_bool HV.out.symm, rfl⟩

theorem implBits_any (s : ByteArray) (w : World) (hs : s.size ≤ 1048576) :
    Calls Try.prog 24 #[.string s] w fun e w' => e = .returned (.int .i64 (8 * (s.size : Int))) ∧ w' = w := by
  go_enter Try.func24, Try.ntmps24
  go_wp2
  go_ret
  exact ⟨rfl, rfl⟩

theorem and8_1 (n : Int) : bits .and .u8 n 1 = n % 2 := by
  have h127 : (BitVec.ofInt 8 1).toNat = 2 ^ 1 - 1 := by decide
  have key : (BitVec.ofInt 8 n &&& BitVec.ofInt 8 1).toNat = (n % ((2 ^ 8 : Nat) : Int)).toNat % 2 ^ 1 := by
    rw [BitVec.toNat_and, BitVec.toNat_ofInt, h127, Nat.and_two_pow_sub_one_eq_mod]
  show IntKind.u8.wrap ((BitVec.ofInt 8 n &&& BitVec.ofInt 8 1).toNat : Nat) = n % 2
  rw [key, IntKind.wrap_u8]
  omega

theorem bit8_of (x : Int) (m : Nat) (h0 : 0 ≤ x) (h1 : x ≤ 255) : wrap64 (bits .and .u8 (x / 2 ^ m) 1) = x / 2 ^ m % 2 := by
  rw [and8_1, IntWalk.wrap64_in _ ⟨by omega, by omega⟩]

theorem implAddrBit_any (s : ByteArray) (a : Int) (w : World) :
    Calls Try.prog 14 #[.string s, .int .i64 a] w fun e w' => e = .returned (.int .i64 (addrBitV s a)) ∧ w' = w := by
  by_cases hok : addrOk s = true
  · have hsz : s.size ≤ 1048576 := by have := addrOk_size hok; omega
    by_cases h0 : 0 ≤ a
    · by_cases h1 : a < 8 * (s.size : Int)
      · have HV : Hid (addrBitV s a = bitN (bt s) a.toNat) := if_pos ⟨hok, h0, h1⟩
        obtain ⟨k, rfl⟩ := Int.eq_ofNat_of_zero_le h0
        have hk : k < 8 * s.size := by omega
        go_enter Try.func14, Try.ntmps14
        have hb := get_bt s
        have b1 := bt_isByte s (k / 8)
        have HB : Hid _ := bit8_of (bt s (k / 8)) (7 - k % 8) b1.1 b1.2
        go_wp2_with (first | (go_at_call 12; refine (implAddrRight_any s _).mono ?_; rw [hok]; rintro e w ⟨rfl, rfl⟩) | (go_at_call 24; refine (implBits_any s _ hsz).mono ?_; rintro e w ⟨rfl, rfl⟩))
        go_ret
        exact ⟨ret_int (by rw [HV.out]; exact HB.out), rfl⟩
      · have HV : Hid (addrBitV s a = 0) := if_neg (fun h => h1 h.2.2)
        go_enter Try.func14, Try.ntmps14
        go_wp2_with (first | (go_at_call 12; refine (implAddrRight_any s _).mono ?_; rw [hok]; rintro e w ⟨rfl, rfl⟩) | (go_at_call 24; refine (implBits_any s _ hsz).mono ?_; rintro e w ⟨rfl, rfl⟩))
        go_ret
        exact ⟨ret_int HV.out.symm, rfl⟩
    · have HV : Hid (addrBitV s a = 0) := if_neg (fun h => h0 h.2.1)
      go_enter Try.func14, Try.ntmps14
      go_wp2_with (go_at_call 12; refine (implAddrRight_any s _).mono ?_; rw [hok]; rintro e w ⟨rfl, rfl⟩)
      go_ret
      exact ⟨ret_int HV.out.symm, rfl⟩
  · have hok' : addrOk s = false := by simpa using hok
    have HV : Hid (addrBitV s a = 0) := if_neg (fun h => hok h.1)
    go_enter Try.func14, Try.ntmps14
    go_wp2_with (go_at_call 12; refine (implAddrRight_any s _).mono ?_; rw [hok']; rintro e w ⟨rfl, rfl⟩)
    go_ret
    exact ⟨ret_int HV.out.symm, rfl⟩

end Go.Proofs.Ytebhljogijemoaf
