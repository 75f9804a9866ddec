/- AddrRight and AddrBit: what the program's answer, and the specification's AddrBit. -/
import Derived.Test.YtkakehchiadpbalBits
namespace Go.Proofs.Ytkakehchiadpbal
open Go.RowKit Go.PlainAid
set_option linter.unusedVariables false
set_option linter.unusedSimpArgs false

/-- What AddrBit answers. -/
def addrBitV (s : ByteArray) (a : Int) : Int := if addrOk s = true ∧ 0 ≤ a ∧ a < 8 * (s.size : Int) then bitN (bt s) a.toNat else 0


theorem implAddrRight_any (s : ByteArray) (w : World) :
    Calls Try.prog 61 #[.string s] w fun e w' => e = .returned (.bool (addrOk s)) ∧ w' = w := by
  by_cases h4 : s.size = 4
  · have HV : Hid (addrOk s = true) := addrOk_yes (.inl h4)
    have h4' : (s.size : Int) = 4 := by omega
    clear h4
    go_enter Try.func61, Try.ntmps61
    go_wp2
    go_ret
    exact ⟨ret_bool HV.out.symm, rfl⟩
  · by_cases h16 : s.size = 16
    · have HV : Hid (addrOk s = true) := addrOk_yes (.inr h16)
      have h16' : (s.size : Int) = 16 := by omega
      clear h16 h4
      go_enter Try.func61, Try.ntmps61
      go_wp2
      go_ret
      exact ⟨ret_bool HV.out.symm, rfl⟩
    · have HV : Hid (addrOk s = false) := addrOk_no (by omega)
      have e1 : ((s.size : Int) == 4) = false := by simp; omega
      have e2 : ((s.size : Int) == 16) = false := by simp; omega
      go_enter Try.func61, Try.ntmps61
      go_wp2
      go_ret
      exact ⟨ret_bool HV.out.symm, rfl⟩


theorem and8_1 (n : Int) : bits .and .u8 n 1 = n % 2 := by
  have h127 : (BitVec.ofInt 8 1).toNat = 2 ^ 1 - 1 := by decide
  have key : (BitVec.ofInt 8 n &&& BitVec.ofInt 8 1).toNat = (n % ((2 ^ 8 : Nat) : Int)).toNat % 2 ^ 1 := by
    rw [BitVec.toNat_and, BitVec.toNat_ofInt, h127, Nat.and_two_pow_sub_one_eq_mod]
  show IntKind.u8.wrap ((BitVec.ofInt 8 n &&& BitVec.ofInt 8 1).toNat : Nat) = n % 2
  rw [key, IntKind.wrap_u8]
  omega

theorem bit8_of (x : Int) (m : Nat) (h0 : 0 ≤ x) (h1 : x ≤ 255) : wrap64 (bits .and .u8 (x / 2 ^ m) 1) = x / 2 ^ m % 2 := by
  rw [and8_1, IntWalk.wrap64_in _ ⟨by omega, by omega⟩]


end Go.Proofs.Ytkakehchiadpbal
