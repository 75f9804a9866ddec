/- Addresses and their bits: what the specification's AddrRight, l02Bits and l02Bit answer. -/
import Derived.Test.YtmmojboagplopaaGreatDoorWords
namespace Go.Proofs.YtmmojboagplopaaGreatDoor
open Go.RowKit Go.PlainAid
set_option linter.unusedVariables false
set_option linter.unusedSimpArgs false

/-- Is a text an address? -/
def addrOk (s : ByteArray) : Bool := s.size == 4 || s.size == 16

theorem addrOk_size {s : ByteArray} (h : addrOk s = true) : s.size = 4 ∨ s.size = 16 := by simpa [addrOk] using h
theorem addrOk_yes {s : ByteArray} (h : s.size = 4 ∨ s.size = 16) : addrOk s = true := by simpa [addrOk] using h
theorem addrOk_no {s : ByteArray} (h : ¬ (s.size = 4 ∨ s.size = 16)) : addrOk s = false := by
  rw [Bool.eq_false_iff]; intro hh; exact h (addrOk_size hh)



theorem and_1 (n : Int) : bits .and .i64 n 1 = n % 2 := by
  have h127 : (BitVec.ofInt 64 1).toNat = 2 ^ 1 - 1 := by decide
  have key : (BitVec.ofInt 64 n &&& BitVec.ofInt 64 1).toNat = (n % ((2 ^ 64 : Nat) : Int)).toNat % 2 ^ 1 := by
    rw [BitVec.toNat_and, BitVec.toNat_ofInt, h127, Nat.and_two_pow_sub_one_eq_mod]
  show IntKind.i64.wrap ((BitVec.ofInt 64 n &&& BitVec.ofInt 64 1).toNat : Nat) = n % 2
  rw [key, IntKind.wrap_i64]
  omega

theorem bit_of (x : Int) (m : Nat) (h0 : 0 ≤ x) (h1 : x ≤ 255) : bits .and .i64 (wrap64 (x / 2 ^ m)) 1 = x / 2 ^ m % 2 := by
  have a0 : 0 ≤ x / 2 ^ m := Int.ediv_nonneg h0 (Int.le_of_lt (Int.pow_pos (by decide)))
  have a1 : x / 2 ^ m ≤ x := Int.ediv_le_self _ h0
  rw [IntWalk.wrap64_in _ ⟨by omega, by omega⟩, and_1]

/-- The bit of the number at, the highest of the first byte first. -/
def bitN (f : Nat → Int) (k : Nat) : Int := f (k / 8) / 2 ^ (7 - k % 8) % 2

theorem bitN_range (f : Nat → Int) (k : Nat) : 0 ≤ bitN f k ∧ bitN f k ≤ 1 := by unfold bitN; omega


end Go.Proofs.YtmmojboagplopaaGreatDoor
