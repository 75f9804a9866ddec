/- Texts put together: digits and groups: what the specification's l01Dec and l02Group answer. -/
import Derived.Test.YtmmojboagplopaaGreatDoorWords
import Derived.Laws.IdiomStrings
import Derived.Deep.DeepCutAuto
namespace Go.Proofs.YtmmojboagplopaaGreatDoor
open Go.RowKit Go.PlainAid
set_option linter.unusedVariables false
set_option linter.unusedSimpArgs false

/-- The text of a list of bytes. -/
def ofL (l : List UInt8) : ByteArray := ⟨l.toArray⟩
theorem ofL_append (a b : List UInt8) : ofL a ++ ofL b = ofL (a ++ b) := by unfold ofL; rw [ByteArray.mk_append_mk]
theorem ofL_size (l : List UInt8) : (ofL l).size = l.length := by simp [ofL, ByteArray.size]
theorem ofL_nil : ofL [] = ⟨#[]⟩ := rfl
theorem ofL_inj {a b : List UInt8} (h : ofL a = ofL b) : a = b := by
  have := congrArg (fun x => x.data.toList) h; simpa [ofL] using this

/-- One byte, made a text. -/
theorem one_conv {w : World} {b : Nat} {x : Int} (h0 : 0 ≤ x) (h1 : x ≤ 255) (hc : w.cell? ⟨b, 0, none⟩ = some (.int .u8 x)) :
    (convert 41 9 (.slice (some ⟨b, 0, none⟩) 1 1)).run Tryz.prog w = .ok (.string (ofL [UInt8.ofNat x.toNat])) w :=
  run_convert_bytes_back (P := Tryz.prog) w 41 9 5 ⟨b, 0, none⟩ 1 [UInt8.ofNat x.toNat] Tryz.underlying41 Tryz.underlying5 Tryz.underlying9 (by
    intro j hj
    obtain rfl : j = 0 := (by simp at hj; omega)
    simp only [Addr.add, if_true, List.getElem_cons_zero, UInt8.toNat_ofNat']
    rw [hc]; congr 2; omega)

/-- The digits of a number, the highest first; none of 0. -/
def dgF : Nat → Nat → List UInt8
  | 0, _ => []
  | f + 1, n => if n = 0 then [] else dgF f (n / 10) ++ [UInt8.ofNat (48 + n % 10)]

/-- A number in digits. -/
def decL (n : Nat) : List UInt8 := if n = 0 then [48] else dgF 20 n

theorem dgF_step {f n : Nat} (h : n ≠ 0) : dgF (f + 1) n = dgF f (n / 10) ++ [UInt8.ofNat (48 + n % 10)] := by
  show (if n = 0 then [] else _) = _; rw [if_neg h]
theorem dgF_zero (f : Nat) : dgF f 0 = [] := by cases f <;> simp [dgF]
theorem dgF_length : ∀ (f n : Nat), (dgF f n).length ≤ f
  | 0, _ => by simp [dgF]
  | f + 1, n => by
    unfold dgF; split
    · simp
    · have := dgF_length f (n / 10); simp; omega


/-- The digit of a number below 16. -/
def hexC (d : Nat) : UInt8 := if d < 10 then UInt8.ofNat (48 + d) else UInt8.ofNat (87 + d)

theorem hex_get : ∀ (n : Nat) (h : n < (ByteArray.mk #[48, 49, 50, 51, 52, 53, 54, 55, 56, 57, 97, 98, 99, 100, 101, 102]).size), (((ByteArray.mk #[48, 49, 50, 51, 52, 53, 54, 55, 56, 57, 97, 98, 99, 100, 101, 102])[n]'h).toNat : Int) = ((hexC n).toNat : Int)
  | 0, _ => by rfl
  | 1, _ => by rfl
  | 2, _ => by rfl
  | 3, _ => by rfl
  | 4, _ => by rfl
  | 5, _ => by rfl
  | 6, _ => by rfl
  | 7, _ => by rfl
  | 8, _ => by rfl
  | 9, _ => by rfl
  | 10, _ => by rfl
  | 11, _ => by rfl
  | 12, _ => by rfl
  | 13, _ => by rfl
  | 14, _ => by rfl
  | 15, _ => by rfl
  | n + 16, h => absurd h (by simp [ByteArray.size])

theorem ofL_toList (l : List UInt8) : (ofL l).toList = l := ByteArray.toList_mk l

/-- A group's digits so far, and one more. -/
def gst (t : List UInt8) (d : Nat) (last : Bool) : List UInt8 := if d ≠ 0 ∨ t ≠ [] ∨ last = true then t ++ [hexC d] else t
/-- The first j digits of a group, those in front that are 0 left out, but the last. -/
def grpN (n : Nat) : Nat → List UInt8
  | 0 => []
  | j + 1 => gst (grpN n j) (n / 16 ^ (3 - j) % 16) (j == 3)
def groupL (n : Nat) : List UInt8 := grpN n 4

theorem grpN_length (n : Nat) : ∀ j, (grpN n j).length ≤ j
  | 0 => by simp [grpN]
  | j + 1 => by
    have := grpN_length n j
    show (gst _ _ _).length ≤ _
    unfold gst; split
    · simp; omega
    · omega

theorem and_15 (n : Int) : bits .and .i64 n 15 = n % 16 := by
  have h127 : (BitVec.ofInt 64 15).toNat = 2 ^ 4 - 1 := by decide
  have key : (BitVec.ofInt 64 n &&& BitVec.ofInt 64 15).toNat = (n % ((2 ^ 64 : Nat) : Int)).toNat % 2 ^ 4 := by
    rw [BitVec.toNat_and, BitVec.toNat_ofInt, h127, Nat.and_two_pow_sub_one_eq_mod]
  show IntKind.i64.wrap ((BitVec.ofInt 64 n &&& BitVec.ofInt 64 15).toNat : Nat) = n % 16
  rw [key, IntKind.wrap_i64]
  omega


end Go.Proofs.YtmmojboagplopaaGreatDoor
