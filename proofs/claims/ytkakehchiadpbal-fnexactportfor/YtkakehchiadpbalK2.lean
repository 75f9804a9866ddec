/- Math, Words, Sums, Two, in one text. -/
import Derived.WalkKit
import Derived.PlainAid
import Derived.Laws.BitsLemmas
import Derived.Laws.Bits64
import Derived.Test.YtkakehchiadpbalChecked
import Derived.Test.YtkakehchiadpbalK1
import Derived.WalkLawsBesides
import Derived.RegionTactic
import Derived.ChangeAlike
import Derived.Laws.IdiomStrings

/- Plain mathematics of chapter 2: words and one's complement sums over integers and bytes; nothing of the program. -/
namespace Go.Proofs.Ytkakehchiadpbal
open Go.PlainAid

/-- Two words, added so that what leaves 16 bits is added at the low end again. -/
def add1 (a b : Int) : Int := if 65535 < a + b then a + b - 65535 else a + b

theorem add1_range {a b : Int} (ha : 0 ≤ a) (ha' : a ≤ 65535) (hb : 0 ≤ b) (hb' : b ≤ 65535) : 0 ≤ add1 a b ∧ add1 a b ≤ 65535 := by
  unfold add1; split <;> omega

theorem wraps_i64 (n : Int) (h0 : 0 ≤ n) (h1 : n < 2 ^ 63) : IntKind.i64.wrap n = n := by rw [IntKind.wrap_i64]; omega

theorem join_word (a b : Int) (ha : 0 ≤ a) (ha' : a ≤ 255) (hb : 0 ≤ b) (hb' : b ≤ 255) : bits .or .i64 (a * 256) b = a * 256 + b :=
  bits_join .i64 63 (by decide) wraps_i64 8 (a * 256) b (by omega) (by omega) (by omega) hb (by omega) (by omega)

theorem and_65535 (n : Int) : bits .and .i64 n 65535 = n % 65536 := by
  have h127 : (BitVec.ofInt 64 65535).toNat = 2 ^ 16 - 1 := by decide
  have key : (BitVec.ofInt 64 n &&& BitVec.ofInt 64 65535).toNat = (n % ((2 ^ 64 : Nat) : Int)).toNat % 2 ^ 16 := by
    rw [BitVec.toNat_and, BitVec.toNat_ofInt, h127, Nat.and_two_pow_sub_one_eq_mod]
  show IntKind.i64.wrap ((BitVec.ofInt 64 n &&& BitVec.ofInt 64 65535).toNat : Nat) = n % 65536
  rw [key, IntKind.wrap_i64]
  omega

/-- The turn of a sum of two words back into 16 bits. -/
theorem fold_add (a b : Int) (ha : 0 ≤ a) (ha' : a ≤ 65535) (hb : 0 ≤ b) (hb' : b ≤ 65535) : (a + b) % 65536 + (a + b) / 65536 = add1 a b := by
  unfold add1; split <;> omega

/-- The word at a place of a list of bytes: a byte that is not there is 0. -/
def wordN (f : Nat → Int) (i : Nat) : Int := f i * 256 + f (i + 1)

/-- The sum of the first k words. -/
def sumN (f : Nat → Int) : Nat → Int
  | 0 => 0
  | k + 1 => add1 (sumN f k) (wordN f (2 * k))

def isByte (f : Nat → Int) : Prop := ∀ i, 0 ≤ f i ∧ f i ≤ 255

theorem wordN_range {f : Nat → Int} (h : isByte f) (i : Nat) : 0 ≤ wordN f i ∧ wordN f i ≤ 65535 := by
  have h1 := h i; have h2 := h (i + 1); unfold wordN; omega

theorem sumN_range {f : Nat → Int} (h : isByte f) (k : Nat) : 0 ≤ sumN f k ∧ sumN f k ≤ 65535 := by
  induction k with
  | zero => simp [sumN]
  | succ k ih => have := wordN_range h (2 * k); exact add1_range ih.1 ih.2 this.1 this.2

theorem bt_isByte (s : ByteArray) : isByte (bt s) := fun i => ⟨bt_nonneg s i, bt_le s i⟩

end Go.Proofs.Ytkakehchiadpbal

/- What the words of chapter 2 answer, in the program and in its specification: one contract a function, over strings. -/
namespace Go.Proofs.Ytkakehchiadpbal
open Go.RowKit Go.PlainAid




/-- A text of more than 20000 bytes is too long. -/
theorem tooLong_any (s : ByteArray) (w : World) :
    Calls Try.prog 59 #[.string s] w fun e w' => e = .returned (.bool (decide ((20000 : Int) < s.size))) ∧ w' = w := by
  go_enter Try.func59, Try.ntmps59
  go_wp2
  go_ret
  exact ⟨rfl, rfl⟩

/-- The word from place k of a string on whose first byte is there: a byte 0 for the lower one that it lacks. -/
theorem wordFromS_any (s : ByteArray) (k : Nat) (w : World) (hk : k < s.size) (hs : s.size ≤ maxLen) :
    Calls Try.prog 99 #[.string s, .int .i64 k] w fun e w' => e = .returned (.int .i64 (wordN (bt s) k)) ∧ w' = w := by
  unfold maxLen at hs
  have hb := get_bt s
  have b1 := bt_isByte s k
  have b2 := bt_isByte s (k + 1)
  have hj := join_word (bt s k) (bt s (k + 1)) b1.1 b1.2 b2.1 b2.2
  by_cases h : k + 1 < s.size
  · go_enter Try.func99, Try.ntmps99
    go_wp2
    go_ret
    exact ⟨ret_int rfl, rfl⟩
  · have h2 : ¬ (k : Int) + 1 < s.size := by omega
    have HE : Hid (bt s (k + 1) = 0) := bt_end s (by omega)
    go_enter Try.func99, Try.ntmps99
    go_wp2
    go_ret
    exact ⟨ret_int (by unfold wordN; rw [HE.out]; omega), rfl⟩

/-- What Word answers. -/
def wordV (s : ByteArray) (a : Int) : Int := if s.size ≤ 20000 ∧ 0 ≤ a ∧ a + 1 < s.size then wordN (bt s) a.toNat else 0

theorem wordV_yes {s : ByteArray} {k : Nat} (h : s.size ≤ 20000) (hk : k + 1 < s.size) : wordV s k = wordN (bt s) k := by
  unfold wordV; rw [if_pos ⟨h, by omega, by omega⟩]; simp
theorem wordV_no {s : ByteArray} {a : Int} (h : ¬ (s.size ≤ 20000 ∧ 0 ≤ a ∧ a + 1 < s.size)) : wordV s a = 0 := by
  unfold wordV; rw [if_neg h]




end Go.Proofs.Ytkakehchiadpbal

/- What the sums of chapter 2 answer over a string, in the program and in its specification: one contract a function. -/
namespace Go.Proofs.Ytkakehchiadpbal
open Go.RowKit Go.PlainAid

/-- Two words, added in the specification. -/
theorem specAdd_any (a b : Int) (w : World) (ha : 0 ≤ a) (ha' : a ≤ 65535) (hb : 0 ≤ b) (hb' : b ≤ 65535) :
    Calls Try.prog 97 #[.int .i64 a, .int .i64 b] w fun e w' => e = .returned (.int .i64 (add1 a b)) ∧ w' = w := by
  by_cases h : 65535 < a + b
  · have HV : Hid (add1 a b = a + b - 65535) := by unfold Hid add1; rw [if_pos h]
    go_enter Try.func97, Try.ntmps97
    go_wp2
    go_ret
    exact ⟨ret_int HV.out.symm, rfl⟩
  · have HV : Hid (add1 a b = a + b) := by unfold Hid add1; rw [if_neg h]
    go_enter Try.func97, Try.ntmps97
    go_wp2
    go_ret
    exact ⟨ret_int HV.out.symm, rfl⟩

/-- The sum of a text: its words, added so. -/
def sumV (s : ByteArray) : Int := sumN (bt s) ((s.size + 1) / 2)

theorem sumV_range (s : ByteArray) : 0 ≤ sumV s ∧ sumV s ≤ 65535 := sumN_range (bt_isByte s) _

set_option maxHeartbeats 800000 in
theorem specSum1_any (s : ByteArray) (w : World) (hs : s.size ≤ 1048578) :
    Calls Try.prog 82 #[.string s] w fun e w' => e = .returned (.int .i64 (sumV s)) ∧ w' = w := by
  have hb := get_bt s
  go_enter Try.func82, Try.ntmps82
  go_wp2
  go_loop [3, 4] (fun n i => ∃ k : Nat, 2 * k ≤ s.size + 1 ∧ i = .int .i64 (2 * (k : Int)) ∧ n = .int .i64 (sumN (bt s) k)) (fun _ i => s.size + 2 - (intOf i).toNat)
  case atStart => exact ⟨0, Nat.zero_le _, rfl, rfl⟩
  case round =>
    obtain ⟨k, hk, rfl, rfl⟩ := hrel
    have hr := sumN_range (bt_isByte s) k
    have hq := wordN_range (bt_isByte s) (2 * k)
    have HW : Hid (wordN (bt s) (2 * k) = bt s (2 * k) * 256 + bt s (2 * k + 1)) := rfl
    have HN : Hid (sumN (bt s) (k + 1) = add1 (sumN (bt s) k) (wordN (bt s) (2 * k))) := rfl
    have b1 := bt_isByte s (2 * k)
    have b2 := bt_isByte s (2 * k + 1)
    have hj := join_word (bt s (2 * k)) (bt s (2 * k + 1)) b1.1 b1.2 b2.1 b2.2
    by_cases hlt : 2 * k < s.size
    · by_cases h2 : 2 * k + 1 < s.size
      · go_wp2_with (go_at_call 97; refine (specAdd_any _ _ _ hr.1 hr.2 (by omega) (by omega)).mono ?_; rintro e w' ⟨rfl, rfl⟩)
        go_round
        case rel => exact ⟨k + 1, by omega, by go_num, by rw [HN.out, HW.out]⟩
        case measure => simp [intOf]; omega
      · have HE : Hid (bt s (2 * k + 1) = 0) := bt_end s (by omega)
        go_wp2_with (go_at_call 97; refine (specAdd_any _ _ _ hr.1 hr.2 (by omega) (by omega)).mono ?_; rintro e w' ⟨rfl, rfl⟩)
        go_round
        case rel => exact ⟨k + 1, by omega, by go_num, by rw [HN.out, HW.out, HE.out, Int.add_zero]⟩
        case measure => simp [intOf]; omega
    · go_wp2
      go_ret
      exact ⟨ret_int (by unfold sumV; rw [show (s.size + 1) / 2 = k by omega]), rfl⟩

set_option maxHeartbeats 800000 in
theorem sumOfS_any (s : ByteArray) (w : World) (hs : s.size ≤ 1048578) :
    Calls Try.prog 84 #[.string s] w fun e w' => e = .returned (.int .i64 (sumV s)) ∧ w' = w := by
  have hs' : s.size ≤ maxLen := by unfold maxLen; omega
  go_enter Try.func84, Try.ntmps84
  go_wp2
  go_loop [3, 9] (fun n i => ∃ k : Nat, k ≤ (s.size + 1) / 2 ∧ i = .int .i64 k ∧ n = .int .i64 (sumN (bt s) k)) (fun _ i => (s.size + 1) / 2 - (intOf i).toNat)
  case atStart => exact ⟨0, Nat.zero_le _, rfl, rfl⟩
  case round =>
    obtain ⟨k, hk, rfl, rfl⟩ := hrel
    have hr := sumN_range (bt_isByte s) k
    have hq := wordN_range (bt_isByte s) (2 * k)
    have HN : Hid (sumN (bt s) (k + 1) = add1 (sumN (bt s) k) (wordN (bt s) (2 * k))) := rfl
    have HF : Hid _ := fold_add (sumN (bt s) k) (wordN (bt s) (2 * k)) hr.1 hr.2 hq.1 hq.2
    have ha := and_65535 (sumN (bt s) k + wordN (bt s) (2 * k))
    by_cases hlt : k < (s.size + 1) / 2
    · have h2 : 2 * k < s.size := by omega
      go_wp2_with (go_at_call 99; refine (wordFromS_any s (2 * k) _ h2 hs').mono ?_; rintro e w' ⟨rfl, rfl⟩)
      go_round
      case rel => exact ⟨k + 1, by omega, by go_num, by rw [HN.out, ← HF.out]⟩
      case measure => simp [intOf]; omega
    · go_wp2
      go_ret
      exact ⟨ret_int (by unfold sumV; rw [show (s.size + 1) / 2 = k by omega]), rfl⟩

/-- What Sum answers: 0 of a text that is too long. -/
def sumA (s : ByteArray) : Int := if s.size ≤ 20000 then sumV s else 0

theorem sumA_range (s : ByteArray) : 0 ≤ sumA s ∧ sumA s ≤ 65535 := by
  unfold sumA; split
  · exact sumV_range s
  · omega



end Go.Proofs.Ytkakehchiadpbal

/- What the two bytes of a word are, in the program and in its specification, and what lies behind layWords. -/
namespace Go.Proofs.Ytkakehchiadpbal
open Go.RowKit Go.PlainAid

/-- The two bytes of a word. -/
def twoL (n : Int) : List UInt8 := [UInt8.ofNat (n / 256).toNat, UInt8.ofNat (n % 256).toNat]
/-- The text of the two bytes. -/
def twoV (n : Int) : ByteArray := ⟨(twoL n).toArray⟩

theorem u8_ofNat (x : Int) (h0 : 0 ≤ x) (h1 : x ≤ 255) : ((UInt8.ofNat x.toNat).toNat : Int) = x := by
  rw [UInt8.toNat_ofNat']; omega

theorem two_cells {w : World} {b : Nat} {n : Int} (h0 : 0 ≤ n) (h1 : n ≤ 65535)
    (hc0 : w.cell? ⟨b, 0, none⟩ = some (.int .u8 (n / 256))) (hc1 : w.cell? ⟨b, 1, none⟩ = some (.int .u8 (n % 256))) :
    ∀ j (hj : j < (twoL n).length), w.cell? (Addr.add ⟨b, 0, none⟩ j) = some (.int .u8 ((twoL n)[j].toNat : Int)) := by
  intro j hj
  match j, hj with
  | 0, _ => simp only [Addr.add, Nat.add_zero, twoL, List.getElem_cons_zero]; rw [u8_ofNat _ (by omega) (by omega)]; exact hc0
  | 1, _ => simp only [Addr.add, Nat.zero_add, twoL, List.getElem_cons_succ, List.getElem_cons_zero]; rw [u8_ofNat _ (by omega) (by omega)]; exact hc1

theorem two_conv {w : World} {b cap : Nat} {n : Int} (h0 : 0 ≤ n) (h1 : n ≤ 65535)
    (hc0 : w.cell? ⟨b, 0, none⟩ = some (.int .u8 (n / 256))) (hc1 : w.cell? ⟨b, 1, none⟩ = some (.int .u8 (n % 256))) :
    (convert 128 9 (.slice (some ⟨b, 0, none⟩) 2 cap)).run Try.prog w = .ok (.string (twoV n)) w :=
  run_convert_bytes_back (P := Try.prog) w 128 9 5 ⟨b, 0, none⟩ cap (twoL n) Try.underlying128 Try.underlying5 Try.underlying9 (two_cells h0 h1 hc0 hc1)


/-- Is a number a word? -/
def isW (n : Int) : Bool := decide (0 ≤ n) && decide (n ≤ 65535)

theorem isW_yes {n : Int} (h0 : 0 ≤ n) (h1 : n ≤ 65535) : isW n = true := by simp [isW, h0, h1]
theorem isW_no {n : Int} (h : ¬ (0 ≤ n ∧ n ≤ 65535)) : isW n = false := by
  rw [Bool.eq_false_iff]; intro hh; simp [isW] at hh; exact h hh

theorem specWordIs_any (n : Int) (w : World) :
    Calls Try.prog 57 #[.int .i64 n] w fun e w' => e = .returned (.bool (isW n)) ∧ w' = w := by
  by_cases h0 : 0 ≤ n
  · by_cases h1 : n ≤ 65535
    · have HV : Hid (isW n = true) := isW_yes h0 h1
      go_enter Try.func57, Try.ntmps57
      go_wp2
      go_ret
      exact ⟨ret_bool HV.out.symm, rfl⟩
    · have HV : Hid (isW n = false) := isW_no (fun h => h1 h.2)
      go_enter Try.func57, Try.ntmps57
      go_wp2
      go_ret
      exact ⟨ret_bool HV.out.symm, rfl⟩
  · have HV : Hid (isW n = false) := isW_no (fun h => h0 h.1)
    go_enter Try.func57, Try.ntmps57
    go_wp2
    go_ret
    exact ⟨ret_bool HV.out.symm, rfl⟩

theorem implWordIs_any (n : Int) (w : World) :
    Calls Try.prog 62 #[.int .i64 n] w fun e w' => e = .returned (.bool (isW n)) ∧ w' = w := by
  by_cases h0 : 0 ≤ n
  · by_cases h1 : n ≤ 65535
    · have HV : Hid (isW n = true) := isW_yes h0 h1
      go_enter Try.func62, Try.ntmps62
      go_wp2
      go_ret
      exact ⟨ret_bool HV.out.symm, rfl⟩
    · have HV : Hid (isW n = false) := isW_no (fun h => h1 h.2)
      go_enter Try.func62, Try.ntmps62
      go_wp2
      go_ret
      exact ⟨ret_bool HV.out.symm, rfl⟩
  · have HV : Hid (isW n = false) := isW_no (fun h => h0 h.1)
    go_enter Try.func62, Try.ntmps62
    go_wp2
    go_ret
    exact ⟨ret_bool HV.out.symm, rfl⟩

/-- The bytes of some words, as numbers. -/
def layL : List Int → List Int
  | [] => []
  | n :: r => n / 256 :: n % 256 :: layL r

theorem layL_length (ws : List Int) : (layL ws).length = 2 * ws.length := by
  induction ws with
  | nil => rfl
  | cons n r ih => simp [layL, ih]; omega

theorem layL_append (a : List Int) (n : Int) : layL (a ++ [n]) = layL a ++ [n / 256, n % 256] := by
  induction a with
  | nil => rfl
  | cons m r ih => simp [layL, ih]

theorem lay_step {ws : List Int} {k : Nat} {n : Int} {w2 : World} {B e : Nat} {v : Value} (hn : n = ws.getD k 0) (hk : k < ws.length)
    (h : w2.ownsRow B e 1 v (2 * k + 2) ((layL (ws.take k)).map (Value.int .u8) ++ [Value.int .u8 (n / 256), Value.int .u8 (n % 256)])) :
    w2.ownsRow B e 1 v (2 * (k + 1)) ((layL (ws.take (k + 1))).map (Value.int .u8)) := by
  have e1 : ws.take (k + 1) = ws.take k ++ [n] := by
    rw [List.take_succ_eq_append_getElem hk, hn]; simp [List.getD, hk]
  rw [e1, layL_append, List.map_append]
  exact h


end Go.Proofs.Ytkakehchiadpbal
