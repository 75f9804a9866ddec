/- Math, Base, Words, Sums, Two, Text, Lay, Add, SumMath, Pkt, in one text. -/
import Derived.WalkKit
import Derived.PlainAid
import Derived.Laws.BitsLemmas
import Derived.Laws.Bits64
import Derived.Deep.QuietTactic
import Derived.Test.YtllagodlgipcpaaChecked
import Derived.WalkLawsBesides
import Derived.RegionTactic
import Derived.ChangeAlike
import Derived.Laws.IdiomStrings
import Derived.Deep.DeepCutAuto

/- Plain mathematics of chapter 2: words and one's complement sums over integers and bytes; nothing of the program. -/
namespace Go.Proofs.Ytllagodlgipcpaa
open Go.PlainAid

/-- Two words, added so that what leaves 16 bits is added at the low end again. -/
def add1 (a b : Int) : Int := if 65535 < a + b then a + b - 65535 else a + b

theorem add1_range {a b : Int} (ha : 0 ≤ a) (ha' : a ≤ 65535) (hb : 0 ≤ b) (hb' : b ≤ 65535) : 0 ≤ add1 a b ∧ add1 a b ≤ 65535 := by
 unfold add1; split <;> omega

theorem wraps_i64 (n : Int) (h0 : 0 ≤ n) (h1 : n < 2 ^ 63) : IntKind.i64.wrap n = n := by rw [IntKind.wrap_i64]; omega

theorem join_word (a b : Int) (ha : 0 ≤ a) (ha' : a ≤ 255) (hb : 0 ≤ b) (hb' : b ≤ 255) : bits .or .i64 (a * 256) b = a * 256 + b :=
 bits_join .i64 63 (by decide) wraps_i64 8 (a * 256) b (by omega) (by omega) (by omega) hb (by omega) (by omega)

/-- The word at a place of a list of bytes: a byte that is not there is 0. -/
def wordN (f : Nat → Int) (i : Nat) : Int := f i * 256 + f (i + 1)

/-- The sum of the first k words. -/
def sumN (f : Nat → Int) : Nat → Int
 | 0 => 0
 | k + 1 => add1 (sumN f k) (wordN f (2 * k))

def isByte (f : Nat → Int) : Prop := ∀ i, 0 ≤ f i ∧ f i ≤ 255

theorem wordN_range {f : Nat → Int} (h : isByte f) (i : Nat) : 0 ≤ wordN f i ∧ wordN f i ≤ 65535 := by
 have h1 := h i; have h2 := h (i + 1); unfold wordN; omega

theorem sumN_range {f : Nat → Int} (h : isByte f) (k : Nat) : 0 ≤ sumN f k ∧ sumN f k ≤ 65535 := by
 induction k with
 | zero => simp [sumN]
 | succ k ih => have := wordN_range h (2 * k); exact add1_range ih.1 ih.2 this.1 this.2

theorem bt_isByte (s : ByteArray) : isByte (bt s) := fun i => ⟨bt_nonneg s i, bt_le s i⟩

end Go.Proofs.Ytllagodlgipcpaa

/- Small lemmas on endings and worlds; nothing of the program. -/
namespace Go.Proofs.Ytllagodlgipcpaa
open Go.RowKit

theorem ret_int {k : IntKind} {a b : Int} (h : a = b) : Ending.returned (.int k a) = .returned (.int k b) := by rw [h]

theorem ret_bool {a b : Bool} (h : a = b) : Ending.returned (.bool a) = .returned (.bool b) := by rw [h]

theorem grown_trans {w w1 w2 : World} {r : Option Nat} (h : w.grownBy w1 r) (h2 : w1.grownBy w2 r) : w.grownBy w2 r :=
 ⟨h2.os.trans h.os, h2.tape.trans h.tape, h2.output.trans h.output, Nat.le_trans h.size h2.size, fun k hk hne => (h2.block k (Nat.lt_of_lt_of_le hk h.size) hne).trans (h.block k hk hne)⟩

theorem grown_drew {w w1 : World} {r : Option Nat} (h : w.grownBy w1 r) : w.grownBy w1.drew r := ⟨h.os, h.tape, h.output, h.size, h.block⟩

theorem grown_set {w w1 : World} {B o : Nat} (h : w.grownBy w1 (some B)) (v : Value) : w.grownBy (w1.setCell ⟨B, o, none⟩ v) (some B) :=
 ⟨h.os, h.tape, h.output, by rw [World.size_setCell]; exact h.size, fun k hk hne => (Below.heap_setCell w1 _ v k (fun e => hne (by rw [e]))).trans (h.block k hk hne)⟩

theorem grown_of_below {w w1 : World} {r : Option Nat} (h : Below w.heap.size w w1) : w.grownBy w1 r := ⟨h.os, h.tape, h.output, h.size, fun k hk _ => h.block k hk⟩

theorem own_ne {w : World} {base e n B : Nat} {v : Value} {xs : List Value} (h : w.ownsRow base e 1 v n xs) (hB : B < base) : v.ownBlock = none ∨ v.ownBlock ≠ some B := by
 by_cases hv : v.ownBlock = some B
 ·have := (h.lt B hv).1; omega
 ·exact .inr hv

theorem own_shape {w : World} {base e n : Nat} {v : Value} {xs : List Value} (h : w.ownsRow base e 1 v n xs) (hv : v ≠ .slice none 0 0) : ∃ g cap, v = .slice (some ⟨g, 0, none⟩) n cap ∧ w.ownsRow base e 1 (.slice (some ⟨g, 0, none⟩) n cap) n xs := by
 rcases h.2 with ⟨h1, _⟩ | ⟨g, cap, cur, h1, _⟩
 ·exact absurd h1 hv
 ·subst h1; exact ⟨g, cap, rfl, h⟩

theorem bcell {W w1 : World} (hb : Below W.heap.size W w1) : (∀ b o, b < W.heap.size → w1.cell? ⟨b, o, none⟩ = W.cell? ⟨b, o, none⟩) ∧ (∀ b o, b < W.heap.size → w1.frozen? ⟨b, o, none⟩ = W.frozen? ⟨b, o, none⟩) :=
 ⟨fun b o h => hb.cell (p := ⟨b, o, none⟩) h, fun b o h => hb.frozen (p := ⟨b, o, none⟩) h⟩

end Go.Proofs.Ytllagodlgipcpaa

/- What the words of chapter 2 answer, in the program and in its specification: one contract a function, over strings. -/
namespace Go.Proofs.Ytllagodlgipcpaa
open Go.RowKit Go.PlainAid




end Go.Proofs.Ytllagodlgipcpaa

/- What the sums of chapter 2 answer over a string, in the program and in its specification: one contract a function. -/
namespace Go.Proofs.Ytllagodlgipcpaa
open Go.RowKit Go.PlainAid

/-- Two words, added in the specification. -/
theorem specAdd_any (a b : Int) (w : World) (ha : 0 ≤ a) (ha' : a ≤ 65535) (hb : 0 ≤ b) (hb' : b ≤ 65535) :
  Calls Try.prog 70 #[.int .i64 a, .int .i64 b] w fun e w' => e = .returned (.int .i64 (add1 a b)) ∧ w' = w := by
 by_cases h : 65535 < a + b
 ·have HV : Hid (add1 a b = a + b - 65535) := by unfold Hid add1; rw [if_pos h]
  go_enter Try.func70, Try.ntmps70
  go_wp2
  go_ret
  exact ⟨ret_int HV.out.symm, rfl⟩
 ·have HV : Hid (add1 a b = a + b) := by unfold Hid add1; rw [if_neg h]
  go_enter Try.func70, Try.ntmps70
  go_wp2
  go_ret
  exact ⟨ret_int HV.out.symm, rfl⟩

/-- The sum of a text: its words, added so. -/
def sumV (s : ByteArray) : Int := sumN (bt s) ((s.size + 1) / 2)

theorem sumV_range (s : ByteArray) : 0 ≤ sumV s ∧ sumV s ≤ 65535 := sumN_range (bt_isByte s) _

set_option maxHeartbeats 800000 in
theorem specSum1_any (s : ByteArray) (w : World) (hs : s.size ≤ 1048578) :
  Calls Try.prog 34 #[.string s] w fun e w' => e = .returned (.int .i64 (sumV s)) ∧ w' = w := by
 have hb := get_bt s
 go_enter Try.func34, Try.ntmps34
 go_wp2
 go_loop [3, 4] (fun n i => ∃ k : Nat, 2 * k ≤ s.size + 1 ∧ i = .int .i64 (2 * (k : Int)) ∧ n = .int .i64 (sumN (bt s) k)) (fun _ i => s.size + 2 - (intOf i).toNat)
 case atStart => exact ⟨0, Nat.zero_le _, rfl, rfl⟩
 case round =>
  obtain ⟨k, hk, rfl, rfl⟩ := hrel
  have hr := sumN_range (bt_isByte s) k
  have hq := wordN_range (bt_isByte s) (2 * k)
  have HW : Hid (wordN (bt s) (2 * k) = bt s (2 * k) * 256 + bt s (2 * k + 1)) := rfl
  have HN : Hid (sumN (bt s) (k + 1) = add1 (sumN (bt s) k) (wordN (bt s) (2 * k))) := rfl
  have b1 := bt_isByte s (2 * k)
  have b2 := bt_isByte s (2 * k + 1)
  have hj := join_word (bt s (2 * k)) (bt s (2 * k + 1)) b1.1 b1.2 b2.1 b2.2
  by_cases hlt : 2 * k < s.size
  ·by_cases h2 : 2 * k + 1 < s.size
   ·go_wp2_with (go_at_call 70; refine (specAdd_any _ _ _ hr.1 hr.2 (by omega) (by omega)).mono ?_; rintro e w' ⟨rfl, rfl⟩)
    go_round
    case rel => exact ⟨k + 1, by omega, by go_num, by rw [HN.out, HW.out]⟩
    case measure => simp [intOf]; omega
   ·have HE : Hid (bt s (2 * k + 1) = 0) := bt_end s (by omega)
    go_wp2_with (go_at_call 70; refine (specAdd_any _ _ _ hr.1 hr.2 (by omega) (by omega)).mono ?_; rintro e w' ⟨rfl, rfl⟩)
    go_round
    case rel => exact ⟨k + 1, by omega, by go_num, by rw [HN.out, HW.out, HE.out, Int.add_zero]⟩
    case measure => simp [intOf]; omega
  ·go_wp2
   go_ret
   exact ⟨ret_int (by unfold sumV; rw [show (s.size + 1) / 2 = k by omega]), rfl⟩

end Go.Proofs.Ytllagodlgipcpaa

/- What the two bytes of a word are, in the program and in its specification, and what lies behind layWords. -/
namespace Go.Proofs.Ytllagodlgipcpaa
open Go.RowKit Go.PlainAid

/-- Is a number a word? -/
def isW (n : Int) : Bool := decide (0 ≤ n) && decide (n ≤ 65535)

theorem isW_yes {n : Int} (h0 : 0 ≤ n) (h1 : n ≤ 65535) : isW n = true := by simp [isW, h0, h1]
theorem isW_no {n : Int} (h : ¬ (0 ≤ n ∧ n ≤ 65535)) : isW n = false := by
 rw [Bool.eq_false_iff]; intro hh; simp [isW] at hh; exact h hh

theorem specWordIs_any (n : Int) (w : World) :
  Calls Try.prog 29 #[.int .i64 n] w fun e w' => e = .returned (.bool (isW n)) ∧ w' = w := by
 by_cases h0 : 0 ≤ n
 ·by_cases h1 : n ≤ 65535
  ·have HV : Hid (isW n = true) := isW_yes h0 h1
   go_enter Try.func29, Try.ntmps29
   go_wp2
   go_ret
   exact ⟨ret_bool HV.out.symm, rfl⟩
  ·have HV : Hid (isW n = false) := isW_no (fun h => h1 h.2)
   go_enter Try.func29, Try.ntmps29
   go_wp2
   go_ret
   exact ⟨ret_bool HV.out.symm, rfl⟩
 ·have HV : Hid (isW n = false) := isW_no (fun h => h0 h.1)
  go_enter Try.func29, Try.ntmps29
  go_wp2
  go_ret
  exact ⟨ret_bool HV.out.symm, rfl⟩

theorem implWordIs_any (n : Int) (w : World) :
  Calls Try.prog 24 #[.int .i64 n] w fun e w' => e = .returned (.bool (isW n)) ∧ w' = w := by
 by_cases h0 : 0 ≤ n
 ·by_cases h1 : n ≤ 65535
  ·have HV : Hid (isW n = true) := isW_yes h0 h1
   go_enter Try.func24, Try.ntmps24
   go_wp2
   go_ret
   exact ⟨ret_bool HV.out.symm, rfl⟩
  ·have HV : Hid (isW n = false) := isW_no (fun h => h1 h.2)
   go_enter Try.func24, Try.ntmps24
   go_wp2
   go_ret
   exact ⟨ret_bool HV.out.symm, rfl⟩
 ·have HV : Hid (isW n = false) := isW_no (fun h => h0 h.1)
  go_enter Try.func24, Try.ntmps24
  go_wp2
  go_ret
  exact ⟨ret_bool HV.out.symm, rfl⟩

end Go.Proofs.Ytllagodlgipcpaa

/- Texts put together: digits and groups: what the specification's l01Dec and l02Group answer. -/
namespace Go.Proofs.Ytllagodlgipcpaa
open Go.RowKit Go.PlainAid
set_option linter.unusedVariables false
set_option linter.unusedSimpArgs false

end Go.Proofs.Ytllagodlgipcpaa

/- The words' bytes, and sums over lists of bytes: what WordBytes, SumAdd, SumTurn and SumRight answer, in the program and in its specification. -/
namespace Go.Proofs.Ytllagodlgipcpaa
open Go.RowKit Go.PlainAid


end Go.Proofs.Ytllagodlgipcpaa

/- Sums of two and three words by layWords and sumOf: what SumAdd, SumTurn and SumRight answer, in the program and in its specification. -/
namespace Go.Proofs.Ytllagodlgipcpaa
open Go.RowKit Go.PlainAid

end Go.Proofs.Ytllagodlgipcpaa

/- Sums of texts that are put together: a check behind a text, a word that is turned in it. -/
namespace Go.Proofs.Ytllagodlgipcpaa
open Go.RowKit Go.PlainAid

section
variable {t : ByteArray} {j K : Nat} {n : Int}

end

end Go.Proofs.Ytllagodlgipcpaa

/- Pkt: packets, as plain functions: when they are right, their bytes, what is read of a text; nothing of the program. -/
namespace Go.Proofs.Ytllagodlgipcpaa
open Go.RowKit Go.PlainAid
set_option linter.unusedVariables false
set_option linter.unusedSimpArgs false

/-- A packet of IPv4. -/
structure P4 where
 tos : Int
 id : Int
 whole : Bool
 more : Bool
 off : Int
 ttl : Int
 proto : Int
 src : ByteArray
 dst : ByteArray
 opts : ByteArray
 data : ByteArray
/-- A packet of IPv6. -/
structure P6 where
 cls : Int
 flow : Int
 next : Int
 hops : Int
 src : ByteArray
 dst : ByteArray
 piece : Bool
 more : Bool
 off : Int
 id : Int
 data : ByteArray

def isIn (n lo hi : Int) : Bool := decide (lo ≤ n) && decide (n ≤ hi)
theorem isIn_parts {n lo hi : Int} (h : isIn n lo hi = true) : lo ≤ n ∧ n ≤ hi := by simpa [isIn] using h
def hlen (p : P4) : Int := 20 + p.opts.size
end Go.Proofs.Ytllagodlgipcpaa
