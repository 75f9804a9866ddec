/- Plain mathematics of chapter 2: words and one's complement sums over integers and bytes; nothing of the program. -/
import Derived.WalkKit
import Derived.PlainAid
import Derived.Laws.BitsLemmas
import Derived.Laws.Bits64
namespace Go.Proofs.Ytgnolcbdojjieaa
open Go.PlainAid

theorem wraps_i64 (n : Int) (h0 : 0 ≤ n) (h1 : n < 2 ^ 63) : IntKind.i64.wrap n = n := by rw [IntKind.wrap_i64]; omega

theorem join_word (a b : Int) (ha : 0 ≤ a) (ha' : a ≤ 255) (hb : 0 ≤ b) (hb' : b ≤ 255) : bits .or .i64 (a * 256) b = a * 256 + b :=
 bits_join .i64 63 (by decide) wraps_i64 8 (a * 256) b (by omega) (by omega) (by omega) hb (by omega) (by omega)

/-- The word at a place of a list of bytes: a byte that is not there is 0. -/
def wordN (f : Nat → Int) (i : Nat) : Int := f i * 256 + f (i + 1)

def isByte (f : Nat → Int) : Prop := ∀ i, 0 ≤ f i ∧ f i ≤ 255

theorem wordN_range {f : Nat → Int} (h : isByte f) (i : Nat) : 0 ≤ wordN f i ∧ wordN f i ≤ 65535 := by
 have h1 := h i; have h2 := h (i + 1); unfold wordN; omega

theorem bt_isByte (s : ByteArray) : isByte (bt s) := fun i => ⟨bt_nonneg s i, bt_le s i⟩

end Go.Proofs.Ytgnolcbdojjieaa
