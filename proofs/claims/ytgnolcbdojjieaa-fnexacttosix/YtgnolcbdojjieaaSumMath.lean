/- Sums of texts that are put together: a check behind a text, a word that is turned in it. -/
import Derived.Test.YtgnolcbdojjieaaMerged1
namespace Go.Proofs.Ytgnolcbdojjieaa
open Go.RowKit Go.PlainAid

theorem bt_append (a b : ByteArray) (i : Nat) : bt (a ++ b) i = if i < a.size then bt a i else bt b (i - a.size) := by
 have hs : (a ++ b).size = a.size + b.size := ByteArray.size_append
 by_cases h : i < a.size
 ·rw [if_pos h]; unfold bt; rw [dif_pos (by omega), dif_pos h, ByteArray.getElem_append_left h]
 ·rw [if_neg h]; unfold bt
  by_cases h2 : i < (a ++ b).size
  ·rw [dif_pos h2, dif_pos (by omega), ByteArray.getElem_append_right (by omega)]
  ·rw [dif_neg h2, dif_neg (by omega)]

theorem bt_extract (a : ByteArray) (s e i : Nat) (he : e ≤ a.size) : bt (a.extract s e) i = if s + i < e then bt a (s + i) else 0 := by
 have hs : (a.extract s e).size = min e a.size - s := ByteArray.size_extract
 by_cases h : s + i < e
 ·rw [if_pos h]; unfold bt; rw [dif_pos (by omega), dif_pos (by omega), ByteArray.getElem_extract]
 ·rw [if_neg h]; unfold bt; rw [dif_neg (by omega)]

theorem twoV_size (n : Int) : (twoV n).size = 2 := rfl

theorem bt_two (n : Int) (h0 : 0 ≤ n) (h1 : n ≤ 65535) : bt (twoV n) 0 = n / 256 ∧ bt (twoV n) 1 = n % 256 := by
 constructor
 ·unfold bt; rw [dif_pos (by rw [twoV_size]; omega)]; exact u8_ofNat _ (by omega) (by omega)
 ·unfold bt; rw [dif_pos (by rw [twoV_size]; omega)]; exact u8_ofNat _ (by omega) (by omega)

section
variable {t : ByteArray} {j K : Nat} {n : Int}

end

end Go.Proofs.Ytgnolcbdojjieaa
