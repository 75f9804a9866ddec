/- PktMath: packets come back from their bytes; a byte of the header turned makes another one. Nothing of the program. -/
import Derived.Test.YtgnolcbdojjieaaIV4BM
import Derived.Test.YtgnolcbdojjieaaEmbed
import Derived.Test.YtgnolcbdojjieaaBitMath
namespace Go.Proofs.Ytgnolcbdojjieaa
open Go.RowKit Go.PlainAid
set_option linter.unusedVariables false
set_option linter.unusedSimpArgs false

theorem ext_mid (X Y Z : ByteArray) : (X ++ Y ++ Z).extract X.size (X.size + Y.size) = Y := by
 have hs : ((X ++ Y ++ Z).extract X.size (X.size + Y.size)).size = Y.size := by
  rw [ByteArray.size_extract]; simp only [ByteArray.size_append]; omega
 refine ba_ext hs fun i hi => ?_
 rw [hs] at hi
 rw [bt_extract _ _ _ _ (by simp only [ByteArray.size_append]; omega), if_pos (by omega), bt_append, if_pos (by rw [ByteArray.size_append]; omega), bt_append, if_neg (by omega)]
 congr 1; omega
theorem ext_at {t X Y Z : ByteArray} {a b : Nat} (h : t = X ++ Y ++ Z) (ha : a = X.size) (hb : b = X.size + Y.size) : t.extract a b = Y := by
 subst h ha hb; exact ext_mid X Y Z

end Go.Proofs.Ytgnolcbdojjieaa
