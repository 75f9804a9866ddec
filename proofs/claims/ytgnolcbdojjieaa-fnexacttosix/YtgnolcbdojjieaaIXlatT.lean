/- IXlatT: what the program's ToFour answers. Printed by mkixlatt.py. -/
import Derived.Test.YtgnolcbdojjieaaIXlat6
import Derived.Test.YtgnolcbdojjieaaMerged3
import Derived.Test.YtgnolcbdojjieaaIV6D
namespace Go.Proofs.Ytgnolcbdojjieaa
open Go.RowKit Go.PlainAid Go.Lib
set_option linter.unusedVariables false
set_option linter.unusedSimpArgs false

theorem hold_conv {w : World} {g n cap : Nat} {t : ByteArray} (h : HoldsL w g (strCells t)) (hn : n = t.size) :
  (convert 22 9 (.slice (some ⟨g, 0, none⟩) n cap)).run Try.prog w = .ok (.string t) w := by
 subst hn
 have := take_conv (w := w) (b := g) (k := 0) (n := t.size) (cap := cap) (t := t) (fun i hi => hold_bt h i hi) (by omega)
 rw [show t.extract 0 (0 + t.size) = t by rw [Nat.zero_add]; exact ByteArray.extract_zero_size] at this
 exact this
def IsHs (t : ByteArray) : Value → World → Prop := fun v w => ∃ g n, v = .slice (some ⟨g, 0, none⟩) n n ∧ n = t.size ∧ HoldsL w g (strCells t)
theorem stable_isHs (t : ByteArray) (ht : 0 < t.size) : Stable (IsHs t) := fun v w w' ⟨g, n, h1, h2, h3⟩ hb => ⟨g, n, h1, h2, h3.kept (by rw [strCells_length]; exact ht) hb⟩

end Go.Proofs.Ytgnolcbdojjieaa
