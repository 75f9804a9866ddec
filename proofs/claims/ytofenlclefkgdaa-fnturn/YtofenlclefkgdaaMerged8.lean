/- SmV, SV4B, in one text. -/
import Derived.Test.YtofenlclefkgdaaMerged3
import Derived.Test.YtofenlclefkgdaaMerged6
import Derived.Test.YtofenlclefkgdaaSV4
import Derived.Test.YtofenlclefkgdaaSV6
import Derived.Test.YtofenlclefkgdaaGrow
import Derived.Deep.RegionWith
import Derived.Deep.DeepCutAuto

/- SmV: V4Right and V6Right of the specification at packets in the laws' limits. -/
namespace Go.Proofs.Ytofenlclefkgdaa
open Go.RowKit Go.PlainAid
set_option linter.unusedVariables false

theorem specV4Right_sm (p : P4) (w : World) (hs : P4Sm p) (hw : P4Wf p) :
  Calls Try.prog 18 #[p4C p] w fun e w' => e = .returned (.bool (v4Ok p)) ∧ Below w.heap.size w w' := specV4Right_any p w hs.1 hs.2.1 hs.2.2.1 hs.2.2.2
theorem specV6Right_sm (p : P6) (w : World) (hs : P6Sm p) (hw : P6Wf p) :
  Calls Try.prog 20 #[p6C p] w fun e w' => e = .returned (.bool (v6Ok p)) ∧ Below w.heap.size w w' := specV6Right_any p w hs.1 hs.2.1 hs.2.2

end Go.Proofs.Ytofenlclefkgdaa

/- SV4B: what the specification's l04V4 and V4Bytes answer. Printed by mksv4b.py. -/
namespace Go.Proofs.Ytofenlclefkgdaa
open Go.RowKit Go.PlainAid
set_option linter.unusedVariables false
set_option linter.unusedSimpArgs false

def pairL (x y : Int) : List UInt8 := [UInt8.ofNat x.toNat, UInt8.ofNat y.toNat]
theorem pair_cells {w : World} {b : Nat} {x y : Int} (hx : 0 ≤ x ∧ x ≤ 255) (hy : 0 ≤ y ∧ y ≤ 255)
  (hc0 : w.cell? ⟨b, 0, none⟩ = some (.int .u8 x)) (hc1 : w.cell? ⟨b, 1, none⟩ = some (.int .u8 y)) :
  ∀ j (hj : j < (pairL x y).length), w.cell? (Addr.add ⟨b, 0, none⟩ j) = some (.int .u8 ((pairL x y)[j].toNat : Int)) := by
 intro j hj
 match j, hj with
 | 0, _ => simp only [Addr.add, Nat.add_zero, pairL, List.getElem_cons_zero]; rw [u8_ofNat _ hx.1 hx.2]; exact hc0
 | 1, _ => simp only [Addr.add, Nat.zero_add, pairL, List.getElem_cons_succ, List.getElem_cons_zero]; rw [u8_ofNat _ hy.1 hy.2]; exact hc1
theorem pair_conv {w : World} {b cap : Nat} {x y : Int} (hx : 0 ≤ x ∧ x ≤ 255) (hy : 0 ≤ y ∧ y ≤ 255)
  (hc0 : w.cell? ⟨b, 0, none⟩ = some (.int .u8 x)) (hc1 : w.cell? ⟨b, 1, none⟩ = some (.int .u8 y)) :
  (convert 22 9 (.slice (some ⟨b, 0, none⟩) 2 cap)).run Try.prog w = .ok (.string (pairV x y)) w :=
 run_convert_bytes_back (P := Try.prog) w 22 9 5 ⟨b, 0, none⟩ cap (pairL x y) Try.underlying22 Try.underlying5 Try.underlying9 (pair_cells hx hy hc0 hc1)



end Go.Proofs.Ytofenlclefkgdaa
