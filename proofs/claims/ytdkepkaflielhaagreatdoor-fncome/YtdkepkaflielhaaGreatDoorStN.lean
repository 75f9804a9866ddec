import Derived.Test.YtdkepkaflielhaaGreatDoorAb
import Derived.Test.YtdkepkaflielhaaGreatDoorNoBox
set_option linter.unusedVariables false
set_option linter.unusedSimpArgs false
set_option maxRecDepth 100000
set_option maxHeartbeats 8000000
namespace Go.Proofs.YtdkepkaflielhaaGreatDoor
open Go.RowKit
theorem mid3 {n b:Nat} {w W:World} (h:HoldsL W b (noL none none 0 0 (noE 0))) (hb:Below n w W) (hn:n≤b) (a a':Option Addr) (ca cb:Nat) (o:No):Hid (W.there b 0 (noL a a' ca cb o).toArray.size)∧Hid (HoldsL (W.setCells b 0 (noL a a' ca cb o).toArray.toList) b (noL a a' ca cb o))∧Hid (Below n w (W.setCells b 0 (noL a a' ca cb o).toArray.toList)):=⟨noL_there h _ _ _ _ _,h.mid rfl,Below.mid hb hn _⟩
end Go.Proofs.YtdkepkaflielhaaGreatDoor
