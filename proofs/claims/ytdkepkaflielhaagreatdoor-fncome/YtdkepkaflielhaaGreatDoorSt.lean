import Derived.Test.YtdkepkaflielhaaGreatDoorAb
import Derived.Test.YtdkepkaflielhaaGreatDoorHoldL
set_option linter.unusedVariables false
set_option linter.unusedSimpArgs false
set_option maxRecDepth 100000
set_option maxHeartbeats 8000000
namespace Go.Proofs.YtdkepkaflielhaaGreatDoor
open Go.RowKit
variable {n b:Nat} {w W:World} {x0 x1 x2 x3 x4 x5 x6 x7:Value}
theorem st2 (h:HoldsL W b [x0,x1]) (hb:Below n w W) (hn:n≤b) (v0 v1:Value):Hid (HoldsL ((sW W b 0 v0).setCell ⟨b,1,none⟩ v1) b [v0,v1])∧Hid (Below n w ((sW W b 0 v0).setCell ⟨b,1,none⟩ v1)):=⟨((h.set 0 v0).set 1 v1),((hb.setCell (p:=⟨b,0,none⟩) hn v0).setCell (p:=⟨b,1,none⟩) hn v1)⟩
theorem st5 (h:HoldsL W b [x0,x1,x2,x3,x4]) (hb:Below n w W) (hn:n≤b) (v0 v1 v2 v3 v4:Value):Hid (HoldsL ((sW (sW (sW (sW W b 0 v0) b 1 v1) b 2 v2) b 3 v3).setCell ⟨b,4,none⟩ v4) b [v0,v1,v2,v3,v4])∧Hid (Below n w ((sW (sW (sW (sW W b 0 v0) b 1 v1) b 2 v2) b 3 v3).setCell ⟨b,4,none⟩ v4)):=⟨(((((h.set 0 v0).set 1 v1).set 2 v2).set 3 v3).set 4 v4),(((((hb.setCell (p:=⟨b,0,none⟩) hn v0).setCell (p:=⟨b,1,none⟩) hn v1).setCell (p:=⟨b,2,none⟩) hn v2).setCell (p:=⟨b,3,none⟩) hn v3).setCell (p:=⟨b,4,none⟩) hn v4)⟩
theorem st7 (h:HoldsL W b [x0,x1,x2,x3,x4,x5,x6]) (hb:Below n w W) (hn:n≤b) (v0 v1 v2 v3 v4 v5 v6:Value):Hid (HoldsL ((sW (sW (sW (sW (sW (sW W b 0 v0) b 1 v1) b 2 v2) b 3 v3) b 4 v4) b 5 v5).setCell ⟨b,6,none⟩ v6) b [v0,v1,v2,v3,v4,v5,v6])∧Hid (Below n w ((sW (sW (sW (sW (sW (sW W b 0 v0) b 1 v1) b 2 v2) b 3 v3) b 4 v4) b 5 v5).setCell ⟨b,6,none⟩ v6)):=⟨(((((((h.set 0 v0).set 1 v1).set 2 v2).set 3 v3).set 4 v4).set 5 v5).set 6 v6),(((((((hb.setCell (p:=⟨b,0,none⟩) hn v0).setCell (p:=⟨b,1,none⟩) hn v1).setCell (p:=⟨b,2,none⟩) hn v2).setCell (p:=⟨b,3,none⟩) hn v3).setCell (p:=⟨b,4,none⟩) hn v4).setCell (p:=⟨b,5,none⟩) hn v5).setCell (p:=⟨b,6,none⟩) hn v6)⟩
theorem st8 (h:HoldsL W b [x0,x1,x2,x3,x4,x5,x6,x7]) (hb:Below n w W) (hn:n≤b) (v0 v1 v2 v3 v4 v5 v6 v7:Value):Hid (HoldsL ((sW (sW (sW (sW (sW (sW (sW W b 0 v0) b 1 v1) b 2 v2) b 3 v3) b 4 v4) b 5 v5) b 6 v6).setCell ⟨b,7,none⟩ v7) b [v0,v1,v2,v3,v4,v5,v6,v7])∧Hid (Below n w ((sW (sW (sW (sW (sW (sW (sW W b 0 v0) b 1 v1) b 2 v2) b 3 v3) b 4 v4) b 5 v5) b 6 v6).setCell ⟨b,7,none⟩ v7)):=⟨((((((((h.set 0 v0).set 1 v1).set 2 v2).set 3 v3).set 4 v4).set 5 v5).set 6 v6).set 7 v7),((((((((hb.setCell (p:=⟨b,0,none⟩) hn v0).setCell (p:=⟨b,1,none⟩) hn v1).setCell (p:=⟨b,2,none⟩) hn v2).setCell (p:=⟨b,3,none⟩) hn v3).setCell (p:=⟨b,4,none⟩) hn v4).setCell (p:=⟨b,5,none⟩) hn v5).setCell (p:=⟨b,6,none⟩) hn v6).setCell (p:=⟨b,7,none⟩) hn v7)⟩
end Go.Proofs.YtdkepkaflielhaaGreatDoor
