import Derived.Test.YtdkepkaflielhaaGreatDoorAb
import Derived.Test.YtdkepkaflielhaaGreatDoorDrawTick
import Derived.Test.YtdkepkaflielhaaGreatDoorDrawTch
set_option linter.unusedVariables false
set_option linter.unusedSimpArgs false
set_option maxRecDepth 100000
set_option maxHeartbeats 8000000
namespace Go.Proofs.YtdkepkaflielhaaGreatDoor
open Go.RowKit Go.PlainAid
theorem slis_setT {α:Type} {en:α→List Value} {n g:Nat} {w:World} {a:Option Addr} {xs:List α} (h:SlIs en n w a xs) (hne:xs=[]∨∀ g' o,a=some ⟨g',o,none⟩→g'≠g) (j:Nat) (u:Value):SlIs en n (w.setCell ⟨g,j,none⟩ u) a xs:=by
 rcases h with h | ⟨b,off,ha,hb,hr⟩
 ·exact .inl h
 ·rcases hne with h0 | hne
  ·exact .inl h0
  ·exact .inr ⟨b,off,ha,by simpa [World.setCell] using hb,fun i hi k v hv=>(World.cell?_setCell_other _ _ _ _ (fun e2=>hne b off ha (by injection e2 with e3 _; exact e3.symm))).trans (hr i hi k v hv)⟩
end Go.Proofs.YtdkepkaflielhaaGreatDoor
