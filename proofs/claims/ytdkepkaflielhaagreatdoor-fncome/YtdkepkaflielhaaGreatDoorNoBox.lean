import Derived.Test.YtdkepkaflielhaaGreatDoorAb
import Derived.Test.YtdkepkaflielhaaGreatDoorStor
import Derived.Test.YtdkepkaflielhaaGreatDoorNatM
set_option linter.unusedVariables false
set_option linter.unusedSimpArgs false
set_option maxRecDepth 100000
set_option maxHeartbeats 8000000
namespace Go.Proofs.YtdkepkaflielhaaGreatDoor
open Go.RowKit
theorem stor_cells (b:Nat):∀ (vs:List Value) (W:World) (j:Nat),stor b W j vs=W.setCells b j vs
 | [],W,j=>rfl
 | v::vs,W,j=>by
  show stor b (W.setCell ⟨b,j,none⟩ v) (j+1) vs=_;rw [stor_cells b vs]; rfl
theorem noL_len (a b:Option Addr) (ca cb:Nat) (o:No):(noL a b ca cb o).length=25:=rfl
theorem noL_one (a b:Option Addr) (ca cb:Nat) (o:No):(noL a b ca cb o).toArray.all (·.oneCell')=true:=all_oneCell_toArray (by unfold noL; simp [Value.oneCell'])
theorem HoldsL.mid {W:World} {b:Nat} {olds vs:List Value} (h:HoldsL W b olds) (hl:olds.length=vs.length):HoldsL (W.setCells b 0 vs.toArray.toList) b vs:=by
 rw [List.toList_toArray,← stor_cells]; exact h.stor vs hl
theorem Below.mid {n b:Nat} {w W:World} (h:Below n w W) (hb:n≤b) (vs:List Value):Below n w (W.setCells b 0 vs.toArray.toList):=by
 rw [List.toList_toArray,← stor_cells]; exact Below.stor hb vs h
theorem BbOwn.mid {base b:Nat} {W:World} {a a':Option Addr} {y:Bb} (h:BbOwn base W a a' y) (hb:b < base) (vs:List Value):BbOwn base (W.setCells b 0 vs.toArray.toList) a a' y:=by
 rw [List.toList_toArray,← stor_cells]; exact h.stor hb vs
theorem noL_there {W:World} {b:Nat} {a a':Option Addr} {ca cb:Nat} {o:No} (h:HoldsL W b (noL a a' ca cb o)) (x x':Option Addr) (cx cy:Nat) (y:No):W.there b 0 (noL x x' cx cy y).toArray.size:=by
 have:=h.th;rw [noL_len] at this;exact this
end Go.Proofs.YtdkepkaflielhaaGreatDoor
