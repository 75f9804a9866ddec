import Derived.Test.YtdkepkaflielhaaGreatDoorAb
import Derived.Test.YtdkepkaflielhaaGreatDoorPieces
import Derived.Test.YtdkepkaflielhaaGreatDoorABit
import Derived.Test.YtdkepkaflielhaaGreatDoorTwo
import Derived.Test.YtdkepkaflielhaaGreatDoorIV4A
import Derived.Test.YtdkepkaflielhaaGreatDoorLawPiece
import Derived.BigQuiet
import Derived.Deep.DeepCutAuto
set_option linter.unusedVariables false
set_option linter.unusedSimpArgs false
set_option maxRecDepth 100000
set_option maxHeartbeats 8000000
namespace Go.Proofs.YtdkepkaflielhaaGreatDoor
open Go.RowKit Go.PlainAid
theorem implTime_any (n:Int) (w:World) :
  Cw 87 #[iV n] w (.bool (isTime n)):=by
 by_cases h1:0≤n
 ·by_cases h2:n≤1000000000
  ·have HV:Hid (isTime n=true):=by unfold Hid isTime isIn; simp [h1,h2]
   go_enter Tryz.func87,Tryz.ntmps87
   go_wp2_with fail
   go_ret;exact ⟨ret_bool (by rw [HV.out]),rfl⟩
  ·have HV:Hid (isTime n=false):=by unfold Hid isTime isIn; simp [h2]
   go_enter Tryz.func87,Tryz.ntmps87
   go_wp2_with fail
   go_ret;exact ⟨ret_bool (by rw [HV.out]),rfl⟩
 ·have HV:Hid (isTime n=false):=by unfold Hid isTime isIn; simp [h1]
  have h1':n < 0:=by omega
  go_enter Tryz.func87,Tryz.ntmps87
  go_wp2_with fail
  go_ret;exact ⟨ret_bool (by rw [HV.out]),rfl⟩
end Go.Proofs.YtdkepkaflielhaaGreatDoor
