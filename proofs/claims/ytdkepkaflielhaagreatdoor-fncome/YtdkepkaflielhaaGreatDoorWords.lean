import Derived.Test.YtdkepkaflielhaaGreatDoorAb
import Derived.Test.YtdkepkaflielhaaGreatDoorProg
import Derived.Test.YtdkepkaflielhaaGreatDoorMath
import Derived.Test.YtdkepkaflielhaaGreatDoorBase
import Derived.WalkKit
import Derived.WalkLawsBesides
import Derived.RegionTactic
import Derived.ChangeAlike
set_option linter.unusedVariables false
set_option linter.unusedSimpArgs false
set_option maxRecDepth 100000
set_option maxHeartbeats 8000000
namespace Go.Proofs.YtdkepkaflielhaaGreatDoor
open Go.RowKit Go.PlainAid
theorem specAt_any (s:ByteArray) (k:Nat) (w:World) (hk:k+1 < s.size) (hs:s.size≤maxLen) :
  Cb 42 #[.string s,iV k] w (iV (wordN (bt s) k)):=by
 unfold maxLen at hs;have hb:=get_bt s;have b1:=bt_isByte s k;have b2:=bt_isByte s (k+1);have hj:=join_word (bt s k) (bt s (k+1)) b1.1 b1.2 b2.1 b2.2;go_enter Tryz.func42,Tryz.ntmps42
 go_wp2
 go_region
 all_goals
  go_wp2
  go_ret;exact ⟨ret_int rfl,bR.drew⟩
theorem wordFromS_any (s:ByteArray) (k:Nat) (w:World) (hk:k < s.size) (hs:s.size≤maxLen) :
  Cw 131 #[.string s,iV k] w (iV (wordN (bt s) k)):=by
 unfold maxLen at hs;have hb:=get_bt s;have b1:=bt_isByte s k;have b2:=bt_isByte s (k+1);have hj:=join_word (bt s k) (bt s (k+1)) b1.1 b1.2 b2.1 b2.2;by_cases h:k+1 < s.size
 ·go_enter Tryz.func131,Tryz.ntmps131
  go_wp2
  go_ret;exact ⟨ret_int rfl,rfl⟩
 ·have h2:¬ (k:Int)+1 < s.size:=by omega
  have HE:Hid (bt s (k+1)=0):=bt_end s (by omega);go_enter Tryz.func131,Tryz.ntmps131
  go_wp2
  go_ret;exact ⟨ret_int (by unfold wordN; rw [HE.out]; omega),rfl⟩
end Go.Proofs.YtdkepkaflielhaaGreatDoor
