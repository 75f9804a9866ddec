import Derived.Test.YtellgkeakiikkaaMerged3
import Derived.Test.YtellgkeakiikkaaMerged1
import Derived.BigQuiet
import Derived.Deep.DeepCutAuto
import Derived.Test.YtellgkeakiikkaaPkt
set_option linter.unusedVariables false
set_option linter.unusedSimpArgs false
set_option maxRecDepth 100000
set_option maxHeartbeats 8000000
namespace Go.Proofs.Ytellgkeakiikkaa
open Go.RowKit Go.PlainAid
theorem specIs_any (n lo hi:Int) (w:World) :
  Calls Try.prog 41 #[.int .i64 n,.int .i64 lo,.int .i64 hi] w fun e w'=>e=.returned (.bool (isIn n lo hi))∧w'=w:=by
 by_cases h1:lo≤n
 ·by_cases h2:n≤hi
  ·have HV:Hid (isIn n lo hi=true):=by unfold Hid isIn; simp [h1,h2]
   go_enter Try.func41,Try.ntmps41
   go_wp2_with fail
   go_ret;exact ⟨ret_bool (by rw [HV.out]),rfl⟩
  ·have HV:Hid (isIn n lo hi=false):=by unfold Hid isIn; simp [h2]
   go_enter Try.func41,Try.ntmps41
   go_wp2_with fail
   go_ret;exact ⟨ret_bool (by rw [HV.out]),rfl⟩
 ·have HV:Hid (isIn n lo hi=false):=by unfold Hid isIn; simp [h1]
  have h1':n < lo:=by omega
  go_enter Try.func41,Try.ntmps41
  go_wp2_with fail
  go_ret;exact ⟨ret_bool (by rw [HV.out]),rfl⟩
theorem specByte_any (n:Int) (w:World) :
  Calls Try.prog 53 #[.int .i64 n] w fun e w'=>e=.returned (.bool (isIn n 0 255))∧w'=w:=by
 have HC:Hid (∀ W,Calls Try.prog 41 #[.int .i64 n,.int .i64 0,.int .i64 255] W fun e w'=>e=.returned (.bool (isIn n 0 255))∧w'=W):=fun W=>specIs_any n 0 255 W
 generalize isIn n 0 255=b at *;go_enter Try.func53,Try.ntmps53
 go_wp2_with fail
 refine (HC.out _).mono ?_;rintro e w2 ⟨rfl,rfl⟩;go_wp2_with fail
 go_ret;exact ⟨rfl,rfl⟩
end Go.Proofs.Ytellgkeakiikkaa
