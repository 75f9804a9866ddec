import Derived.Test.YtdkepkaflielhaaGreatDoorAb
import Derived.Test.YtdkepkaflielhaaGreatDoorCSetM
import Derived.Test.YtdkepkaflielhaaGreatDoorICarry
import Derived.Test.YtdkepkaflielhaaGreatDoorHdLay
import Derived.Test.YtdkepkaflielhaaGreatDoorSPut
import Derived.Test.YtdkepkaflielhaaGreatDoorGrowV
import Derived.Test.YtdkepkaflielhaaGreatDoorBoxes
import Derived.RegionTactic
set_option linter.unusedVariables false
set_option linter.unusedSimpArgs false
set_option maxRecDepth 100000
set_option maxHeartbeats 8000000
namespace Go.Proofs.YtdkepkaflielhaaGreatDoor
open Go.RowKit Go.PlainAid
theorem ipPlace_any (p:Int) (w:World) :
  Cw 153 #[iV p] w (iV (checkP p:Nat)):=by
 by_cases h1:p=6
 ·subst h1;go_enter Tryz.func153,Tryz.ntmps153
  go_wp2_with fail
  go_ret;exact ⟨rfl,rfl⟩
 ·have d1:(p==6)=false:=by simp [h1]
  by_cases h2:p=17
  ·subst h2;go_enter Tryz.func153,Tryz.ntmps153
   go_wp2_with fail
   go_ret;exact ⟨rfl,rfl⟩
  ·have d2:(p==17)=false:=by simp [h2]
   have HV:Hid (checkP p=2):=by unfold Hid checkP; rw [if_neg h1,if_neg h2]
   generalize checkP p=ans at *;go_enter Tryz.func153,Tryz.ntmps153
   go_wp2_with fail
   go_ret;exact ⟨ret_int (by rw [HV.out]; rfl),rfl⟩
theorem ipLike_any (a b:Int) (w:World) :
  Cw 150 #[iV a,iV b] w (.bool (decide (a=b)||(echoP a&&echoP b))):=by
 have HA:Hid (∀ W,Cw 100 #[iV a] W (.bool (echoP a))):=fun W=>implEcho_any a W
 have HB:Hid (∀ W,Cw 100 #[iV b] W (.bool (echoP b))):=fun W=>implEcho_any b W
 have hun:undef=Value.tuple #[]:=rfl;by_cases h:a=b
 ·have d1:(a==b)=true:=by simp [h]
  have HV:Hid ((decide (a=b)||(echoP a&&echoP b))=true):=by unfold Hid; simp [h]
  generalize (decide (a=b)||(echoP a&&echoP b))=ans at *;clear h HA HB;go_enter Tryz.func150,Tryz.ntmps150
  go_wp2_with fail
  go_ret;exact ⟨ret_bool (by rw [HV.out]),rfl⟩
 ·have d1:(a==b)=false:=by simp [h]
  have HV:Hid ((decide (a=b)||(echoP a&&echoP b))=(echoP a&&echoP b)):=by unfold Hid; simp [h]
  generalize (decide (a=b)||(echoP a&&echoP b))=ans at *;generalize echoP a=ea at *;generalize echoP b=eb at *;clear h
  cases ea with
  | false =>
   go_enter Tryz.func150,Tryz.ntmps150
   go_wp2_with fail
   refine (HA.out _).mono ?_;rintro e w2 ⟨rfl,rfl⟩;go_wp2_with fail
   go_ret;exact ⟨ret_bool (by rw [HV.out]; rfl),rfl⟩
  | true =>
   go_enter Tryz.func150,Tryz.ntmps150
   go_wp2_with fail
   refine (HA.out _).mono ?_;rintro e w2 ⟨rfl,rfl⟩;go_wp2_with fail
   refine (HB.out _).mono ?_;rintro e w3 ⟨rfl,rfl⟩;go_wp2_with fail
   go_ret;exact ⟨ret_bool (by rw [HV.out]; rfl),rfl⟩
theorem ipSetPart_any (p:Int) (t:ByteArray) (w:World) (h8:8≤t.size) (ht:t.size≤1048576) :
  Cb 175 #[iV p,.string t] w (.string (setPartV p t)):=by
 have HE:Hid (∀ W,Cw 100 #[iV p] W (.bool (echoP p))):=fun W=>implEcho_any p W
 have L1:∀ W,(Instr.slice 9 (.string t) none (some (iV 4)) none).run Tryz.prog W=.ok (.string (t.extract 0 4)) W:=fun W=>run_slice_string_h (P:=Tryz.prog) (t:=9) (s:=t) (w:=W) (ht:=Tryz.underlying9) .i64 (4:Int) (by omega) (by omega)
 have L2:∀ W,(Instr.slice 9 (.string t) none (some (iV 2)) none).run Tryz.prog W=.ok (.string (t.extract 0 2)) W:=fun W=>run_slice_string_h (P:=Tryz.prog) (t:=9) (s:=t) (w:=W) (ht:=Tryz.underlying9) .i64 (2:Int) (by omega) (by omega)
 have L3:∀ W,(Instr.slice 9 (.string t) (some (iV 4)) (some (iV 6)) none).run Tryz.prog W=.ok (.string (t.extract 4 6)) W:=fun W=>str_slice5 t 4 6 W (by omega) (by omega)
 have z1:(t.extract 0 4).size=4:=by rw [ByteArray.size_extract]; omega
 have z2:(t.extract 0 2).size=2:=by rw [ByteArray.size_extract]; omega
 have z3:(t.extract 4 6).size=2:=by rw [ByteArray.size_extract]; omega
 have HV:Hid (setPartV p t=if echoP p=true then t.extract 0 2++t.extract 4 6 else t.extract 0 4):=rfl;generalize t.extract 0 4=u1 at *;generalize t.extract 0 2=u2 at *;generalize t.extract 4 6=u3 at *;generalize setPartV p t=ans at *;have n1:¬ 9223372036854775807 < u2.size+u3.size:=by omega
 generalize echoP p=b at *
 cases b with
 | false =>
  replace HV:Hid (ans=u1):=HV.out;go_enter Tryz.func175,Tryz.ntmps175
  go_wp2_with fail
  refine (HE.out _).mono ?_;rintro e w2 ⟨rfl,rfl⟩;go_wp2_with fail
  go_ret;exact ⟨by rw [HV.out]; rfl,Below.refl _ _⟩
 | true =>
  replace HV:Hid (ans=u2++u3):=HV.out;go_enter Tryz.func175,Tryz.ntmps175
  go_wp2_with fail
  refine (HE.out _).mono ?_;rintro e w2 ⟨rfl,rfl⟩;go_wp2_with fail
  go_region
  all_goals go_wp2_with fail
  all_goals go_ret
  all_goals exact ⟨by rw [HV.out]; rfl,bR.drew⟩
end Go.Proofs.YtdkepkaflielhaaGreatDoor
