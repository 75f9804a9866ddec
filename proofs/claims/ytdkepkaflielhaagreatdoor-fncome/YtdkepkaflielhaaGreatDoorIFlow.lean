import Derived.Test.YtdkepkaflielhaaGreatDoorSz
import Derived.Test.YtdkepkaflielhaaGreatDoorAb
import Derived.Test.YtdkepkaflielhaaGreatDoorCarry
import Derived.Test.YtdkepkaflielhaaGreatDoorBase
import Derived.Test.YtdkepkaflielhaaGreatDoorABit
import Derived.Test.YtdkepkaflielhaaGreatDoorTwo
import Derived.Test.YtdkepkaflielhaaGreatDoorLawFlow
import Derived.BigQuiet
import Derived.Deep.DeepCutAuto
set_option linter.unusedVariables false
set_option linter.unusedSimpArgs false
set_option maxRecDepth 100000
set_option maxHeartbeats 8000000
namespace Go.Proofs.YtdkepkaflielhaaGreatDoor
open Go.RowKit Go.PlainAid
theorem implLong_any (t:ByteArray) (w:World) :
  Cw 81 #[.string t] w (.bool (decide (20000 < t.size))):=by
 by_cases h:20000 < t.size
 ·have d:decide ((20000:Int) < (t.size:Int))=true:=by simp; omega
  rw [decide_eq_true h];go_enter Tryz.func81,Tryz.ntmps81
  go_wp2_with fail
  go_ret;exact ⟨rfl,rfl⟩
 ·have d:decide ((20000:Int) < (t.size:Int))=false:=by simp; omega
  rw [decide_eq_false h];go_enter Tryz.func81,Tryz.ntmps81
  go_wp2_with fail
  go_ret;exact ⟨rfl,rfl⟩
theorem implTcpFlags_any (t:ByteArray) (w:World) (ht:t.size≤1048576) :
  Cb 103 #[.string t] w (iV (tcpFlagsV t)):=by
 have HL:Hid (∀ W,Cw 81 #[.string t] W (.bool (decide (20000 < t.size)))):=fun W=>implLong_any t W
 by_cases h1:20000 < t.size
 ·have HV:Hid (tcpFlagsV t=0):=by unfold Hid tcpFlagsV; rw [if_pos (.inl h1)]
  rw [decide_eq_true h1] at HL;go_enter Tryz.func103,Tryz.ntmps103
  go_wp2_with fail
  refine (HL.out _).mono ?_;rintro e w2 ⟨rfl,rfl⟩;go_wp2_with fail
  go_ret;exact ⟨ret_int HV.out.symm,Below.refl _ _⟩
 rw [decide_eq_false h1] at HL;by_cases h2:t.size < 20
 ·have HV:Hid (tcpFlagsV t=0):=by unfold Hid tcpFlagsV; rw [if_pos (.inr h2)]
  go_enter Tryz.func103,Tryz.ntmps103
  go_wp2_with fail
  refine (HL.out _).mono ?_;rintro e w2 ⟨rfl,rfl⟩;go_wp2_with fail
  go_ret;exact ⟨ret_int HV.out.symm,Below.refl _ _⟩
 ·have HV:Hid (tcpFlagsV t=bt t 13):=by unfold Hid tcpFlagsV; rw [if_neg (by omega)]
  have hb:=get_bt t;have b1:=bt_isByte t 13;go_enter Tryz.func103,Tryz.ntmps103
  go_wp2_with fail
  refine (HL.out _).mono ?_;rintro e w2 ⟨rfl,rfl⟩;go_wp2_with fail
  go_ret;exact ⟨ret_int HV.out.symm,Below.refl _ _⟩
theorem implPair_any (s d:ByteArray) (w:World) (hs:s.size≤maxLen) (hd:d.size≤maxLen) :
  Cw 97 #[.string s,.string d] w (.bool (pairOk s d)):=by
 have HA:Hid (∀ W,Cw 129 #[.string s] W (.bool (addrOk s))):=fun W=>implAddrRight_any s W
 unfold maxLen at hs hd;unfold pairOk;generalize addrOk s=b at *;by_cases h:s.size=d.size
 ·have dh:((s.size:Int)==(d.size:Int))=true:=by simp; omega
  rw [decide_eq_true h];clear h
  cases b;all_goals go_enter Tryz.func97,Tryz.ntmps97
  all_goals go_wp2_with fail
  all_goals refine (HA.out _).mono ?_
  all_goals rintro e w2 ⟨rfl,rfl⟩
  all_goals go_wp2_with fail
  all_goals go_ret
  all_goals exact ⟨rfl,rfl⟩
 ·have dh:((s.size:Int)==(d.size:Int))=false:=by simp; omega
  rw [decide_eq_false h]
  cases b;all_goals go_enter Tryz.func97,Tryz.ntmps97
  all_goals go_wp2_with fail
  all_goals refine (HA.out _).mono ?_
  all_goals rintro e w2 ⟨rfl,rfl⟩
  all_goals go_wp2_with fail
  all_goals go_ret
  all_goals exact ⟨rfl,rfl⟩
theorem implEcho_any (p:Int) (w:World) :
  Cw 100 #[iV p] w (.bool (echoP p)):=by
 by_cases h1:p=1
 ·have d1:(p==1)=true:=by simp [h1]
  have HV:Hid (echoP p=true):=by unfold Hid echoP; simp [h1]
  clear h1;go_enter Tryz.func100,Tryz.ntmps100
  go_wp2_with fail
  go_ret;exact ⟨ret_bool HV.out.symm,rfl⟩
 ·have d1:(p==1)=false:=by simp [h1]
  have HV:Hid (echoP p=(p==58)):=by
   unfold Hid echoP;rw [decide_eq_false h1,Bool.false_or];rfl
  go_enter Tryz.func100,Tryz.ntmps100
  go_wp2_with fail
  go_ret;exact ⟨ret_bool HV.out.symm,rfl⟩
theorem implCarried_any (p:Int) (s:ByteArray) (w:World) (hs:s.size≤maxLen) :
  Cw 98 #[iV p,.string s] w (.bool (protoOk p s.size)):=by
 unfold maxLen at hs;by_cases h6:p=6
 ·have HV:Hid (protoOk p s.size=true):=by unfold Hid protoOk; simp [h6]
  have d6:(p==6)=true:=by simp [h6]
  clear h6;go_enter Tryz.func98,Tryz.ntmps98
  go_wp2_with fail
  go_ret;exact ⟨ret_bool HV.out.symm,rfl⟩
 have d6:(p==6)=false:=by simp [h6]
 by_cases h17:p=17
 ·have HV:Hid (protoOk p s.size=true):=by unfold Hid protoOk; simp [h17]
  have d17:(p==17)=true:=by simp [h17]
  clear h6 h17;go_enter Tryz.func98,Tryz.ntmps98
  go_wp2_with fail
  go_ret;exact ⟨ret_bool HV.out.symm,rfl⟩
 have d17:(p==17)=false:=by simp [h17]
 by_cases h1:p=1
 ·have HV:Hid (protoOk p s.size=((s.size:Int)==4)):=by
   unfold Hid protoOk;have h4:((s.size:Int)==4)=decide (s.size=4):=by rw [Bool.eq_iff_iff]; simp; omega
   rw [h4]; simp [h1]
  have d1:(p==1)=true:=by simp [h1]
  clear h6 h17 h1;go_enter Tryz.func98,Tryz.ntmps98
  go_wp2_with fail
  go_ret;exact ⟨ret_bool HV.out.symm,rfl⟩
 have d1:(p==1)=false:=by simp [h1]
 by_cases h58:p=58
 ·have HV:Hid (protoOk p s.size=((s.size:Int)==16)):=by
   unfold Hid protoOk;have h4:((s.size:Int)==16)=decide (s.size=16):=by rw [Bool.eq_iff_iff]; simp; omega
   rw [h4]; simp [h58]
  have d58:(p==58)=true:=by simp [h58]
  clear h6 h17 h1 h58;go_enter Tryz.func98,Tryz.ntmps98
  go_wp2_with fail
  go_ret;exact ⟨ret_bool HV.out.symm,rfl⟩
 have d58:(p==58)=false:=by simp [h58]
 have HV:Hid (protoOk p s.size=false):=by unfold Hid protoOk; simp [h6,h17,h1,h58]
 clear h6 h17 h1 h58;go_enter Tryz.func98,Tryz.ntmps98
 go_wp2_with fail
 go_ret;exact ⟨ret_bool HV.out.symm,rfl⟩
theorem implFlowRight_any (f:Fl) (w:World) (h1:f.src.size≤1048576) (h2:f.dst.size≤1048576) :
  Cb 149 #[fwC f] w (.bool (flowOk f)):=by
 have HB1:Hid (∀ W,Cw 97 #[.string f.src,.string f.dst] W (.bool (pairOk f.src f.dst))):=fun W=>implPair_any _ _ W (by unfold maxLen; omega) (by unfold maxLen; omega)
 have HB2:Hid (∀ W,Cw 98 #[iV f.proto,.string f.src] W (.bool (protoOk f.proto f.src.size))):=fun W=>implCarried_any _ _ W (by unfold maxLen; omega)
 have HB3:Hid (∀ W,Cw 122 #[iV f.sp] W (.bool (isW f.sp))):=fun W=>implWordIs_any _ W
 have HB4:Hid (∀ W,Cw 122 #[iV f.dp] W (.bool (isW f.dp))):=fun W=>implWordIs_any _ W
 have HB5:Hid (∀ W,Cw 100 #[iV f.proto] W (.bool (echoP f.proto))):=fun W=>implEcho_any _ W
 have HV:Hid (flowOk f=(pairOk f.src f.dst&&protoOk f.proto f.src.size&&isW f.sp&&isW f.dp&&(!echoP f.proto||decide (f.sp=f.dp)))):=rfl;have dq:(f.sp==f.dp)=decide (f.sp=f.dp):=rfl;generalize decide (f.sp=f.dp)=q at *;generalize flowOk f=ok at *;generalize pairOk f.src f.dst=a1 at *;generalize protoOk f.proto f.src.size=a2 at *;generalize isW f.sp=a3 at *;generalize isW f.dp=a4 at *;generalize echoP f.proto=a5 at *;obtain ⟨proto,src,dst,sp,dp⟩:=f;unfold fwC;dsimp only at *;have HZ:Hid (Below w.z w (w.alloc (.cells (FlR proto src dst sp dp).toArray 43))):=bR.alloc lR _;go_enter Tryz.func149,Tryz.ntmps149
 go_wp2_with fail
 refine (HB1.out _).mono ?_;rintro e w2 ⟨rfl,rfl⟩
 cases a1 with
 | false =>
  have hun:undef=Value.tuple #[]:=rfl;go_wp2_with fail
  go_ret;exact ⟨ret_bool (by rw [HV.out]; simp),HZ.out⟩
 | true =>
 go_wp2_with fail
 refine (HB2.out _).mono ?_;rintro e w2 ⟨rfl,rfl⟩
 cases a2 with
 | false =>
  have hun:undef=Value.tuple #[]:=rfl;go_wp2_with fail
  go_ret;exact ⟨ret_bool (by rw [HV.out]; simp),HZ.out⟩
 | true =>
 go_wp2_with fail
 refine (HB3.out _).mono ?_;rintro e w2 ⟨rfl,rfl⟩
 cases a3 with
 | false =>
  have hun:undef=Value.tuple #[]:=rfl;go_wp2_with fail
  go_ret;exact ⟨ret_bool (by rw [HV.out]; simp),HZ.out⟩
 | true =>
 go_wp2_with fail
 refine (HB4.out _).mono ?_;rintro e w2 ⟨rfl,rfl⟩
 cases a4 with
 | false =>
  have hun:undef=Value.tuple #[]:=rfl;go_wp2_with fail
  go_ret;exact ⟨ret_bool (by rw [HV.out]; simp),HZ.out⟩
 | true =>
 go_wp2_with fail
 refine (HB5.out _).mono ?_;rintro e w2 ⟨rfl,rfl⟩
 cases a5 with
 | false =>
  have hun:undef=Value.tuple #[]:=rfl;go_wp2_with fail
  go_ret;exact ⟨ret_bool (by rw [HV.out]; simp),HZ.out⟩
 | true =>
  have hun:undef=Value.tuple #[]:=rfl;go_wp2_with fail
  go_ret;exact ⟨ret_bool (by rw [HV.out]; simp),HZ.out⟩
end Go.Proofs.YtdkepkaflielhaaGreatDoor
