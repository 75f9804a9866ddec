import Derived.Test.YtdkepkaflielhaaGreatDoorSz
import Derived.Test.YtdkepkaflielhaaGreatDoorAb
import Derived.Test.YtdkepkaflielhaaGreatDoorCarry
import Derived.Test.YtdkepkaflielhaaGreatDoorBase
import Derived.BigQuiet
import Derived.Deep.DeepCutAuto
set_option linter.unusedVariables false
set_option linter.unusedSimpArgs false
set_option maxRecDepth 100000
set_option maxHeartbeats 8000000
namespace Go.Proofs.YtdkepkaflielhaaGreatDoor
open Go.RowKit Go.PlainAid
theorem spPair_any (s d:ByteArray) (w:World) (hs:s.size≤maxLen) (hd:d.size≤maxLen) :
  Cw 31 #[.string s,.string d] w (.bool (pairOk s d)):=by
 have HA:Hid (∀ W,Cw 65 #[.string s] W (.bool (addrOk s))):=fun W=>specAddrRight_any s W
 unfold maxLen at hs hd;unfold pairOk;generalize addrOk s=b at *;by_cases h:s.size=d.size
 ·have dh:((s.size:Int)==(d.size:Int))=true:=by simp; omega
  rw [decide_eq_true h];clear h
  cases b;all_goals go_enter Tryz.func31,Tryz.ntmps31
  all_goals go_wp2_with fail
  all_goals refine (HA.out _).mono ?_
  all_goals rintro e w2 ⟨rfl,rfl⟩
  all_goals go_wp2_with fail
  all_goals go_ret
  all_goals exact ⟨rfl,rfl⟩
 ·have dh:((s.size:Int)==(d.size:Int))=false:=by simp; omega
  rw [decide_eq_false h]
  cases b;all_goals go_enter Tryz.func31,Tryz.ntmps31
  all_goals go_wp2_with fail
  all_goals refine (HA.out _).mono ?_
  all_goals rintro e w2 ⟨rfl,rfl⟩
  all_goals go_wp2_with fail
  all_goals go_ret
  all_goals exact ⟨rfl,rfl⟩
theorem spEcho_any (p:Int) (w:World) :
  Cw 44 #[iV p] w (.bool (echoP p)):=by
 by_cases h1:p=1
 ·have d1:(p==1)=true:=by simp [h1]
  have HV:Hid (echoP p=true):=by unfold Hid echoP; simp [h1]
  clear h1;go_enter Tryz.func44,Tryz.ntmps44
  go_wp2_with fail
  go_ret;exact ⟨ret_bool HV.out.symm,rfl⟩
 ·have d1:(p==1)=false:=by simp [h1]
  have HV:Hid (echoP p=(p==58)):=by
   unfold Hid echoP;rw [decide_eq_false h1,Bool.false_or];rfl
  go_enter Tryz.func44,Tryz.ntmps44
  go_wp2_with fail
  go_ret;exact ⟨ret_bool HV.out.symm,rfl⟩
theorem spProto_any (p:Int) (n:Nat) (w:World) (hn:n≤maxLen) :
  Cw 66 #[iV p,iV n] w (.bool (protoOk p n)):=by
 unfold maxLen at hn;have run:∀ (a b c d x y:Bool),(p==6)=a→(p==17)=b→(p==1)=c→(p==58)=d→((n:Int)==4)=x→((n:Int)==16)=y →
   Cw 66 #[iV p,iV n] w (.bool (a||b||(c&&x)||(d&&y))):=by
  intro a b c d x y h1 h2 h3 h4 h5 h6
  cases a
  ·cases b
   ·cases c
    ·cases d
     ·go_enter Tryz.func66,Tryz.ntmps66
      go_wp2_with fail
      go_ret;exact ⟨rfl,rfl⟩
     ·go_enter Tryz.func66,Tryz.ntmps66
      go_wp2_with fail
      go_ret;exact ⟨rfl,rfl⟩
    ·cases x
     ·cases d
      ·go_enter Tryz.func66,Tryz.ntmps66
       go_wp2_with fail
       go_ret;exact ⟨rfl,rfl⟩
      ·simp at h3 h4; omega
     ·go_enter Tryz.func66,Tryz.ntmps66
      go_wp2_with fail
      go_ret;exact ⟨rfl,rfl⟩
   ·go_enter Tryz.func66,Tryz.ntmps66
    go_wp2_with fail
    go_ret;exact ⟨rfl,rfl⟩
  ·go_enter Tryz.func66,Tryz.ntmps66
   go_wp2_with fail
   go_ret;exact ⟨rfl,rfl⟩
 have e:protoOk p n=((p==6)||(p==17)||((p==1)&&((n:Int)==4))||((p==58)&&((n:Int)==16))):=by
  unfold protoOk;have h4:((n:Int)==4)=decide (n=4):=by rw [Bool.eq_iff_iff]; simp; omega
  have h16:((n:Int)==16)=decide (n=16):=by rw [Bool.eq_iff_iff]; simp; omega
  rw [h4,h16];rfl
 rw [e];exact run _ _ _ _ _ _ rfl rfl rfl rfl rfl rfl
theorem specFlowRight_any (f:Fl) (w:World) (h1:f.src.size≤1048576) (h2:f.dst.size≤1048576) :
  Cb 43 #[fwC f] w (.bool (flowOk f)):=by
 have HB1:Hid (∀ W,Cw 31 #[.string f.src,.string f.dst] W (.bool (pairOk f.src f.dst))):=fun W=>spPair_any _ _ W (by unfold maxLen; omega) (by unfold maxLen; omega)
 have HB2:Hid (∀ W,Cw 66 #[iV f.proto,iV f.src.size] W (.bool (protoOk f.proto f.src.size))):=fun W=>spProto_any _ _ W (by unfold maxLen; omega)
 have HB3:Hid (∀ W,Cw 39 #[iV f.sp] W (.bool (isW f.sp))):=fun W=>specWordIs_any _ W
 have HB4:Hid (∀ W,Cw 39 #[iV f.dp] W (.bool (isW f.dp))):=fun W=>specWordIs_any _ W
 have HB5:Hid (∀ W,Cw 44 #[iV f.proto] W (.bool (echoP f.proto))):=fun W=>spEcho_any _ W
 have HA:Hid (flowOk f=(pairOk f.src f.dst&&protoOk f.proto f.src.size&&isW f.sp&&isW f.dp&&(!echoP f.proto||decide (f.sp=f.dp)))):=rfl;have dq:(f.sp==f.dp)=decide (f.sp=f.dp):=rfl;generalize decide (f.sp=f.dp)=q at *;generalize flowOk f=ok at *;generalize pairOk f.src f.dst=a1 at *;generalize protoOk f.proto f.src.size=a2 at *;generalize isW f.sp=a3 at *;generalize isW f.dp=a4 at *;generalize echoP f.proto=a5 at *;obtain ⟨proto,src,dst,sp,dp⟩:=f;unfold fwC;dsimp only at *;have HZ:Hid (Below w.z w (w.alloc (.cells (FlR proto src dst sp dp).toArray 43))):=bR.alloc lR _
 cases a1 with
 | false =>
  have HV:Hid (ok=false):=by unfold Hid; rw [HA.out]; rfl
  clear HA;go_enter Tryz.func43,Tryz.ntmps43
  go_wp2_with fail
  refine (HB1.out _).mono ?_;rintro e w2 ⟨rfl,rfl⟩;go_wp2_with fail
  go_ret;exact ⟨ret_bool HV.out.symm,HZ.out⟩
 | true =>
 cases a2 with
 | false =>
  have HV:Hid (ok=false):=by unfold Hid; rw [HA.out]; rfl
  clear HA;go_enter Tryz.func43,Tryz.ntmps43
  go_wp2_with fail
  refine (HB1.out _).mono ?_;rintro e w2 ⟨rfl,rfl⟩;go_wp2_with fail
  refine (HB2.out _).mono ?_;rintro e w2 ⟨rfl,rfl⟩;go_wp2_with fail
  go_ret;exact ⟨ret_bool HV.out.symm,HZ.out⟩
 | true =>
 cases a3 with
 | false =>
  have HV:Hid (ok=false):=by unfold Hid; rw [HA.out]; rfl
  clear HA;go_enter Tryz.func43,Tryz.ntmps43
  go_wp2_with fail
  refine (HB1.out _).mono ?_;rintro e w2 ⟨rfl,rfl⟩;go_wp2_with fail
  refine (HB2.out _).mono ?_;rintro e w2 ⟨rfl,rfl⟩;go_wp2_with fail
  refine (HB3.out _).mono ?_;rintro e w2 ⟨rfl,rfl⟩;go_wp2_with fail
  go_ret;exact ⟨ret_bool HV.out.symm,HZ.out⟩
 | true =>
 cases a4 with
 | false =>
  have HV:Hid (ok=false):=by unfold Hid; rw [HA.out]; rfl
  clear HA;go_enter Tryz.func43,Tryz.ntmps43
  go_wp2_with fail
  refine (HB1.out _).mono ?_;rintro e w2 ⟨rfl,rfl⟩;go_wp2_with fail
  refine (HB2.out _).mono ?_;rintro e w2 ⟨rfl,rfl⟩;go_wp2_with fail
  refine (HB3.out _).mono ?_;rintro e w2 ⟨rfl,rfl⟩;go_wp2_with fail
  refine (HB4.out _).mono ?_;rintro e w2 ⟨rfl,rfl⟩;go_wp2_with fail
  go_ret;exact ⟨ret_bool HV.out.symm,HZ.out⟩
 | true =>
 have HV:Hid (ok=(!a5||q)):=by unfold Hid; rw [HA.out]; rfl
 clear HA
 cases a5;all_goals go_enter Tryz.func43,Tryz.ntmps43
 all_goals go_wp2_with fail
 all_goals refine (HB1.out _).mono ?_
 all_goals rintro e w2 ⟨rfl,rfl⟩
 all_goals go_wp2_with fail
 all_goals refine (HB2.out _).mono ?_
 all_goals rintro e w2 ⟨rfl,rfl⟩
 all_goals go_wp2_with fail
 all_goals refine (HB3.out _).mono ?_
 all_goals rintro e w2 ⟨rfl,rfl⟩
 all_goals go_wp2_with fail
 all_goals refine (HB4.out _).mono ?_
 all_goals rintro e w2 ⟨rfl,rfl⟩
 all_goals go_wp2_with fail
 all_goals refine (HB5.out _).mono ?_
 all_goals rintro e w2 ⟨rfl,rfl⟩
 all_goals go_wp2_with fail
 all_goals go_ret
 all_goals exact ⟨ret_bool HV.out.symm,HZ.out⟩
end Go.Proofs.YtdkepkaflielhaaGreatDoor
