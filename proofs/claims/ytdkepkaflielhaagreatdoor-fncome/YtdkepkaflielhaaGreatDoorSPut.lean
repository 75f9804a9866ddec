import Derived.Test.YtdkepkaflielhaaGreatDoorSz
import Derived.Test.YtdkepkaflielhaaGreatDoorAb
import Derived.Test.YtdkepkaflielhaaGreatDoorSPseudo
import Derived.Test.YtdkepkaflielhaaGreatDoorSFlowOf
import Derived.RegionTactic
import Derived.Deep.RegionWith
import Derived.Deep.DeepCutAuto
set_option linter.unusedVariables false
set_option linter.unusedSimpArgs false
set_option maxRecDepth 100000
set_option maxHeartbeats 8000000
namespace Go.Proofs.YtdkepkaflielhaaGreatDoor
open Go.RowKit Go.PlainAid
theorem spCheck_any (p:Int) (w:World) :
  Cw 74 #[iV p] w (iV (checkP p:Nat)):=by
 by_cases h1:p=6
 ·subst h1;go_enter Tryz.func74,Tryz.ntmps74
  go_wp2_with fail
  go_ret;exact ⟨rfl,rfl⟩
 ·have d1:(p==6)=false:=by simp [h1]
  by_cases h2:p=17
  ·subst h2;go_enter Tryz.func74,Tryz.ntmps74
   go_wp2_with fail
   go_ret;exact ⟨rfl,rfl⟩
  ·have d2:(p==17)=false:=by simp [h2]
   have HV:Hid (checkP p=2):=by unfold Hid checkP; rw [if_neg h1,if_neg h2]
   generalize checkP p=ans at *;go_enter Tryz.func74,Tryz.ntmps74
   go_wp2_with fail
   go_ret;exact ⟨ret_int (by rw [HV.out]; rfl),rfl⟩
theorem spPut_any (s:ByteArray) (k:Nat) (t:ByteArray) (w:World) (h:k+t.size≤s.size) (hs:s.size≤100000) :
  Cb 72 #[.string s,iV k,.string t] w (.string (putV s k t)):=by
 have HV:Hid (putV s k t=s.extract 0 k++t++s.extract (k+t.size) s.size):=rfl;generalize putV s k t=ans at *;have L1:∀ W,(Instr.slice 9 (.string s) none (some (iV k)) none).run Tryz.prog W=.ok (.string (s.extract 0 k)) W:=fun W=>by
  rw [run_slice_string_h (P:=Tryz.prog) (t:=9) (s:=s) (w:=W) (ht:=Tryz.underlying9) .i64 (k:Int) (by omega) (by omega),show ((k:Int)).toNat=k by omega]
 have L2:∀ W,(Instr.slice 9 (.string s) (some (iV ((k:Int)+t.size))) none none).run Tryz.prog W=.ok (.string (s.extract (k+t.size) s.size)) W:=fun W=>by
  rw [run_slice_string_l (P:=Tryz.prog) (t:=9) (s:=s) (w:=W) (ht:=Tryz.underlying9) .i64 ((k:Int)+t.size) (by omega) (by omega),show ((k:Int)+t.size).toNat=k+t.size by omega]
 have z1:(s.extract 0 k).size=k:=by rw [ByteArray.size_extract]; omega
 have z2:(s.extract (k+t.size) s.size).size=s.size-(k+t.size):=by rw [ByteArray.size_extract]; omega
 generalize s.extract 0 k=u1 at *;generalize s.extract (k+t.size) s.size=u2 at *;have n1:¬ 9223372036854775807 < u1.size+t.size:=by omega
 have n2:¬ 9223372036854775807 < u1.size+t.size+u2.size:=by omega
 have hw:IntKind.i64.wrap ((k:Int)+t.size)=(k:Int)+t.size:=by rw [IntKind.wrap_i64]; omega
 have HZ1:Hid (u1.size=k):=z1;have HZ2:Hid (u2.size=s.size-(k+t.size)):=z2;clear z1 z2;go_enter Tryz.func72,Tryz.ntmps72
 go_wp2_with fail
 go_region
 all_goals go_wp2_with fail
 all_goals go_ret
 all_goals exact ⟨by rw [HV.out]; rfl,bR.drew⟩
theorem str_slice5 (t:ByteArray) (l h:Nat) (W:World) (h1:l≤h) (h2:h≤t.size):(Instr.slice 9 (.string t) (some (iV l)) (some (iV h)) none).run Tryz.prog W=.ok (.string (t.extract l h)) W:=by
 have:=run_slice_string (P:=Tryz.prog) W 9 t .i64 .i64 (l:Int) (h:Int) Tryz.underlying9 (by omega) (by omega) (by omega);simpa using this
theorem spPart_any (f:Fl) (t:ByteArray) (w:World) (hs:f.src.size≤16) (hd:f.dst.size≤16) (hp:0≤f.proto∧f.proto≤255) (ht:t.size≤65535) (h8:8≤t.size) :
  Cb 76 #[fwC f,.string t] w (.string (partV f t)):=by
 have HB1:Hid (∀ W,Cw 44 #[iV f.proto] W (.bool (echoP f.proto))):=fun W=>spEcho_any _ W
 have HB2:Hid (∀ W,Cb 71 #[.string f.src,.string f.dst,iV f.proto,iV t.size] W (.string (pseudoV f.src f.dst f.proto t.size))):=fun W=>spPseudo_any _ _ _ _ W hs hd hp ht
 have HV:Hid (partV f t=(if echoP f.proto=true then t.extract 0 2++t.extract 4 6 else t.extract 0 4)++pseudoV f.src f.dst f.proto t.size):=rfl;have hz:=pseudoV_size f.src f.dst f.proto t.size hs hd;have L1:∀ W,(Instr.slice 9 (.string t) none (some (iV 4)) none).run Tryz.prog W=.ok (.string (t.extract 0 4)) W:=fun W=>run_slice_string_h (P:=Tryz.prog) (t:=9) (s:=t) (w:=W) (ht:=Tryz.underlying9) .i64 (4:Int) (by omega) (by omega)
 have L2:∀ W,(Instr.slice 9 (.string t) none (some (iV 2)) none).run Tryz.prog W=.ok (.string (t.extract 0 2)) W:=fun W=>run_slice_string_h (P:=Tryz.prog) (t:=9) (s:=t) (w:=W) (ht:=Tryz.underlying9) .i64 (2:Int) (by omega) (by omega)
 have L3:∀ W,(Instr.slice 9 (.string t) (some (iV 4)) (some (iV 6)) none).run Tryz.prog W=.ok (.string (t.extract 4 6)) W:=fun W=>str_slice5 t 4 6 W (by omega) (by omega)
 have z1:(t.extract 0 4).size=4:=by rw [ByteArray.size_extract]; omega
 have z2:(t.extract 0 2).size=2:=by rw [ByteArray.size_extract]; omega
 have z3:(t.extract 4 6).size=2:=by rw [ByteArray.size_extract]; omega
 generalize t.extract 0 4=u1 at *;generalize t.extract 0 2=u2 at *;generalize t.extract 4 6=u3 at *;generalize pseudoV f.src f.dst f.proto t.size=ps at *;generalize partV f t=ans at *;have n1:¬ 9223372036854775807 < u2.size+u3.size:=by omega
 have n2:¬ 9223372036854775807 < u1.size+ps.size:=by omega
 have n3:¬ 9223372036854775807 < u2.size+u3.size+ps.size:=by omega
 have n4:¬ 9223372036854775807 < (u2++u3).size+ps.size:=by rw [ByteArray.size_append]; omega
 have KF:Hid (BoxG (w.alloc (.cells (FlV f).toArray 43)) w.z f):=BoxG.new w f;have HZ:Hid (Below w.z w (w.alloc (.cells (FlV f).toArray 43))):=bR.alloc lR _;generalize echoP f.proto=b at *;obtain ⟨proto,src,dst,sp,dp⟩:=f;unfold fwC;dsimp only at *
 cases b with
 | false =>
  replace HV:Hid (ans=u1++ps):=HV.out;go_enter Tryz.func76,Tryz.ntmps76
  go_wp2_with fail
  refine (HB1.out _).mono ?_;rintro e w2 ⟨rfl,rfl⟩;go_wp2_with fail
  refine (HB2.out _).mono ?_;rintro e w3 ⟨rfl,q3⟩;have G3:Hid _:=HZ.out.trans (q3.mono HZ.out.size);clear q3;go_wp2_with fail
  go_ret;exact ⟨by rw [HV.out]; rfl,G3.out⟩
 | true =>
  replace HV:Hid (ans=u2++u3++ps):=HV.out;go_enter Tryz.func76,Tryz.ntmps76
  go_wp2_with fail
  refine (HB1.out _).mono ?_;rintro e w2 ⟨rfl,rfl⟩;go_wp2_with fail
  go_region
  all_goals go_wp2_with fail
  all_goals refine (HB2.out _).mono ?_
  all_goals rintro e w3 ⟨rfl,q3⟩
  all_goals have G3:Hid (Below w.z w w3):=HZ.out.drew.trans (q3.mono HZ.out.size)
  all_goals clear q3
  all_goals go_wp2_with fail
  all_goals go_ret
  all_goals exact ⟨by rw [HV.out]; rfl,G3.out⟩
end Go.Proofs.YtdkepkaflielhaaGreatDoor
