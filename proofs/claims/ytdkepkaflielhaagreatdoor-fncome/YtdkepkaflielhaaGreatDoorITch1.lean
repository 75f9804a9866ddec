import Derived.Test.YtdkepkaflielhaaGreatDoorSz
import Derived.Test.YtdkepkaflielhaaGreatDoorAb
import Derived.Test.YtdkepkaflielhaaGreatDoorTouchM
import Derived.Test.YtdkepkaflielhaaGreatDoorSTrack
import Derived.Test.YtdkepkaflielhaaGreatDoorITrack
import Derived.Test.YtdkepkaflielhaaGreatDoorIPieceR
set_option linter.unusedVariables false
set_option linter.unusedSimpArgs false
set_option maxRecDepth 100000
set_option maxHeartbeats 8000000
namespace Go.Proofs.YtdkepkaflielhaaGreatDoor
open Go.RowKit Go.PlainAid
theorem begins_any (flags:Int) (w:World) :
  Cw 167 #[iV flags] w (.bool (decide (bits .and .i64 flags 22=2))):=by
 by_cases h:bits .and .i64 flags 22=2
 ·go_enter Tryz.func167,Tryz.ntmps167
  go_wp2_with fail
  go_ret;exact ⟨ret_bool (by simp [h]),rfl⟩
 ·go_enter Tryz.func167,Tryz.ntmps167
  go_wp2_with fail
  go_ret;exact ⟨ret_bool (by simp [h]),rfl⟩
theorem new_byte {proto:Int} {inside:Bool} {flags:Int} (hf:isIn flags 0 255=true):trackNewV proto inside flags=if stillP proto=true then 3 else if proto=6 then (if bits .and .i64 flags 22=2 then (if inside=true then 1 else 2) else 0) else 0:=by
 unfold trackNewV;have e:=flags_22 hf;rw [if_neg (by rw [hf]; decide)];by_cases h1:stillP proto=true
 ·rw [if_pos h1,if_pos h1]
 ·rw [if_neg h1,if_neg h1];by_cases h2:proto=6
  ·rw [if_pos h2];by_cases h3:bits .and .i64 flags 22=2
   ·rw [if_pos h3,if_pos ⟨h2,e.mpr h3⟩]
   ·rw [if_neg h3,if_neg (fun h=>h3 (e.mp h.2))]
  ·rw [if_neg h2,if_neg (fun h=>h2 h.1)]
theorem new_range (proto:Int) (inside:Bool) (flags:Int):0≤trackNewV proto inside flags∧trackNewV proto inside flags≤3:=by
 unfold trackNewV;(repeat' split)<;>omega
theorem implNewB_any (proto:Int) (inside:Bool) (flags:Int) (w:World) (hf:isIn flags 0 255=true) :
  Cw 139 #[iV proto,.bool inside,iV flags] w (iV (trackNewV proto inside flags)):=by
 have HA:Hid (∀ W,Cw 143 #[iV proto] W (.bool (stillP proto))):=fun W=>implStill_any _ W
 have HC:Hid (∀ W,Cw 121 #[iV flags] W (.bool (isIn flags 0 255))):=fun W=>implByte_any _ W
 have HB:Hid (∀ W,Cw 167 #[iV flags] W (.bool (decide (bits .and .i64 flags 22=2)))):=fun W=>begins_any _ W
 have HV:Hid (trackNewV proto inside flags=if stillP proto=true then 3 else if proto=6 then (if bits .and .i64 flags 22=2 then (if inside=true then 1 else 2) else 0) else 0):=new_byte hf;rw [hf] at HC;generalize trackNewV proto inside flags=ans at *;clear hf
 cases hs:stillP proto with
 | true =>
  rw [hs] at HA;have HX:Hid (ans=3):=by unfold Hid; rw [HV.out,if_pos hs]
  clear HV hs;go_enter Tryz.func139,Tryz.ntmps139
  go_wp2_with fail
  refine (HA.out _).mono ?_;rintro e w1 ⟨rfl,rfl⟩;go_wp2_with fail
  go_ret;exact ⟨ret_int HX.out.symm,rfl⟩
 | false =>
  rw [hs,if_neg (by decide)] at HV;rw [hs] at HA;clear hs;by_cases hp:proto=6
  ·subst hp;rw [if_pos rfl] at HV;by_cases hb:bits .and .i64 flags 22=2
   ·rw [if_pos hb] at HV;rw [decide_eq_true hb] at HB;clear hb
    cases inside;all_goals
     simp at HV;go_enter Tryz.func139,Tryz.ntmps139
     go_wp2_with fail
     refine (HA.out _).mono ?_;rintro e w1 ⟨rfl,rfl⟩;go_wp2_with fail
     refine (HC.out _).mono ?_;rintro e w1 ⟨rfl,rfl⟩;go_wp2_with fail
     refine (HB.out _).mono ?_;rintro e w1 ⟨rfl,rfl⟩;go_wp2_with fail
     go_ret;exact ⟨ret_int HV.out.symm,rfl⟩
   ·rw [if_neg hb] at HV;rw [decide_eq_false hb] at HB;clear hb;go_enter Tryz.func139,Tryz.ntmps139
    go_wp2_with fail
    refine (HA.out _).mono ?_;rintro e w1 ⟨rfl,rfl⟩;go_wp2_with fail
    refine (HC.out _).mono ?_;rintro e w1 ⟨rfl,rfl⟩;go_wp2_with fail
    refine (HB.out _).mono ?_;rintro e w1 ⟨rfl,rfl⟩;go_wp2_with fail
    go_ret;exact ⟨ret_int HV.out.symm,rfl⟩
  ·rw [if_neg hp] at HV;go_enter Tryz.func139,Tryz.ntmps139
   go_wp2_with fail
   refine (HA.out _).mono ?_;rintro e w1 ⟨rfl,rfl⟩;go_wp2_with fail
   go_ret;exact ⟨ret_int HV.out.symm,rfl⟩
theorem touchRight_any (t:Tc) (w:World) (hs1:t.addr.size≤1048576) (hs2:t.peer.size≤1048576) :
  Cb 105 #[tcC t] w (.bool (touchOk t)):=by
 obtain ⟨proto,inside,addr,port,peer,peerPort,flags⟩:=t;dsimp only at hs1 hs2;have HZ:Hid (Below w.z w (w.alloc (.cells (TcR proto inside addr port peer peerPort flags).toArray 89))):=bR.alloc lR _;have HT:Hid (HoldsL (w.alloc (.cells (TcR proto inside addr port peer peerPort flags).toArray 89)) w.z (TcR proto inside addr port peer peerPort flags)):=HoldsL.new w (TcR proto inside addr port peer peerPort flags) 89;have H1:Hid (∀ W,Cw 136 #[iV proto] W (.bool (protoB proto))):=fun W=>isBound_any _ W
 have H2:Hid (∀ W,Cw 129 #[.string addr] W (.bool (addrOk addr))):=fun W=>implAddrRight_any addr W
 have H3:Hid (∀ W,Cw 122 #[iV port] W (.bool (isW port))):=fun W=>implWordIs_any _ W
 have H4:Hid (∀ W,Cw 122 #[iV peerPort] W (.bool (isW peerPort))):=fun W=>implWordIs_any _ W
 have H5:Hid (∀ W,Cw 121 #[iV flags] W (.bool (isIn flags 0 255))):=fun W=>implByte_any _ W
 have HV:Hid (touchOk ⟨proto,inside,addr,port,peer,peerPort,flags⟩=(protoB proto&&addrOk addr&&(inside||decide (addr.size=4))&&isW port&&decide (peer.size=4)&&isW peerPort&&isIn flags 0 255)):=rfl;generalize touchOk ⟨proto,inside,addr,port,peer,peerPort,flags⟩=ans at *;generalize protoB proto=b1 at *;generalize addrOk addr=b2 at *;generalize isW port=b3 at *;generalize isW peerPort=b4 at *;generalize isIn flags 0 255=b5 at *;unfold tcC;go_enter Tryz.func105,Tryz.ntmps105
 go_upto_region 1 with fail
 generalize (w.alloc (.cells (TcR proto inside addr port peer peerPort flags).toArray 89))=W at *;obtain ⟨k0,k1,k2,k3,k4,k5,k6⟩:=HT.out.c7;clear HT;go_wp2_with fail
 refine (H1.out _).mono ?_;rintro e W ⟨rfl,rfl⟩
 cases b1 with
 | false =>
  go_wp2_with fail
  go_ret;exact ⟨ret_bool (by rw [HV.out]; rfl),HZ.out⟩
 | true =>
 go_wp2_with fail
 refine (H2.out _).mono ?_;rintro e W ⟨rfl,rfl⟩
 cases b2 with
 | false =>
  go_wp2_with fail
  go_ret;exact ⟨ret_bool (by rw [HV.out]; rfl),HZ.out⟩
 | true =>
 by_cases hi:inside=false∧¬ addr.size=4
 ·obtain ⟨rfl,ha⟩:=hi;have haI:¬ (addr.size:Int)=4:=by omega
  go_wp2_with fail
  go_ret;exact ⟨ret_bool (by rw [HV.out,decide_eq_false ha]; rfl),HZ.out⟩
 have HI:Hid ((inside||decide (addr.size=4))=true):=by
  unfold Hid
  cases inside with
  | true=>rfl
  | false=>simp at hi; simp [hi]
 have hsp:inside=true∨(inside=false∧addr.size=4):=by
  cases inside with
  | true=>exact .inl rfl
  | false=>simp at hi; exact .inr ⟨rfl,hi⟩
 clear hi;have HV2:Hid (ans=(b3&&decide (peer.size=4)&&b4&&b5)):=by unfold Hid; rw [HV.out,HI.out]; rfl
 clear HV HI;rcases hsp with rfl | ⟨rfl,ha⟩
 all_goals
  try have haI:(addr.size:Int)=4:=by omega
  go_wp2_with fail
  refine (H3.out _).mono ?_;rintro e W ⟨rfl,rfl⟩
  cases b3 with
  | false =>
   go_wp2_with fail
   go_ret;exact ⟨ret_bool (by rw [HV2.out]; rfl),HZ.out⟩
  | true =>
  go_wp2_with fail
  refine (H4.out _).mono ?_;rintro e W ⟨rfl,rfl⟩
  cases b4 with
  | false =>
   go_wp2_with fail
   go_ret;exact ⟨ret_bool (by rw [HV2.out]; simp),HZ.out⟩
  | true =>
  by_cases hp:peer.size=4
  ·have HX:Hid (ans=b5):=by unfold Hid; rw [HV2.out,decide_eq_true hp]; rfl
   have hpI:(peer.size:Int)=4:=by omega
   go_wp2_with fail
   refine (H5.out _).mono ?_;rintro e W ⟨rfl,rfl⟩;go_wp2_with fail
   go_ret;exact ⟨ret_bool HX.out.symm,HZ.out⟩
  ·have HX:Hid (ans=false):=by unfold Hid; rw [HV2.out,decide_eq_false hp]; rfl
   have hpI:¬ (peer.size:Int)=4:=by omega
   go_wp2_with fail
   go_ret;exact ⟨ret_bool HX.out.symm,HZ.out⟩
end Go.Proofs.YtdkepkaflielhaaGreatDoor
