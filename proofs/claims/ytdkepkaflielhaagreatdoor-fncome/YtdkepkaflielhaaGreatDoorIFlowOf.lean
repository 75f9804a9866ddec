import Derived.Test.YtdkepkaflielhaaGreatDoorSz
import Derived.Test.YtdkepkaflielhaaGreatDoorAb
import Derived.Test.YtdkepkaflielhaaGreatDoorIFlow
import Derived.Test.YtdkepkaflielhaaGreatDoorSFlowOf
import Derived.Test.YtdkepkaflielhaaGreatDoorWords
import Derived.Test.YtdkepkaflielhaaGreatDoorEmbed
set_option linter.unusedVariables false
set_option linter.unusedSimpArgs false
set_option maxRecDepth 100000
set_option maxHeartbeats 8000000
namespace Go.Proofs.YtdkepkaflielhaaGreatDoor
open Go.RowKit Go.PlainAid
theorem shortP_six (t:ByteArray):shortP 6 t=(decide (t.size < 20)||(decide (bt t 12 / 16 < 5)||decide ((t.size:Int) < 4*(bt t 12 / 16)))):=by
 unfold shortP;rw [Bool.eq_iff_iff];simp only [decide_true,Bool.true_and,Bool.or_eq_true,decide_eq_true_eq];constructor
 ·rintro (((h | h) | h) | h)
  ·exact .inl h
  ·exact .inr (.inl h)
  ·exact .inr (.inr h)
  ·exact .inl (by omega)
 ·rintro (h | h | h)
  ·exact .inl (.inl (.inl h))
  ·exact .inl (.inl (.inr h))
  ·exact .inl (.inr h)
theorem shortP_not (p:Int) (t:ByteArray) (h:p≠6):shortP p t=decide (t.size < 8):=by
 unfold shortP;rw [decide_eq_false h]; rfl
theorem ipHeader_any (p:Int) (t:ByteArray) (w:World) (ht:t.size≤1048576) :
  Cw 99 #[iV p,.string t] w (.bool (!shortP p t)):=by
 by_cases h6:p=6
 ·subst h6;rw [shortP_six];by_cases h1:t.size < 20
  ·rw [decide_eq_true h1];go_enter Tryz.func99,Tryz.ntmps99
   go_wp2_with fail
   go_ret;exact ⟨rfl,rfl⟩
  ·rw [decide_eq_false h1];have hb:=get_bt t;have b12:=bt_isByte t 12;by_cases h2:bt t 12 / 16 < 5
   ·rw [decide_eq_true h2];have d2:decide ((20:Int)≤4*(bt t 12 / 16))=false:=by simp; omega
    go_enter Tryz.func99,Tryz.ntmps99
    go_wp2_with fail
    go_ret;exact ⟨rfl,rfl⟩
   ·rw [decide_eq_false h2];have d2:decide ((20:Int)≤4*(bt t 12 / 16))=true:=by simp; omega
    have HQ:Hid ((!decide ((t.size:Int) < 4*(bt t 12 / 16)))=decide (4*(bt t 12 / 16)≤(t.size:Int))):=by
     unfold Hid; rw [Bool.eq_iff_iff]; simp
    go_enter Tryz.func99,Tryz.ntmps99
    go_wp2_with fail
    go_ret;exact ⟨ret_bool HQ.out.symm,rfl⟩
 ·rw [shortP_not p t h6];have d6:(p != 6)=true:=by simp [h6]
  have HQ:Hid ((!decide (t.size < 8))=decide ((8:Int)≤(t.size:Int))):=by
   unfold Hid; rw [Bool.eq_iff_iff]; simp; omega
  clear h6;go_enter Tryz.func99,Tryz.ntmps99
  go_wp2_with fail
  go_ret;exact ⟨ret_bool HQ.out.symm,rfl⟩
theorem ipEchoBytes_any (p:Int) (w:World) (hp:echoP p=true) :
  Cw 130 #[iV p] w (.tuple #[.int .u8 (askP p),.int .u8 (ansP p)]):=by
 have h:p=1∨p=58:=by unfold echoP at hp; simpa using hp
 clear hp;rcases h with rfl | rfl
 ·rw [show askP 1=8 from rfl,show ansP 1=0 from rfl];go_enter Tryz.func130,Tryz.ntmps130
  go_wp2_with fail
  go_ret2
  exact ⟨rfl,rfl⟩
 ·rw [show askP 58=128 from rfl,show ansP 58=129 from rfl];go_enter Tryz.func130,Tryz.ntmps130
  go_wp2_with fail
  go_ret2
  exact ⟨rfl,rfl⟩
def beginsV (p:Int) (t:ByteArray):Bool:=(decide (bt t 0=askP p)||decide (bt t 0=ansP p))&&decide (bt t 1=0)
theorem ipBegins_any (p:Int) (t:ByteArray) (w:World) (hp:echoP p=true) (h8:8≤t.size) (ht:t.size≤1048576) :
  Cw 101 #[iV p,.string t] w (.bool (beginsV p t)):=by
 have HE:Hid (∀ W,Cw 130 #[iV p] W (.tuple #[.int .u8 (askP p),.int .u8 (ansP p)])):=fun W=>ipEchoBytes_any p W hp
 have hb:=get_bt t;have b0:=bt_isByte t 0;have b1:=bt_isByte t 1;have q0:(bt t 0==askP p)=decide (bt t 0=askP p):=rfl;have q1:(bt t 0==ansP p)=decide (bt t 0=ansP p):=rfl;have q2:(bt t 1==0)=decide (bt t 1=0):=rfl;unfold beginsV;generalize decide (bt t 0=askP p)=c0 at *;generalize decide (bt t 0=ansP p)=c1 at *;generalize decide (bt t 1=0)=c2 at *;generalize askP p=a at *;generalize ansP p=b at *;have hun:undef=Value.tuple #[]:=rfl
 cases c0
 ·cases c1
  ·go_enter Tryz.func101,Tryz.ntmps101
   go_wp2_with fail
   refine (HE.out _).mono ?_;rintro e w2 ⟨rfl,rfl⟩;go_wp2_with fail
   go_ret;exact ⟨rfl,rfl⟩
  ·go_enter Tryz.func101,Tryz.ntmps101
   go_wp2_with fail
   refine (HE.out _).mono ?_;rintro e w2 ⟨rfl,rfl⟩;go_wp2_with fail
   go_ret;exact ⟨rfl,rfl⟩
 ·go_enter Tryz.func101,Tryz.ntmps101
  go_wp2_with fail
  refine (HE.out _).mono ?_;rintro e w2 ⟨rfl,rfl⟩;go_wp2_with fail
  go_ret;exact ⟨rfl,rfl⟩
theorem ipPorts_any (p:Int) (t:ByteArray) (w:World) (h8:8≤t.size) (ht:t.size≤1048576) :
  Cw 102 #[iV p,.string t] w (.tuple #[iV (if echoP p=true then wordN (bt t) 4 else wordN (bt t) 0),iV (if echoP p=true then wordN (bt t) 4 else wordN (bt t) 2)]):=by
 have HB:Hid (∀ W,Cw 100 #[iV p] W (.bool (echoP p))):=fun W=>implEcho_any _ W
 have HW:Hid (∀ k:Nat,k < 8→∀ W,Cw 131 #[.string t,iV k] W (iV (wordN (bt t) k))):=fun k hk W=>wordFromS_any t k W (by omega) (by unfold maxLen; omega)
 cases h:echoP p with
 | true =>
  rw [h] at HB;rw [if_pos rfl,if_pos rfl];go_enter Tryz.func102,Tryz.ntmps102
  go_wp2_with fail
  refine (HB.out _).mono ?_;rintro e w2 ⟨rfl,rfl⟩;go_wp2_with fail
  refine (HW.out 4 (by omega) _).mono ?_;rintro e w2 ⟨rfl,rfl⟩;go_wp2_with fail
  go_ret2
  exact ⟨rfl,rfl⟩
 | false =>
  rw [h] at HB;rw [if_neg (by decide),if_neg (by decide)];go_enter Tryz.func102,Tryz.ntmps102
  go_wp2_with fail
  refine (HB.out _).mono ?_;rintro e w2 ⟨rfl,rfl⟩;go_wp2_with fail
  refine (HW.out 0 (by omega) _).mono ?_;rintro e w2 ⟨rfl,rfl⟩;go_wp2_with fail
  refine (HW.out 2 (by omega) _).mono ?_;rintro e w2 ⟨rfl,rfl⟩;go_wp2_with fail
  go_ret2
  exact ⟨rfl,rfl⟩
theorem bytesOf_self (s:ByteArray):bytesOf s.size (bt s)=s:=by
 refine ba_ext (bytesOf_size _ _) fun i hi=>?_
 rw [bytesOf_size] at hi;exact bytesOf_bt hi (bt_nonneg s i) (bt_le s i)
theorem implFlowOf_any (s d:ByteArray) (p:Int) (t:ByteArray) (w:World) (hs:s.size≤1048576) (hd:d.size≤1048576) (ht:t.size≤1048576) :
  Cb 58 #[.string s,.string d,iV p,.string t] w (fwCO (flowOfV s d p t) (flowCode s d p t)):=by
 have HN:Hid (∀ c:Int,flowCode s d p t=c→c≠0→fwCO (flowOfV s d p t) (flowCode s d p t)=.agg #[iV 0,eS,eS,iV 0,iV 0,iV c]):=fun c h hc=>by unfold flowOfV; rw [h,if_neg hc]; rfl
 have HY:Hid (flowCode s d p t=0→ofCode s.size p t=0→fwCO (flowOfV s d p t) (flowCode s d p t)=.agg #[iV p,.string s,.string d,iV (if echoP p=true then wordN (bt t) 4 else wordN (bt t) 0),iV (if echoP p=true then wordN (bt t) 4 else wordN (bt t) 2),iV 0]):=fun h h2=>by
  unfold flowOfV; rw [h,if_pos rfl]; unfold ofFl; rw [if_pos h2]; split<;>rfl
 have HD:Hid (flowCode s d p t=if 20000 < t.size∨20000 < s.size∨20000 < d.size then 2 else if pairOk s d=false then 1 else ofCode s.size p t):=rfl;have HA1:Hid (∀ W,Cw 81 #[.string s] W (.bool (decide (20000 < s.size)))):=fun W=>implLong_any s W
 have HA2:Hid (∀ W,Cw 81 #[.string d] W (.bool (decide (20000 < d.size)))):=fun W=>implLong_any d W
 have HA3:Hid (∀ W,Cw 81 #[.string t] W (.bool (decide (20000 < t.size)))):=fun W=>implLong_any t W
 have HB:Hid (∀ W,Cw 97 #[.string s,.string d] W (.bool (pairOk s d))):=fun W=>implPair_any _ _ W (by unfold maxLen; omega) (by unfold maxLen; omega)
 have HC:Hid (∀ W,Cw 98 #[iV p,.string s] W (.bool (protoOk p s.size))):=fun W=>implCarried_any _ _ W (by unfold maxLen; omega)
 have HE:Hid (∀ W,Cw 99 #[iV p,.string t] W (.bool (!shortP p t))):=fun W=>ipHeader_any _ _ W ht
 have HF:Hid (∀ W,Cw 100 #[iV p] W (.bool (echoP p))):=fun W=>implEcho_any _ W
 generalize fwCO (flowOfV s d p t) (flowCode s d p t)=ans at *;generalize flowCode s d p t=code at *;by_cases ls:20000 < s.size
 ·have HV:Hid (ans=.agg #[iV 0,eS,eS,iV 0,iV 0,iV 2]):=HN.out 2 (by rw [HD.out,if_pos (Or.inr (Or.inl ls))]) (by decide);rw [decide_eq_true ls] at HA1;clear HN HY HD;go_enter Tryz.func58,Tryz.ntmps58
  go_wp2_with fail
  refine (HA1.out _).mono ?_;rintro e w2 ⟨rfl,rfl⟩;go_wp2_with fail
  refine bodyPost_ret (v:=.agg #[iV 0,eS,eS,iV 0,iV 0,iV 2]) (by simp [results,Tryz.results58,go_sem]) rfl ⟨by rw [HV.out],?_⟩;exact bR.alloc lR _
 rw [decide_eq_false ls] at HA1;by_cases ld:20000 < d.size
 ·have HV:Hid (ans=.agg #[iV 0,eS,eS,iV 0,iV 0,iV 2]):=HN.out 2 (by rw [HD.out,if_pos (Or.inr (Or.inr ld))]) (by decide);rw [decide_eq_true ld] at HA2;clear HN HY HD;go_enter Tryz.func58,Tryz.ntmps58
  go_wp2_with fail
  refine (HA1.out _).mono ?_;rintro e w2 ⟨rfl,rfl⟩;go_wp2_with fail
  refine (HA2.out _).mono ?_;rintro e w2 ⟨rfl,rfl⟩;go_wp2_with fail
  refine bodyPost_ret (v:=.agg #[iV 0,eS,eS,iV 0,iV 0,iV 2]) (by simp [results,Tryz.results58,go_sem]) rfl ⟨by rw [HV.out],?_⟩;exact bR.alloc lR _
 rw [decide_eq_false ld] at HA2;by_cases lt:20000 < t.size
 ·have HV:Hid (ans=.agg #[iV 0,eS,eS,iV 0,iV 0,iV 2]):=HN.out 2 (by rw [HD.out,if_pos (Or.inl lt)]) (by decide);rw [decide_eq_true lt] at HA3;clear HN HY HD;go_enter Tryz.func58,Tryz.ntmps58
  go_wp2_with fail
  refine (HA1.out _).mono ?_;rintro e w2 ⟨rfl,rfl⟩;go_wp2_with fail
  refine (HA2.out _).mono ?_;rintro e w2 ⟨rfl,rfl⟩;go_wp2_with fail
  refine (HA3.out _).mono ?_;rintro e w2 ⟨rfl,rfl⟩;go_wp2_with fail
  refine bodyPost_ret (v:=.agg #[iV 0,eS,eS,iV 0,iV 0,iV 2]) (by simp [results,Tryz.results58,go_sem]) rfl ⟨by rw [HV.out],?_⟩;exact bR.alloc lR _
 rw [decide_eq_false lt] at HA3;replace HD:Hid (code=if pairOk s d=false then 1 else ofCode s.size p t):=by unfold Hid; rw [HD.out,if_neg (by omega)]
 cases a1:pairOk s d with
 | false =>
  have HV:Hid (ans=.agg #[iV 0,eS,eS,iV 0,iV 0,iV 1]):=HN.out 1 (by rw [HD.out,if_pos a1]) (by decide);rw [a1] at HB;clear HN HY HD a1;go_enter Tryz.func58,Tryz.ntmps58
  go_wp2_with fail
  refine (HA1.out _).mono ?_;rintro e w2 ⟨rfl,rfl⟩;go_wp2_with fail
  refine (HA2.out _).mono ?_;rintro e w2 ⟨rfl,rfl⟩;go_wp2_with fail
  refine (HA3.out _).mono ?_;rintro e w2 ⟨rfl,rfl⟩;go_wp2_with fail
  refine (HB.out _).mono ?_;rintro e w2 ⟨rfl,rfl⟩;go_wp2_with fail
  refine bodyPost_ret (v:=.agg #[iV 0,eS,eS,iV 0,iV 0,iV 1]) (by simp [results,Tryz.results58,go_sem]) rfl ⟨by rw [HV.out],?_⟩;exact bR.alloc lR _
 | true =>
 replace HD:Hid (code=ofCode s.size p t):=by unfold Hid; rw [HD.out,if_neg (by rw [a1]; decide)]
 rw [a1] at HB;clear a1
 cases a2:protoOk p s.size with
 | false =>
  have HD2:Hid (ofCode s.size p t=11):=by unfold Hid ofCode; rw [if_pos a2]
  have HV:Hid (ans=.agg #[iV 0,eS,eS,iV 0,iV 0,iV 11]):=HN.out 11 (by rw [HD.out,HD2.out]) (by decide);rw [a2] at HC;clear HN HY HD HD2 a2;go_enter Tryz.func58,Tryz.ntmps58
  go_wp2_with fail
  refine (HA1.out _).mono ?_;rintro e w2 ⟨rfl,rfl⟩;go_wp2_with fail
  refine (HA2.out _).mono ?_;rintro e w2 ⟨rfl,rfl⟩;go_wp2_with fail
  refine (HA3.out _).mono ?_;rintro e w2 ⟨rfl,rfl⟩;go_wp2_with fail
  refine (HB.out _).mono ?_;rintro e w2 ⟨rfl,rfl⟩;go_wp2_with fail
  refine (HC.out _).mono ?_;rintro e w2 ⟨rfl,rfl⟩;go_wp2_with fail
  refine bodyPost_ret (v:=.agg #[iV 0,eS,eS,iV 0,iV 0,iV 11]) (by simp [results,Tryz.results58,go_sem]) rfl ⟨by rw [HV.out],?_⟩;exact bR.alloc lR _
 | true =>
 have HO:Hid (ofCode s.size p t=if shortP p t=true then 4 else if echoP p=true then (if (bt t 0≠askP p∧bt t 0≠ansP p)∨bt t 1≠0 then 11 else 0) else 0):=by unfold Hid ofCode; rw [if_neg (by rw [a2]; decide)]
 rw [a2] at HC;clear a2
 cases a3:shortP p t with
 | true =>
  have HD2:Hid (ofCode s.size p t=4):=by unfold Hid; rw [HO.out,if_pos a3]
  have HV:Hid (ans=.agg #[iV 0,eS,eS,iV 0,iV 0,iV 4]):=HN.out 4 (by rw [HD.out,HD2.out]) (by decide);rw [a3] at HE;clear HN HY HD HD2 HO a3;go_enter Tryz.func58,Tryz.ntmps58
  go_wp2_with fail
  refine (HA1.out _).mono ?_;rintro e w2 ⟨rfl,rfl⟩;go_wp2_with fail
  refine (HA2.out _).mono ?_;rintro e w2 ⟨rfl,rfl⟩;go_wp2_with fail
  refine (HA3.out _).mono ?_;rintro e w2 ⟨rfl,rfl⟩;go_wp2_with fail
  refine (HB.out _).mono ?_;rintro e w2 ⟨rfl,rfl⟩;go_wp2_with fail
  refine (HC.out _).mono ?_;rintro e w2 ⟨rfl,rfl⟩;go_wp2_with fail
  refine (HE.out _).mono ?_;rintro e w2 ⟨rfl,rfl⟩;go_wp2_with fail
  refine bodyPost_ret (v:=.agg #[iV 0,eS,eS,iV 0,iV 0,iV 4]) (by simp [results,Tryz.results58,go_sem]) rfl ⟨by rw [HV.out],?_⟩;exact bR.alloc lR _
 | false =>
 replace HO:Hid (ofCode s.size p t=if echoP p=true then (if (bt t 0≠askP p∧bt t 0≠ansP p)∨bt t 1≠0 then 11 else 0) else 0):=by unfold Hid; rw [HO.out,if_neg (by rw [a3]; decide)]
 have h8:8≤t.size:=by
  unfold shortP at a3; rw [Bool.or_eq_false_iff,decide_eq_false_iff_not] at a3; omega
 rw [a3] at HE;clear a3;have HP:Hid (∀ W,Cw 102 #[iV p,.string t] W (.tuple #[iV (if echoP p=true then wordN (bt t) 4 else wordN (bt t) 0),iV (if echoP p=true then wordN (bt t) 4 else wordN (bt t) 2)])):=fun W=>ipPorts_any p t W h8 ht
 have HG:Hid (echoP p=true→∀ W,Cw 101 #[iV p,.string t] W (.bool (beginsV p t))):=fun h W=>ipBegins_any p t W h h8 ht
 by_cases hbad:echoP p=true∧beginsV p t=false
 ·obtain ⟨a4,a5⟩:=hbad;have HD2:Hid (ofCode s.size p t=11):=by
   unfold Hid; rw [HO.out,if_pos a4,if_pos];unfold beginsV at a5;rw [Bool.and_eq_false_iff,Bool.or_eq_false_iff] at a5;simpa using a5
  have HG2:Hid _:=HG.out a4;rw [a5] at HG2;have HV:Hid (ans=.agg #[iV 0,eS,eS,iV 0,iV 0,iV 11]):=HN.out 11 (by rw [HD.out,HD2.out]) (by decide);rw [a4] at HF;clear HN HY HD HD2 HO HG HP a4 a5;go_enter Tryz.func58,Tryz.ntmps58
  go_wp2_with fail
  refine (HA1.out _).mono ?_;rintro e w2 ⟨rfl,rfl⟩;go_wp2_with fail
  refine (HA2.out _).mono ?_;rintro e w2 ⟨rfl,rfl⟩;go_wp2_with fail
  refine (HA3.out _).mono ?_;rintro e w2 ⟨rfl,rfl⟩;go_wp2_with fail
  refine (HB.out _).mono ?_;rintro e w2 ⟨rfl,rfl⟩;go_wp2_with fail
  refine (HC.out _).mono ?_;rintro e w2 ⟨rfl,rfl⟩;go_wp2_with fail
  refine (HE.out _).mono ?_;rintro e w2 ⟨rfl,rfl⟩;go_wp2_with fail
  refine (HF.out _).mono ?_;rintro e w2 ⟨rfl,rfl⟩;go_wp2_with fail
  refine (HG2.out _).mono ?_;rintro e w2 ⟨rfl,rfl⟩;go_wp2_with fail
  refine bodyPost_ret (v:=.agg #[iV 0,eS,eS,iV 0,iV 0,iV 11]) (by simp [results,Tryz.results58,go_sem]) rfl ⟨by rw [HV.out],?_⟩;exact bR.alloc lR _
 have HD2:Hid (ofCode s.size p t=0):=by
  unfold Hid; rw [HO.out];by_cases a4:echoP p=true
  ·rw [if_pos a4,if_neg];have a5:beginsV p t=true:=by
    cases h:beginsV p t
    ·exact absurd ⟨a4,h⟩ hbad
    ·rfl
   unfold beginsV at a5;rw [Bool.and_eq_true,Bool.or_eq_true] at a5;simp only [decide_eq_true_eq] at a5;omega
  ·rw [if_neg a4]
 have HV:Hid _:=HY.out (HD.out.trans HD2.out) HD2.out;have HG2:Hid (echoP p=true→beginsV p t=true):=fun h=>by
  cases h2:beginsV p t
  ·exact absurd ⟨h,h2⟩ hbad
  ·rfl
 clear HN HY HD HD2 HO hbad;have GR:Hid (Below w.z w (w.alloc (.cells #[iV 0,eS,eS,iV 0,iV 0,iV 0] 45))):=bR.alloc lR _;have KR:Hid (BoxO w.z (w.alloc (.cells #[iV 0,eS,eS,iV 0,iV 0,iV 0] 45)) ⟨0,⟨#[]⟩,⟨#[]⟩,0,0⟩ 0):=BoxO.new w ⟨0,⟨#[]⟩,⟨#[]⟩,0,0⟩ 0;obtain ⟨cp1,W1,hcv1,hh1,hb1,_⟩:=bytes_new (w.alloc (.cells #[iV 0,eS,eS,iV 0,iV 0,iV 0] 45)) s;have hcw1:=hh1.conv (cap:=cp1) (bt_isByte s)
 rw [bytesOf_self] at hcw1;rw [show (w.alloc (.cells #[iV 0,eS,eS,iV 0,iV 0,iV 0] 45)).heap.size=w.z+1 by simp] at hcv1 hcw1;obtain ⟨cp2,W2,hcv2,hh2,hb2,_⟩:=bytes_new W1 d;have hcw2:=hh2.conv (cap:=cp2) (bt_isByte d)
 rw [bytesOf_self] at hcw2;have G2:Hid (Below w.z w W2):=(GR.out.trans (hb1.mono GR.out.size)).trans (hb2.mono (Nat.le_trans GR.out.size hb1.size));have R2:Hid (BoxO w.z W2 ⟨0,⟨#[]⟩,⟨#[]⟩,0,0⟩ 0):=(KR.out.kept hb1).kept hb2;clear hh1 hh2 hb1 hb2 GR KR;generalize (if echoP p=true then wordN (bt t) 4 else wordN (bt t) 0)=x at *;generalize (if echoP p=true then wordN (bt t) 4 else wordN (bt t) 2)=y at *;have hlt:=World.block_lt_of_cell? W2 _ R2.out.c0;have fin:∀ q:Bool,echoP p=q→Calls Tryz.prog 58 #[.string s,.string d,iV p,.string t] w fun e w'=>e=.returned ans∧Below w.z w w':=by
  intro q hq;rw [hq] at HF
  cases q with
  | true =>
   have HG3:Hid _:=HG.out hq;rw [HG2.out hq] at HG3;clear HG HG2 hq;go_enter Tryz.func58,Tryz.ntmps58
   go_wp2_with fail
   refine (HA1.out _).mono ?_;rintro e w2 ⟨rfl,rfl⟩;go_wp2_with fail
   refine (HA2.out _).mono ?_;rintro e w2 ⟨rfl,rfl⟩;go_wp2_with fail
   refine (HA3.out _).mono ?_;rintro e w2 ⟨rfl,rfl⟩;go_wp2_with fail
   refine (HB.out _).mono ?_;rintro e w2 ⟨rfl,rfl⟩;go_wp2_with fail
   refine (HC.out _).mono ?_;rintro e w2 ⟨rfl,rfl⟩;go_wp2_with fail
   refine (HE.out _).mono ?_;rintro e w2 ⟨rfl,rfl⟩;go_wp2_with fail
   refine (HF.out _).mono ?_;rintro e w2 ⟨rfl,rfl⟩;go_wp2_with fail
   refine (HG3.out _).mono ?_;rintro e w2 ⟨rfl,rfl⟩;go_wp2_with fail
   refine (HP.out _).mono ?_;rintro e w2 ⟨rfl,rfl⟩;obtain ⟨k0,y0,k1,y1,k2,y2,k3,y3,k4,y4,k5,y5⟩:=R2.out;dsimp only at k0 k1 k2 k3 k4 k5;go_wp2_with fail
   have hne:w.z≠W2.heap.size:=by omega
   refine bodyPost_ret (v:=.agg #[iV p,.string s,.string d,iV x,iV y,iV 0]) (by simp [results,Tryz.results58,go_sem,k0,k1,k2,k3,k4,k5,hlt,hne]) rfl ⟨by rw [HV.out],?_⟩;have hz:=G2.out.size;exact ((((((G2.out.setCell lR _).setCell lR _).setCell lR _).setCell lR _).setCell lR _).setCell lR _).alloc (by simp; omega) _
  | false =>
   clear HG HG2 hq;go_enter Tryz.func58,Tryz.ntmps58
   go_wp2_with fail
   refine (HA1.out _).mono ?_;rintro e w2 ⟨rfl,rfl⟩;go_wp2_with fail
   refine (HA2.out _).mono ?_;rintro e w2 ⟨rfl,rfl⟩;go_wp2_with fail
   refine (HA3.out _).mono ?_;rintro e w2 ⟨rfl,rfl⟩;go_wp2_with fail
   refine (HB.out _).mono ?_;rintro e w2 ⟨rfl,rfl⟩;go_wp2_with fail
   refine (HC.out _).mono ?_;rintro e w2 ⟨rfl,rfl⟩;go_wp2_with fail
   refine (HE.out _).mono ?_;rintro e w2 ⟨rfl,rfl⟩;go_wp2_with fail
   refine (HF.out _).mono ?_;rintro e w2 ⟨rfl,rfl⟩;go_wp2_with fail
   refine (HP.out _).mono ?_;rintro e w2 ⟨rfl,rfl⟩;obtain ⟨k0,y0,k1,y1,k2,y2,k3,y3,k4,y4,k5,y5⟩:=R2.out;dsimp only at k0 k1 k2 k3 k4 k5;go_wp2_with fail
   have hne:w.z≠W2.heap.size:=by omega
   refine bodyPost_ret (v:=.agg #[iV p,.string s,.string d,iV x,iV y,iV 0]) (by simp [results,Tryz.results58,go_sem,k0,k1,k2,k3,k4,k5,hlt,hne]) rfl ⟨by rw [HV.out],?_⟩;have hz:=G2.out.size;exact ((((((G2.out.setCell lR _).setCell lR _).setCell lR _).setCell lR _).setCell lR _).setCell lR _).alloc (by simp; omega) _
 exact fin _ rfl
end Go.Proofs.YtdkepkaflielhaaGreatDoor
