import Derived.Test.YtdkepkaflielhaaGreatDoorSz
import Derived.Test.YtdkepkaflielhaaGreatDoorAb
import Derived.Test.YtdkepkaflielhaaGreatDoorIBk3
import Derived.Test.YtdkepkaflielhaaGreatDoorLawSt9
set_option linter.unusedVariables false
set_option linter.unusedSimpArgs false
set_option maxRecDepth 100000
set_option maxHeartbeats 8000000
namespace Go.Proofs.YtdkepkaflielhaaGreatDoor
open Go.RowKit Go.PlainAid
theorem findI_in {α:Type} (f:α→Bool) (xs:List α) : -1≤findI f xs∧findI f xs < xs.length:=by
 unfold findI
 cases h:xs.findIdx? f with
 | none=>simp; omega
 | some i =>
  obtain ⟨hi,_,_⟩:=List.findIdx?_eq_some_iff_getElem.1 h;simp; omega
theorem sessAt_any (p:Sk) (xs:List Ss) (a:Option Addr) (cap:Nat) (w:World) (hl:xs.length≤1048576) (hr:SlIs ssL 7 w a xs) :
  Cb 107 #[.slice a xs.length cap,skC p] w (iV (findI (fun q=>sameSk (sessK q) p) xs)):=by
 have HZ:Hid (Below w.z w (w.alloc (.cells (BdR p.host.proto p.host.addr p.host.port p.peer p.peerPort).toArray 147))):=bR.alloc lR _;have HK:Hid (HoldsL (w.alloc (.cells (BdR p.host.proto p.host.addr p.host.port p.peer p.peerPort).toArray 147)) w.z (skL p)):=HoldsL.new w (skL p) 147;have HI:Hid (∀ W,Below w.z w W→HoldsL W w.z (skL p)→Cb 137 #[.slice a xs.length cap,.func (.func 138) #[] #[.pointer (some ⟨w.z,0,none⟩)]] W (iV (findI (fun q=>sameSk (sessK q) p) xs))):=fun W hW h1=>idxSession_any (fun q=>sameSk (sessK q) p) 138 (fun args W=>by kernel_rfl) _ xs a cap W hl (hr.below hW) (fun W' hW' q hq=>sessAt1_any q p _ W' (h1.kept (by simp [skL]) hW'))
 obtain ⟨hf1,hf2⟩:=findI_in (fun q=>sameSk (sessK q) p) xs;generalize findI (fun q=>sameSk (sessK q) p) xs=fi at *;clear hr;unfold skC;go_enter Tryz.func107,Tryz.ntmps107
 go_upto_region 1 with fail
 generalize (w.alloc (.cells (BdR p.host.proto p.host.addr p.host.port p.peer p.peerPort).toArray 147))=W at *;go_wp2_with fail
 refine (HI.out _ HZ.out HK.out).mono ?_;rintro e w1 ⟨rfl,q1⟩;have B1:Hid _:=HZ.out.trans (q1.mono HZ.out.size);clear q1;go_wp2_with fail
 go_ret;exact ⟨rfl,B1.out⟩
theorem hasFunc_any (f:Ss→Bool) (F:Nat) (hG:Enters F) (caps:Array Value) (xs:List Ss) (a:Option Addr) (cap:Nat) (w:World) (hl:xs.length≤1048576) (hr:SlIs ssL 7 w a xs) (hC:∀ W,Below w.heap.size w W→∀ q,q∈xs→Calls Tryz.prog F (#[ssC q]++caps) W fun e w'=>e=.returned (.bool (f q))∧Below W.heap.size W w') :
  Cb 168 #[.slice a xs.length cap,.func (.func F) #[] caps] w (.bool (xs.any f)):=by
 have HI:Hid _:=idxSession_any f F hG caps xs a cap w hl hr hC;have HF:Hid (decide (0≤findI f xs)=xs.any f):=findI_any f xs;obtain ⟨hf1,hf2⟩:=findI_in f xs;generalize xs.any f=ans at *;generalize findI f xs=fi at *;clear hr hC hG;go_enter Tryz.func168,Tryz.ntmps168
 go_wp2_with fail
 refine Calls.mono HI.out ?_;rintro e w1 ⟨rfl,b1⟩;have B1:Hid _:=b1;clear b1;go_wp2_with fail
 go_ret;exact ⟨ret_bool HF.out,B1.out⟩
theorem hasSess_any (b:Bd) (xs:List Ss) (a:Option Addr) (cap:Nat) (w:World) (hl:xs.length≤1048576) (hr:SlIs ssL 7 w a xs) :
  Cb 166 #[.slice a xs.length cap,bdC b] w (.bool (xs.any (hasS b))):=by
 have HZ:Hid (Below w.z w (w.alloc (.cells (BdV b).toArray 48))):=bR.alloc lR _;have HH:Hid (∀ W,Cb 53 #[.agg (BdV b).toArray] W (.agg (EnV b.proto b.inn b.inPort).toArray)):=fun W=>hostEnd_any b W
 have HC:Hid (∀ W B,Below w.z w W→HoldsL W B (enL (hostE b))→Cb 168 #[.slice a xs.length cap,.func (.func 181) #[] #[.pointer (some ⟨B,0,none⟩)]] W (.bool (xs.any (hasS b)))):=fun W B hW hB=>by
  have h:=hasFunc_any (fun q=>sameEn (sessE q) (hostE b)) 181 (fun args W=>by kernel_rfl) #[.pointer (some ⟨B,0,none⟩)] xs a cap W hl (hr.below hW) (fun W' hW' q hq=>hasSess1_any q (hostE b) B W' (hB.kept (by simp [enL]) hW'));rw [show (fun q=>sameEn (sessE q) (hostE b))=hasS b from funext fun q=>sess_has b q] at h;exact h
 generalize xs.any (hasS b)=ans at *;clear hr;unfold bdC;go_enter Tryz.func166,Tryz.ntmps166
 go_wp2_with fail
 refine (HH.out _).mono ?_;rintro e w1 ⟨rfl,q1⟩;have B1:Below w.z w w1:=HZ.out.trans (q1.mono HZ.out.size);go_upto_region 2 with fail
 have B2:Hid (Below w.z w (w1.alloc (.cells (EnV b.proto b.inn b.inPort).toArray 86))):=B1.alloc B1.size _;have K2:Hid (HoldsL (w1.alloc (.cells (EnV b.proto b.inn b.inPort).toArray 86)) w1.heap.size (enL (hostE b))):=HoldsL.new w1 (enL (hostE b)) 86;generalize (w1.alloc (.cells (EnV b.proto b.inn b.inPort).toArray 86))=W2 at *;clear q1 B1 HZ HH;go_wp2_with fail
 refine (HC.out _ _ B2.out K2.out).mono ?_;rintro e w3 ⟨rfl,q3⟩;have B3:Hid _:=B2.out.trans (q3.mono B2.out.size);clear q3;go_wp2_with fail
 go_ret;exact ⟨rfl,B3.out⟩
theorem outOf1_any (q:Bd) (s:ByteArray) (B:Nat) (w:World) (hB:HoldsL w B [.string s]) :
  Cb 180 #[bdC q,.pointer (some ⟨B,0,none⟩)] w (.bool (ofHost s q)):=by
 have HZ:Hid (Below w.z w (w.alloc (.cells (BdV q).toArray 48))):=bR.alloc lR _;have K1:=hB.alloc (.cells (BdV q).toArray 48);have K2:HoldsL (w.alloc (.cells (BdV q).toArray 48)) w.z (bdL q):=HoldsL.new w (bdL q) 48;have HV:Hid (ofHost s q=decide (q.inn.toList=s.toList)):=rfl;generalize ofHost s q=ans at *;unfold bdC;go_enter Tryz.func180,Tryz.ntmps180
 go_upto_region 1 with fail
 generalize (w.alloc (.cells (BdV q).toArray 48))=W at *;have c1:=K2.cell (j:=1) rfl;have k0:=K1.cell (j:=0) rfl;clear K1 K2 hB;go_wp2_with fail
 go_ret;exact ⟨ret_bool (by rw [HV.out]; first | rfl | (rw [Bool.eq_iff_iff]; simp)),HZ.out⟩
theorem outOf_any (s:ByteArray) (xs:List Bd) (a:Option Addr) (cap:Nat) (w:World) (hl:xs.length≤1048576) (hr:SlIs bdL 5 w a xs) :
  Cb 164 #[.slice a xs.length cap,.string s] w (.tuple #[.string (outIn xs ⟨#[]⟩ s),.bool (xs.find? (ofHost s)).isSome]):=by
 have HZ:Hid (Below w.z w (w.alloc (.cells #[.string s] 9))):=bR.alloc lR _;have HK:Hid (HoldsL (w.alloc (.cells #[.string s] 9)) w.z [.string s]):=HoldsL.new w _ _;have HI:Hid (∀ W,Below w.z w W→HoldsL W w.z [.string s]→Cb 79 #[.slice a xs.length cap,.func (.func 180) #[] #[.pointer (some ⟨w.z,0,none⟩)]] W (iV (findI (ofHost s) xs))):=fun W hW h1=>idxBind_any (ofHost s) 180 (fun args W=>by kernel_rfl) _ xs a cap W hl (hr.below hW) (fun W' hW' q hq=>outOf1_any q s _ W' (h1.kept (by simp) hW'))
 have HR:Hid (SlIs bdL 5 w a xs):=hr;have HV:Hid (outIn xs ⟨#[]⟩ s=match xs.find? (ofHost s) with | some c=>c.out | none=>⟨#[]⟩):=rfl;have HAT:Hid (0≤findI (ofHost s) xs→∃ i:Nat,∃ hi:i < xs.length,findI (ofHost s) xs=i∧xs.find? (ofHost s)=some xs[i]):=fun h=>findBd_at _ xs (by omega)
 have HNO:Hid (findI (ofHost s) xs < 0→xs.find? (ofHost s)=none):=find_no _ xs;obtain ⟨hf1,hf2⟩:=findI_in (ofHost s) xs;generalize outIn xs ⟨#[]⟩ s=ans at *;generalize xs.find? (ofHost s)=fd at *;generalize findI (ofHost s) xs=fi at *;clear hr;go_enter Tryz.func164,Tryz.ntmps164
 go_upto_region 1 with fail
 generalize (w.alloc (.cells #[.string s] 9))=W at *;go_wp2_with fail
 refine (HI.out _ HZ.out HK.out).mono ?_;rintro e w1 ⟨rfl,q1⟩;have B1:Hid _:=HZ.out.trans (q1.mono HZ.out.size);clear q1 HI HK HZ;by_cases hk:fi < 0
 ·have HX:=HNO.out hk;have HA:Hid (ans=⟨#[]⟩∧fd.isSome=false):=by unfold Hid; rw [HV.out,HX]; exact ⟨rfl,rfl⟩
  clear HX HNO HAT HV;go_wp2_with fail
  go_ret2
  exact ⟨by rw [HA.out.1,HA.out.2]; rfl,B1.out⟩
 ·obtain ⟨i,hi,hfi,hfd⟩:=HAT.out (by omega);subst hfi;obtain ⟨b,off,rfl,hb,hat⟩:=HR.out.at hi;have hA:=(hat.below hb B1.out) i hi;obtain ⟨q,hq⟩ : ∃ q,xs[i]=q:=⟨_,rfl⟩;rw [hq] at hA hfd;have HA:Hid (ans=q.out∧fd.isSome=true):=by unfold Hid; rw [HV.out,hfd]; exact ⟨rfl,rfl⟩
  have c3:w1.cell? ⟨b,off+i*5+3,none⟩=some (.string q.out):=hA 3 _ rfl;have hiI:(i:Int) < (xs.length:Int):=by omega
  clear hA hat hq hfd HAT HNO HV;go_wp2_with fail
  go_ret2
  exact ⟨by rw [HA.out.1,HA.out.2]; rfl,B1.out⟩
theorem sessRight_any (q:Ss) (w:World) (hs:q.peer.size≤1048576) :
  Cb 135 #[ssC q] w (.bool (sessR q)):=by
 have HZ:Hid (Below w.z w (w.alloc (.cells (SsV q).toArray 59))):=bR.alloc lR _;have K2:HoldsL (w.alloc (.cells (SsV q).toArray 59)) w.z (ssL q):=HoldsL.new w (ssL q) 59;have HW:Hid (∀ W,Cw 122 #[iV q.peerPort] W (.bool (isW q.peerPort))):=fun W=>implWordIs_any _ W
 have HT:Hid (∀ W,Cw 144 #[iV q.state] W (.bool (isIn q.state 1 7))):=fun W=>isState_any _ W
 have HO:Hid (∀ W,Cw 143 #[iV q.proto] W (.bool (stillP q.proto))):=fun W=>implStill_any _ W
 have HV:Hid (sessR q=(decide (q.peer.size=4)&&isW q.peerPort&&isIn q.state 1 7&&(decide (q.state=3)||!stillP q.proto)&&(decide (0≤q.untl)&&decide (q.untl≤2000000000)))):=rfl;generalize sessR q=ans at *;generalize isW q.peerPort=b1 at *;generalize isIn q.state 1 7=b2 at *;generalize stillP q.proto=b3 at *;have hun:undef=Value.tuple #[]:=rfl;unfold ssC;go_enter Tryz.func135,Tryz.ntmps135
 go_upto_region 1 with fail
 generalize (w.alloc (.cells (SsV q).toArray 59))=W at *;obtain ⟨c0,c1,c2,c3,c4,c5,c6⟩:=K2.c7;clear K2;by_cases h4:q.peer.size=4
 case neg =>
  have HX:Hid (ans=false):=by unfold Hid; rw [HV.out,decide_eq_false h4]; rfl
  have h4i:¬ (q.peer.size:Int)=4:=by omega
  have d1:((q.peer.size:Int)==4)=false:=by simp [h4i]
  go_wp2_with fail
  go_ret;exact ⟨ret_bool HX.out.symm,HZ.out⟩
 have h4i:(q.peer.size:Int)=4:=by omega
 have d1:((q.peer.size:Int)==4)=true:=by simp [h4i]
 clear h4i;go_wp2_with fail
 refine (HW.out _).mono ?_;rintro e W ⟨rfl,rfl⟩
 cases b1 with
 | false =>
  have HX:Hid (ans=false):=by unfold Hid; rw [HV.out]; simp
  go_wp2_with fail
  go_ret;exact ⟨ret_bool HX.out.symm,HZ.out⟩
 | true =>
 go_wp2_with fail
 refine (HT.out _).mono ?_;rintro e W ⟨rfl,rfl⟩
 cases b2 with
 | false =>
  have HX:Hid (ans=false):=by unfold Hid; rw [HV.out]; simp
  go_wp2_with fail
  go_ret;exact ⟨ret_bool HX.out.symm,HZ.out⟩
 | true =>
 by_cases h3:q.state=3
 ·have e3:(q.state==3)=true:=by simp [h3]
  have HV2:Hid (ans=(decide (0≤q.untl)&&decide (q.untl≤2000000000))):=by unfold Hid; rw [HV.out,decide_eq_true h4,decide_eq_true h3]; rfl
  have HH3:Hid (q.state=3):=h3;clear h3 HV;by_cases t0:0≤q.untl
  case neg =>
   have HX:Hid (ans=false):=by unfold Hid; rw [HV2.out,decide_eq_false t0]; simp
   have d0:decide (0≤q.untl)=false:=decide_eq_false t0;go_wp2_with fail
   go_ret;exact ⟨ret_bool HX.out.symm,HZ.out⟩
  have d0:decide (0≤q.untl)=true:=decide_eq_true t0;by_cases t1:q.untl≤2000000000
  case neg =>
   have HX:Hid (ans=false):=by unfold Hid; rw [HV2.out,decide_eq_false t1]; simp
   have d9:decide (q.untl≤2000000000)=false:=decide_eq_false t1;go_wp2_with fail
   go_ret;exact ⟨ret_bool HX.out.symm,HZ.out⟩
  have d9:decide (q.untl≤2000000000)=true:=decide_eq_true t1;have HX:Hid (ans=true):=by unfold Hid; rw [HV2.out,decide_eq_true t0,decide_eq_true t1]; rfl
  go_wp2_with fail
  go_ret;exact ⟨ret_bool HX.out.symm,HZ.out⟩
 ·have e3:(q.state==3)=false:=by simp [h3]
  have HV2:Hid (ans=(!b3&&(decide (0≤q.untl)&&decide (q.untl≤2000000000)))):=by unfold Hid; rw [HV.out,decide_eq_true h4,decide_eq_false h3]; rfl
  clear HV;go_wp2_with fail
  refine (HO.out _).mono ?_;rintro e W ⟨rfl,rfl⟩
  cases b3 with
  | true =>
   have HX:Hid (ans=false):=by unfold Hid; rw [HV2.out]; rfl
   go_wp2_with fail
   go_ret;exact ⟨ret_bool HX.out.symm,HZ.out⟩
  | false =>
  by_cases t0:0≤q.untl
  case neg =>
   have HX:Hid (ans=false):=by unfold Hid; rw [HV2.out,decide_eq_false t0]; simp
   have d0:decide (0≤q.untl)=false:=decide_eq_false t0;go_wp2_with fail
   go_ret;exact ⟨ret_bool HX.out.symm,HZ.out⟩
  have d0:decide (0≤q.untl)=true:=decide_eq_true t0;by_cases t1:q.untl≤2000000000
  case neg =>
   have HX:Hid (ans=false):=by unfold Hid; rw [HV2.out,decide_eq_false t1]; simp
   have d9:decide (q.untl≤2000000000)=false:=decide_eq_false t1;go_wp2_with fail
   go_ret;exact ⟨ret_bool HX.out.symm,HZ.out⟩
  have d9:decide (q.untl≤2000000000)=true:=decide_eq_true t1;have HX:Hid (ans=true):=by unfold Hid; rw [HV2.out,decide_eq_true t0,decide_eq_true t1]; rfl
  go_wp2_with fail
  go_ret;exact ⟨ret_bool HX.out.symm,HZ.out⟩
end Go.Proofs.YtdkepkaflielhaaGreatDoor
