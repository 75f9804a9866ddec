import Derived.Test.YtdkepkaflielhaaGreatDoorSz
import Derived.Test.YtdkepkaflielhaaGreatDoorAb
import Derived.Test.YtdkepkaflielhaaGreatDoorUni
import Derived.Test.YtdkepkaflielhaaGreatDoorTouch9
set_option linter.unusedVariables false
set_option linter.unusedSimpArgs false
set_option maxRecDepth 100000
set_option maxHeartbeats 8000000
namespace Go.Proofs.YtdkepkaflielhaaGreatDoor
open Go.RowKit Go.PlainAid
theorem spSession_any (x:Bb) (c:Bd) (peer:ByteArray) (port:Int) (ba bo:Option Addr) (ca cb:Nat) (w:World) (hl2:x.sess.length≤1048576) (hr:BbIs w ba bo x) :
  Cb 158 #[bbC ba bo ca cb x,bdC c,.string peer,iV port] w (iV (findI (withP c peer port) x.sess)):=by
 have HZ0:Hid (Below w.z w ((aW w (BbV ba ca bo cb x) 31).alloc (.cells (BdV c).toArray 48))):=(bR.alloc lR _).alloc (by simp) _;have HB:Hid (HoldsL ((aW w (BbV ba ca bo cb x) 31).alloc (.cells (BdV c).toArray 48)) w.z (BbV ba ca bo cb x)):=(HoldsL.new w (BbV ba ca bo cb x) 31).alloc _;have HC:Hid (HoldsL ((aW w (BbV ba ca bo cb x) 31).alloc (.cells (BdV c).toArray 48)) (w.z+1) (BdV c)):=by
  have h:=HoldsL.new (w.alloc (.cells (BbV ba ca bo cb x).toArray 31)) (BdV c) 48;rw [World.size_alloc] at h; exact h
 have HR:Hid (BbIs w ba bo x):=hr;obtain ⟨ans,hans⟩ : ∃ y,y=findI (withP c peer port) x.sess:=⟨_,rfl⟩;have HA:Hid (ans=findI (withP c peer port) x.sess):=hans;rw [← hans];have hun:undef=Value.tuple #[]:=rfl;clear hr hans;unfold bbC bdC;go_enter Tryz.func158,Tryz.ntmps158
 go_upto_region 1 with fail
 generalize World.alloc _ _=W0 at *;go_wp2_with fail
 go_loopw [9] (fun iv wr=>∃ i:Nat,i≤x.sess.length∧iv=iV i∧(x.sess.take i).any (withP c peer port)=false∧HoldsL wr w.z (BbV ba ca bo cb x)∧HoldsL wr (w.z+1) (BdV c)∧Below w.z w wr) (fun iv _=>x.sess.length-(intOf iv).toNat)
 case atStart=>exact ⟨0,Nat.zero_le _,rfl,by simp,HB.out,HC.out,HZ0.out⟩
 case round =>
  obtain ⟨i,hi,rfl,hn,hB,hC,hb0⟩:=hrel;have HN:Hid ((x.sess.take i).any (withP c peer port)=false):=hn;have HBr:Hid _:=hB;have HCr:Hid _:=hC;have HW:Hid (Below w.z w wr):=hb0;clear hn hB hC hb0 HB HC HZ0;generalize wr=w1 at *;have z1:=HBr.out.cell (j:=1) rfl;by_cases hlt:i < x.sess.length
  ·obtain ⟨bb,off,rfl,hb,hat⟩:=HR.out.ss.at hlt;have hA:=(hat.below hb HW.out) i hlt;have HT:Hid _:=any_take (withP c peer port) x.sess i hlt;have HF:Hid (withP c peer port x.sess[i]=true→findI (withP c peer port) x.sess=i):=fun h=>findI_at _ x.sess i hlt HN.out h
   obtain ⟨s,hs⟩ : ∃ s,s=x.sess[i]:=⟨_,rfl⟩;rw [← hs] at hA HT HF;have HPV:Hid (withP c peer port s=(hasS c s&&decide (s.peer.toList=peer.toList)&&decide (s.peerPort=port))):=rfl;have hltI:(i:Int) < (x.sess.length:Int):=by omega
   obtain ⟨s0,s1,s2,s3,s4,s5,s6⟩:=rc7 hA;clear hA hat hs hb;have HH:Hid (∀ W,Cb 37 #[.agg (BdV c).toArray,.agg (SsV s).toArray] W (.bool (hasS c s))):=fun W=>spHas_any c s W
   generalize withP c peer port s=pv at *;generalize hasS c s=hv at *;go_upto_region 5 with fail
   have bn:Below w1.heap.size w1 (w1.alloc (.cells (SsV s).toArray 59)):=bR.alloc lR _;have hn:HoldsL (w1.alloc (.cells (SsV s).toArray 59)) w1.heap.size (SsV s):=HoldsL.new w1 (SsV s) 59;have HB2:Hid _:=HBr.out.kept (by simp) bn;have HC2:Hid _:=HCr.out.kept (by simp) bn;have HW2:Hid _:=HW.out.trans (bn.mono HW.out.size);have HS2:Hid _:=hn;generalize (w1.alloc (.cells (SsV s).toArray 59))=W2 at *;clear bn hn HBr HCr HW z1 s0 s1 s2 s3 s4 s5 s6;generalize w1.heap.size=Bs at *;obtain ⟨c0,c1,c2,c3,c4⟩:=HC2.out.c5;obtain ⟨s0,s1,s2,s3,s4,s5,s6⟩:=HS2.out.c7;go_wp2_with fail
   refine (HH.out _).mono ?_;rintro e w3 ⟨rfl,q3⟩;have HB3:Hid _:=HB2.out.kept (by simp) q3;have HC3:Hid _:=HC2.out.kept (by simp) q3;have HS3:Hid _:=HS2.out.kept (by simp) q3;have HW3:Hid _:=HW2.out.trans (q3.mono HW2.out.size);clear q3 HB2 HC2 HW2 HS2 HH c0 c1 c2 c3 c4 s0 s1 s2 s3 s4 s5 s6;obtain ⟨-,-,-,s3,s4⟩:=HS3.out.c5
   cases hv with
   | false =>
    have HX:Hid (pv=false):=by unfold Hid; rw [HPV.out]; rfl
    have HN2:Hid ((x.sess.take (i+1)).any (withP c peer port)=false):=by unfold Hid; rw [HT.out,HN.out,HX.out]; rfl
    go_wp2_with fail
    go_roundw
    case rel =>
     first | exact ⟨i+1,by omega,by go_num,HN2.out,HB3.out,HC3.out,HW3.out⟩ | ((repeat apply Exists.intro); exact ⟨⟨i+1,by omega,by go_num,HN2.out,HB3.out,HC3.out,HW3.out⟩,rfl⟩)
    case measure=>simp [intOf]<;>omega
   | true =>
   by_cases h1:s.peer.toList=peer.toList
   case neg =>
    have e1:(s.peer.toList==peer.toList)=false:=by simp [h1]
    have HX:Hid (pv=false):=by unfold Hid; rw [HPV.out,decide_eq_false h1]; rfl
    clear h1;have HN2:Hid ((x.sess.take (i+1)).any (withP c peer port)=false):=by unfold Hid; rw [HT.out,HN.out,HX.out]; rfl
    go_wp2_with fail
    go_roundw
    case rel =>
     first | exact ⟨i+1,by omega,by go_num,HN2.out,HB3.out,HC3.out,HW3.out⟩ | ((repeat apply Exists.intro); exact ⟨⟨i+1,by omega,by go_num,HN2.out,HB3.out,HC3.out,HW3.out⟩,rfl⟩)
    case measure=>simp [intOf]<;>omega
   have e1:(s.peer.toList==peer.toList)=true:=by simp [h1]
   by_cases h2:s.peerPort=port
   case neg =>
    have e2:(s.peerPort==port)=false:=by simp [h2]
    have HX:Hid (pv=false):=by unfold Hid; rw [HPV.out,decide_eq_false h2]; simp
    clear h1;have HN2:Hid ((x.sess.take (i+1)).any (withP c peer port)=false):=by unfold Hid; rw [HT.out,HN.out,HX.out]; rfl
    go_wp2_with fail
    go_roundw
    case rel =>
     first | exact ⟨i+1,by omega,by go_num,HN2.out,HB3.out,HC3.out,HW3.out⟩ | ((repeat apply Exists.intro); exact ⟨⟨i+1,by omega,by go_num,HN2.out,HB3.out,HC3.out,HW3.out⟩,rfl⟩)
    case measure=>simp [intOf]<;>omega
   have e2:(s.peerPort==port)=true:=by simp [h2]
   have HX:Hid ((i:Int)=ans):=by unfold Hid; rw [HA.out,HF.out (by rw [HPV.out,decide_eq_true h1,decide_eq_true h2]; rfl)]
   clear h1 h2;go_wp2_with fail
   go_ret;exact ⟨ret_int HX.out,HW3.out⟩
  ·have hie:i=x.sess.length:=by omega
   have HX:Hid ((-1:Int)=ans):=by unfold Hid; have:=HN.out; rw [hie,List.take_length] at this; rw [HA.out,findI_no _ _ this]
   have hge:¬ (i:Int) < (x.sess.length:Int):=by omega
   clear hie hlt;go_wp2_with fail
   go_ret;exact ⟨ret_int HX.out,HW.out⟩
theorem spKnows_any (x:Bb) (c:Bd) (peer:ByteArray) (ba bo:Option Addr) (ca cb:Nat) (w:World) (hl2:x.sess.length≤1048576) (hr:BbIs w ba bo x) :
  Cb 159 #[bbC ba bo ca cb x,bdC c,.string peer] w (.bool (x.sess.any (withA c peer))):=by
 have HZ0:Hid (Below w.z w ((aW w (BbV ba ca bo cb x) 31).alloc (.cells (BdV c).toArray 48))):=(bR.alloc lR _).alloc (by simp) _;have HB:Hid (HoldsL ((aW w (BbV ba ca bo cb x) 31).alloc (.cells (BdV c).toArray 48)) w.z (BbV ba ca bo cb x)):=(HoldsL.new w (BbV ba ca bo cb x) 31).alloc _;have HC:Hid (HoldsL ((aW w (BbV ba ca bo cb x) 31).alloc (.cells (BdV c).toArray 48)) (w.z+1) (BdV c)):=by
  have h:=HoldsL.new (w.alloc (.cells (BbV ba ca bo cb x).toArray 31)) (BdV c) 48;rw [World.size_alloc] at h; exact h
 have HR:Hid (BbIs w ba bo x):=hr;obtain ⟨ans,hans⟩ : ∃ y,y=x.sess.any (withA c peer):=⟨_,rfl⟩;have HA:Hid (ans=x.sess.any (withA c peer)):=hans;rw [← hans];clear hr hans;unfold bbC bdC;go_enter Tryz.func159,Tryz.ntmps159
 go_upto_region 1 with fail
 generalize World.alloc _ _=W0 at *;go_wp2_with fail
 go_loopw [7] (fun iv wr=>∃ i:Nat,i≤x.sess.length∧iv=iV i∧(x.sess.take i).any (withA c peer)=false∧HoldsL wr w.z (BbV ba ca bo cb x)∧HoldsL wr (w.z+1) (BdV c)∧Below w.z w wr) (fun iv _=>x.sess.length-(intOf iv).toNat)
 case atStart=>exact ⟨0,Nat.zero_le _,rfl,by simp,HB.out,HC.out,HZ0.out⟩
 case round =>
  obtain ⟨i,hi,rfl,hn,hB,hC,hb0⟩:=hrel;have HN:Hid ((x.sess.take i).any (withA c peer)=false):=hn;have HBr:Hid _:=hB;have HCr:Hid _:=hC;have HW:Hid (Below w.z w wr):=hb0;clear hn hB hC hb0 HB HC HZ0;generalize wr=w1 at *;have z1:=HBr.out.cell (j:=1) rfl;by_cases hlt:i < x.sess.length
  ·obtain ⟨bb,off,rfl,hb,hat⟩:=HR.out.ss.at hlt;have HAT:Hid (∀ W,Below w.z w W→W.rangeAt bb (off+i*7) (ssL x.sess[i])):=fun W hW=>(hat.below hb hW) i hlt
   have HT:Hid _:=any_take (withA c peer) x.sess i hlt;have HF:Hid (withA c peer x.sess[i]=true→x.sess.any (withA c peer)=true):=any_at _ x.sess i hlt;obtain ⟨s,hs⟩ : ∃ s,s=x.sess[i]:=⟨_,rfl⟩;rw [← hs] at HAT HT HF;have HPV:Hid (withA c peer s=(hasS c s&&decide (s.peer.toList=peer.toList))):=rfl;have hltI:(i:Int) < (x.sess.length:Int):=by omega
   have HH:Hid (∀ W,Cb 37 #[.agg (BdV c).toArray,.agg (SsV s).toArray] W (.bool (hasS c s))):=fun W=>spHas_any c s W
   generalize withA c peer s=pv at *;generalize hasS c s=hv at *;clear hat hs hb;go_upto_region 4 with fail
   clear z1;go_cut [31] (fun v wx=>v=.bool pv∧Below w1.heap.size w1 wx)
   case first =>
    rename_i J K2 hJ hK2;have HCP:Hid (∀ wy,Below w1.drew.heap.size w1.drew wy→HoldsL wy w.z (BbV ba ca (some ⟨bb,off,none⟩) cb x)∧HoldsL wy (w.z+1) (BdV c)∧Below w.z w wy):=fun wy hy=>⟨HBr.out.drew.kept (by simp) hy,HCr.out.drew.kept (by simp) hy,HW.out.drew.trans (hy.mono HW.out.size)⟩
    cases hv with
    | false =>
     refine wp_region_growH [15,16,17,18,19,20,21,22,23,24,25,26,27,28,29,30,31] (by kernel_rfl) (by kernel_rfl) ?_;iterate 17 ((first|(refine GCh.n rfl rfl rfl rfl rfl (by simp) ?_)|(apply GCh.u rfl;(·intro K' a wy ho hd hb2 hK;simp [rAt,IsV,slot,Region.binds] at ho hd;obtain ⟨hB,hC,hbw⟩:=HCP.out wy hb2;have hA:=HAT.out wy hbw;have kC:=hB.c2;have kC:=hC.c5;obtain ⟨s0,s1,s2,s3,s4,s5,s6⟩:=rc7 hA;go_simp;first|((try go_bits);exact hK _ _ rfl bQ)|(refine (HH.out wy).mono ?_;rintro e wz ⟨rfl,hz⟩;exact hK _ _ rfl hz))));dsimp only [nA,cA])
     intro X wz hR hz;simp only [List.nil_append,List.cons_append,RAll,IsV] at hR;simp only [putsFrom,hR];clear hR;go_simp;refine hK2 _ _ (hJ _ _ ?_);(repeat apply Exists.intro)
     refine ⟨⟨by rw [HPV.out]; simp,bR.drew.trans hz⟩,rfl⟩
    | true =>
     by_cases h1:s.peer.toList=peer.toList
     ·have e1:(s.peer.toList==peer.toList)=true:=by simp [h1]
      refine wp_region_growH [15,16,17,18,19,20,21,22,23,24,25,26,27,28,29,30,31] (by kernel_rfl) (by kernel_rfl) ?_;iterate 17 ((first|apply GCh.u rfl|apply GCh.g rfl rfl rfl rfl rfl (by simp));(·intro K' a wy ho hd hb2 hK;simp [rAt,IsV,slot,Region.binds] at ho hd;obtain ⟨hB,hC,hbw⟩:=HCP.out wy hb2;have hA:=HAT.out wy hbw;have kC:=hB.c2;have kC:=hC.c5;obtain ⟨s0,s1,s2,s3,s4,s5,s6⟩:=rc7 hA;go_simp;first|((try go_bits);exact hK _ _ rfl bQ)|(refine (HH.out wy).mono ?_;rintro e wz ⟨rfl,hz⟩;exact hK _ _ rfl hz));dsimp only [nA,cA])
      intro X wz hR hz;simp only [List.nil_append,List.cons_append,RAll,IsV] at hR;simp only [putsFrom,hR];clear hR;go_simp;refine hK2 _ _ (hJ _ _ ?_);(repeat apply Exists.intro)
      refine ⟨⟨by rw [HPV.out]; simp [h1],bR.drew.trans hz⟩,rfl⟩
     ·have e1:(s.peer.toList==peer.toList)=false:=by simp [h1]
      refine wp_region_growH [15,16,17,18,19,20,21,22,23,24,25,26,27,28,29,30,31] (by kernel_rfl) (by kernel_rfl) ?_;iterate 17 ((first|apply GCh.u rfl|apply GCh.g rfl rfl rfl rfl rfl (by simp));(·intro K' a wy ho hd hb2 hK;simp [rAt,IsV,slot,Region.binds] at ho hd;obtain ⟨hB,hC,hbw⟩:=HCP.out wy hb2;have hA:=HAT.out wy hbw;have kC:=hB.c2;have kC:=hC.c5;obtain ⟨s0,s1,s2,s3,s4,s5,s6⟩:=rc7 hA;go_simp;first|((try go_bits);exact hK _ _ rfl bQ)|(refine (HH.out wy).mono ?_;rintro e wz ⟨rfl,hz⟩;exact hK _ _ rfl hz));dsimp only [nA,cA])
      intro X wz hR hz;simp only [List.nil_append,List.cons_append,RAll,IsV] at hR;simp only [putsFrom,hR];clear hR;go_simp;refine hK2 _ _ (hJ _ _ ?_);(repeat apply Exists.intro)
      refine ⟨⟨by rw [HPV.out]; simp [h1],bR.drew.trans hz⟩,rfl⟩
   case rest =>
   obtain ⟨rfl,qc⟩:=hcut;generalize wc=w3 at *;have HB3:Hid _:=HBr.out.kept (by simp) qc;have HC3:Hid _:=HCr.out.kept (by simp) qc;have HW3:Hid _:=HW.out.trans (qc.mono HW.out.size);clear qc HBr HCr HW
   cases pv with
   | true =>
    have HX:Hid (true=ans):=by unfold Hid; rw [HA.out,HF.out rfl]
    go_wp2_with fail
    go_ret;exact ⟨ret_bool HX.out,HW3.out⟩
   | false =>
    have HN2:Hid ((x.sess.take (i+1)).any (withA c peer)=false):=by unfold Hid; rw [HT.out,HN.out]; rfl
    go_wp2_with fail
    go_roundw
    case rel =>
     first | exact ⟨i+1,by omega,by go_num,HN2.out,HB3.out,HC3.out,HW3.out⟩ | ((repeat apply Exists.intro); exact ⟨⟨i+1,by omega,by go_num,HN2.out,HB3.out,HC3.out,HW3.out⟩,rfl⟩)
    case measure=>simp [intOf]<;>omega
  ·have hie:i=x.sess.length:=by omega
   have HX:Hid (false=ans):=by unfold Hid; have:=HN.out; rw [hie,List.take_length] at this; rw [HA.out,this]
   have hge:¬ (i:Int) < (x.sess.length:Int):=by omega
   clear hie hlt;go_wp2_with fail
   go_ret;exact ⟨ret_bool HX.out,HW.out⟩
theorem spTouchOk_any (t:Tc) (w:World) (hs1:t.addr.size≤1048576) (hs2:t.peer.size≤1048576) :
  Cb 125 #[tcC t] w (.bool (touchOk t)):=by
 have HZ:Hid (Below w.z w (w.alloc (.cells (TcV t).toArray 89))):=bR.alloc lR _;have HK:HoldsL (w.alloc (.cells (TcV t).toArray 89)) w.z (TcV t):=HoldsL.new w (TcV t) 89;have H1:Hid (∀ W,Cw 69 #[iV t.proto] W (.bool (protoB t.proto))):=fun W=>spBProto_any _ W
 have H2:Hid (∀ W,Cw 65 #[.string t.addr] W (.bool (addrOk t.addr))):=fun W=>specAddrRight_any t.addr W
 have H3:Hid (∀ W,Cw 39 #[iV t.port] W (.bool (isW t.port))):=fun W=>specWordIs_any _ W
 have H4:Hid (∀ W,Cw 39 #[iV t.peerPort] W (.bool (isW t.peerPort))):=fun W=>specWordIs_any _ W
 have H5:Hid (∀ W,Cw 38 #[iV t.flags] W (.bool (isIn t.flags 0 255))):=fun W=>specByte_any _ W
 have HV:Hid (touchOk t=(protoB t.proto&&addrOk t.addr&&(t.inside||decide (t.addr.size=4))&&isW t.port&&decide (t.peer.size=4)&&isW t.peerPort&&isIn t.flags 0 255)):=rfl;generalize touchOk t=ans at *;generalize protoB t.proto=b1 at *;generalize addrOk t.addr=b2 at *;generalize isW t.port=b3 at *;generalize isW t.peerPort=b4 at *;generalize isIn t.flags 0 255=b5 at *;have hun:undef=Value.tuple #[]:=rfl;unfold tcC;go_enter Tryz.func125,Tryz.ntmps125
 go_upto_region 1 with fail
 generalize (w.alloc (.cells (TcV t).toArray 89))=W at *;obtain ⟨k0,k1,k2,k3,k4,k5,k6⟩:=HK.c7;clear HK;obtain ⟨proto,inside,addr,port,peer,peerPort,flags⟩:=t;dsimp only at *;go_wp2_with fail
 refine (H1.out _).mono ?_;rintro e W ⟨rfl,rfl⟩
 cases b1 with
 | false =>
  have HX:Hid (ans=false):=by unfold Hid; rw [HV.out]; simp
  go_wp2_with fail
  go_ret;exact ⟨ret_bool HX.out.symm,HZ.out⟩
 | true =>
 go_wp2_with fail
 refine (H2.out _).mono ?_;rintro e W ⟨rfl,rfl⟩
 cases b2 with
 | false =>
  have HX:Hid (ans=false):=by unfold Hid; rw [HV.out]; simp
  go_wp2_with fail
  go_ret;exact ⟨ret_bool HX.out.symm,HZ.out⟩
 | true =>
 cases inside with
 | true =>
  go_wp2_with fail
  refine (H3.out _).mono ?_;rintro e W ⟨rfl,rfl⟩
  cases b3 with
  | false =>
   have HX:Hid (ans=false):=by unfold Hid; rw [HV.out]; simp
   go_wp2_with fail
   go_ret;exact ⟨ret_bool HX.out.symm,HZ.out⟩
  | true =>
  by_cases h4:peer.size=4
  case neg =>
   have h4i:¬ (peer.size:Int)=4:=by omega
   have d4:((peer.size:Int)==4)=false:=by simp [h4i]
   have HX:Hid (ans=false):=by unfold Hid; rw [HV.out,decide_eq_false h4]; simp
   go_wp2_with fail
   go_ret;exact ⟨ret_bool HX.out.symm,HZ.out⟩
  have h4i:(peer.size:Int)=4:=by omega
  have d4:((peer.size:Int)==4)=true:=by simp [h4i]
  have HP4:Hid (decide (peer.size=4)=true):=decide_eq_true h4;clear h4i h4;go_wp2_with fail
  refine (H4.out _).mono ?_;rintro e W ⟨rfl,rfl⟩
  cases b4 with
  | false =>
   have HX:Hid (ans=false):=by unfold Hid; rw [HV.out]; simp
   go_wp2_with fail
   go_ret;exact ⟨ret_bool HX.out.symm,HZ.out⟩
  | true =>
  have HX:Hid (ans=b5):=by unfold Hid; rw [HV.out,HP4.out]; simp
  go_wp2_with fail
  refine (H5.out _).mono ?_;rintro e W ⟨rfl,rfl⟩;go_wp2_with fail
  go_ret;exact ⟨ret_bool HX.out.symm,HZ.out⟩
 | false =>
  by_cases ha:addr.size=4
  case neg =>
   have hai:¬ (addr.size:Int)=4:=by omega
   have da:((addr.size:Int)==4)=false:=by simp [hai]
   have HX:Hid (ans=false):=by unfold Hid; rw [HV.out,decide_eq_false ha]; simp
   go_wp2_with fail
   go_ret;exact ⟨ret_bool HX.out.symm,HZ.out⟩
  have hai:(addr.size:Int)=4:=by omega
  have da:((addr.size:Int)==4)=true:=by simp [hai]
  have HA4:Hid (decide (addr.size=4)=true):=decide_eq_true ha;clear hai ha;go_wp2_with fail
  refine (H3.out _).mono ?_;rintro e W ⟨rfl,rfl⟩
  cases b3 with
  | false =>
   have HX:Hid (ans=false):=by unfold Hid; rw [HV.out]; simp
   go_wp2_with fail
   go_ret;exact ⟨ret_bool HX.out.symm,HZ.out⟩
  | true =>
  by_cases h4:peer.size=4
  case neg =>
   have h4i:¬ (peer.size:Int)=4:=by omega
   have d4:((peer.size:Int)==4)=false:=by simp [h4i]
   have HX:Hid (ans=false):=by unfold Hid; rw [HV.out,decide_eq_false h4]; simp
   go_wp2_with fail
   go_ret;exact ⟨ret_bool HX.out.symm,HZ.out⟩
  have h4i:(peer.size:Int)=4:=by omega
  have d4:((peer.size:Int)==4)=true:=by simp [h4i]
  have HP4:Hid (decide (peer.size=4)=true):=decide_eq_true h4;clear h4i h4;go_wp2_with fail
  refine (H4.out _).mono ?_;rintro e W ⟨rfl,rfl⟩
  cases b4 with
  | false =>
   have HX:Hid (ans=false):=by unfold Hid; rw [HV.out]; simp
   go_wp2_with fail
   go_ret;exact ⟨ret_bool HX.out.symm,HZ.out⟩
  | true =>
  have HX:Hid (ans=b5):=by unfold Hid; rw [HV.out,HP4.out]; rw [HA4.out]; simp
  go_wp2_with fail
  refine (H5.out _).mono ?_;rintro e W ⟨rfl,rfl⟩;go_wp2_with fail
  go_ret;exact ⟨ret_bool HX.out.symm,HZ.out⟩
end Go.Proofs.YtdkepkaflielhaaGreatDoor
