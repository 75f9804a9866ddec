import Derived.Test.YtcckaeppiamebaaGreatDoorAb
import Derived.Test.YtcckaeppiamebaaGreatDoorMerged14
import Derived.WalkKit
import Derived.PlainAid
import Derived.Test.YtcckaeppiamebaaGreatDoorMerged8
import Derived.Test.YtcckaeppiamebaaGreatDoorMerged1
import Derived.Laws.StructEq
import Derived.BigQuiet
import Derived.Lib.QuietBelow
import Derived.Deep.DeepCutAuto
import Derived.Test.YtcckaeppiamebaaGreatDoorMerged6
import Derived.Lib.LazyBuf
import Derived.Test.YtcckaeppiamebaaGreatDoorMerged2
import Derived.Deep.MidRow
import Derived.Deep.AppendLies
import Derived.Great.BuildSlice
import Derived.Test.YtcckaeppiamebaaGreatDoorMerged3
import Derived.Test.YtcckaeppiamebaaGreatDoorMerged7
set_option linter.unusedVariables false
set_option linter.unusedSimpArgs false
set_option maxRecDepth 100000
set_option maxHeartbeats 8000000
namespace Go.Proofs.YtcckaeppiamebaaGreatDoor
open Go.RowKit Go.PlainAid
theorem touch_parts {t:Tc} (h:touchOk t=true):In64t t.proto∧0≤t.port∧t.port≤65535∧isIn t.flags 0 255=true:=by
 unfold touchOk at h;simp only [Bool.and_eq_true] at h;obtain ⟨⟨⟨⟨⟨⟨h1,h2⟩,h3⟩,h4⟩,h5⟩,h6⟩,h7⟩:=h;have h4':=isIn_parts h4;refine ⟨?_,h4'.1,h4'.2,h7⟩;unfold protoB at h1;simp only [Bool.or_eq_true,decide_eq_true_iff] at h1;unfold In64t;rcases h1 with (h1 | h1) | h1<;>rw [h1]<;>decide
theorem host_parts {p:Pl} {x:Bb} {t:Tc} (hok:bookOk p x=true) (ht:touchOk t=true) (hs:t.addr.size≤1048576) (hgb:∀ q∈x.binds,BdGood q) (hf:(hostV x t).2=true):EnIn (hostV x t).1∧0≤(hostV x t).1.port∧(hostV x t).1.port≤65535:=by
 obtain ⟨t1,t2,t3,t4⟩:=touch_parts ht;unfold hostV at hf ⊢
 cases hin:t.inside with
 | true =>
  simp only [if_true];refine ⟨⟨hs,t1,?_⟩,t2,t3⟩;show In64t t.port;unfold In64t;constructor<;>omega
 | false =>
  rw [hin] at hf;simp only [Bool.false_eq_true,if_false] at hf ⊢
  cases hd:x.binds.find? (ofOut t.proto t.addr t.port) with
  | none=>rw [hd] at hf; simp at hf
  | some c =>
   have hc:=List.mem_of_find?_eq_some hd;simp only [Option.getD_some];refine ⟨hostE_in (hgb c hc),?_⟩;unfold bookOk at hok;simp only [Bool.and_eq_true] at hok;have hF:=upN_iff.1 hok.1.2;obtain ⟨i,hi,rfl⟩:=List.getElem_of_mem hc;have h1:=hF i hi;unfold fitB at h1;simp only [Bool.and_eq_true] at h1;exact isIn_parts h1.1.1.1.1.1.1.2
theorem go_none {p:Pl} {x:Bb} {t:Tc} {now:Int} (h1:(hostV x t).2=true) (h2:x.sess.findIdx? (fun s=>sameSk (sessK s) (keyT (hostV x t).1 t))=none):goI p x t now=beginV p x (hostV x t).1 t now:=by
 unfold goI; rw [if_neg (by rw [h1]; decide),h2]
theorem go_some {p:Pl} {x:Bb} {t:Tc} {now:Int} {j:Nat} (hlt:j < x.sess.length) (h1:(hostV x t).2=true) (h2:x.sess.findIdx? (fun s=>sameSk (sessK s) (keyT (hostV x t).1 t))=some j):goI p x t now=⟨⟨x.binds,x.sess.set j (nextS p t now x.sess[j])⟩,(x.binds.find? (ofIn (hostV x t).1.proto (hostV x t).1.addr (hostV x t).1.port)).getD bdZ,0⟩:=by
 unfold goI setN; rw [if_neg (by rw [h1]; decide),h2];simp only [List.getElem?_eq_getElem hlt]
theorem implBibTouch_any (pa:Option Addr) (pc:Nat) (p:Pl) (ba bo:Option Addr) (ca cb:Nat) (x:Bb) (t:Tc) (now:Int) (w:World) (hT:TabB w) (hs1:t.addr.size≤1048576) (hs2:t.peer.size≤1048576) (hpl:p.addrs.length≤1048576) (hpc:p.addrs.length≤pc) (hps:∀ s∈p.addrs,s.size≤1048576) (hbl1:x.binds.length≤1048576) (hbl2:x.sess.length≤1048576) (hgb:∀ q∈x.binds,BdGood q) (hgs:∀ s∈x.sess,SsGood s) (hp:SlIs strL1 1 w pa p.addrs) (hx:BbIs w ba bo x) :
  Calls Tryz.prog 62 #[plC pa pc p,bbC ba bo ca cb x,tcC t,iV now] w fun e w'=>BoRet w.heap.size (bibTouchV p x t now) e w'∧Below w.heap.size w w':=by
 rw [← touch_same];have HHP:Hid (bookOk p x=true→touchOk t=true→(hostV x t).2=true→EnIn (hostV x t).1∧0≤(hostV x t).1.port∧(hostV x t).1.port≤65535):=fun h1 h2 h3=>host_parts h1 h2 hs1 hgb h3
 have HTP:Hid (touchOk t=true→In64t t.proto∧0≤t.port∧t.port≤65535∧isIn t.flags 0 255=true):=touch_parts;have HG0:Hid ((hostV x t).2=false→goI p x t now=boE 6):=fun h=>by unfold goI; rw [if_pos h]
 have HG1:Hid ((hostV x t).2=true→x.sess.findIdx? (fun s=>sameSk (sessK s) (keyT (hostV x t).1 t))=none→goI p x t now=beginV p x (hostV x t).1 t now):=go_none;have HG2:Hid (∀ j (hlt:j < x.sess.length),(hostV x t).2=true→x.sess.findIdx? (fun s=>sameSk (sessK s) (keyT (hostV x t).1 t))=some j→goI p x t now=⟨⟨x.binds,x.sess.set j (nextS p t now x.sess[j])⟩,(x.binds.find? (ofIn (hostV x t).1.proto (hostV x t).1.addr (hostV x t).1.port)).getD bdZ,0⟩):=fun j hlt=>go_some hlt
 have HHO:Hid (∀ W m1 m2,touchOk t=true→BookAt W m1 m2 x.binds x.binds→Cb 107 #[.agg (KkV pa pc p ba ca bo cb x m1 m2).toArray,tcC t] W (.tuple #[enC (hostV x t).1,.bool (hostV x t).2])):=fun W m1 m2 ht hbk=>hostOf_any pa pc p ba bo ca cb x m1 m2 t W ⟨hs1,(touch_parts ht).1,by have:=touch_parts ht; show In64t t.port; unfold In64t; constructor<;>omega⟩ hbk
 have HBG:Hid (∀ W m1 m2,Below w.heap.size w W→bookOk p x=true→isTime now=true→touchOk t=true→(hostV x t).2=true→BookAt W m1 m2 x.binds x.binds→Calls Tryz.prog 109 #[.agg (KkV pa pc p ba ca bo cb x m1 m2).toArray,enC (hostV x t).1,tcC t,iV now] W fun e w'=>BoRet W.heap.size (beginV p x (hostV x t).1 t now) e w'∧Below W.heap.size W w'):=fun W m1 m2 hW hok hnow ht hf hbk=>by
  have hpo:poolOk p=true:=by unfold bookOk at hok; simp only [Bool.and_eq_true] at hok; exact hok.1.1.1.1
  have h:=HHP.out hok ht hf;exact begin_any pa pc p ba bo ca cb x m1 m2 _ t now W hpo hnow (touch_parts ht).2.2.2 h.1 h.2.1 h.2.2 hs2 hps hbl1 hbl2 hgb hgs hbk (hp.below hW) (hx.below hW)
 have HGT:Hid (∀ W m1 m2,bookOk p x=true→touchOk t=true→(hostV x t).2=true→BookAt W m1 m2 x.binds x.binds→(Instr.lookup 148 (.map (some m1)) (enC (hostV x t).1) false).run Tryz.prog W=.ok (bdC ((x.binds.find? (ofIn (hostV x t).1.proto (hostV x t).1.addr (hostV x t).1.port)).getD bdZ)) W):=fun W m1 m2 hok ht hf hbk=>by
  have hl:=hbk.get1 (HHP.out hok ht hf).1;rw [show (fun q=>sameEn (hostE q) (hostV x t).1)=ofIn (hostV x t).1.proto (hostV x t).1.addr (hostV x t).1.port from funext fun c=>host_in _ _ _ c] at hl;exact hl
 have HCB:Hid (∀ W,Cb 113 #[bdC ((x.binds.find? (ofIn (hostV x t).1.proto (hostV x t).1.addr (hostV x t).1.port)).getD bdZ)] W (bdC ((x.binds.find? (ofIn (hostV x t).1.proto (hostV x t).1.addr (hostV x t).1.port)).getD bdZ))):=fun W=>by
  cases hf:x.binds.find? (ofIn (hostV x t).1.proto (hostV x t).1.addr (hostV x t).1.port) with
  | none=>exact copyBind_any bdZ W (Nat.zero_le _) (Nat.zero_le _)
  | some c=>exact copyBind_any c W (hgb c (List.mem_of_find?_eq_some hf)).1 (hgb c (List.mem_of_find?_eq_some hf)).2.1
 obtain ⟨proto,inside,addr,port,peer,peerPort,flags⟩:=t;dsimp only at hs1 hs2;have HOP:Hid (∀ W,Below w.heap.size w W→Calls Tryz.prog 105 #[.agg (PlV pa pc p).toArray,.agg (BbV ba ca bo cb x).toArray] W (OpenRet W pa pc p ba bo ca cb x)):=fun W hW=>open_any pa pc p ba bo ca cb x W hpl hpc hps hbl1 hbl2 hgb hgs (hp.below hW) (hx.below hW)
 have HTM:Hid (∀ W,Cw 74 #[iV now] W (.bool (isTime now))):=fun W=>implTime_any now W
 have HTR:Hid (∀ W,Cb 106 #[.agg (TcR proto inside addr port peer peerPort flags).toArray] W (.bool (touchOk ⟨proto,inside,addr,port,peer,peerPort,flags⟩))):=fun W=>touchRight_any ⟨proto,inside,addr,port,peer,peerPort,flags⟩ W hs1 hs2
 have HSA:Hid (∀ (h:En) W,Below w.heap.size w W→Cb 108 #[.slice bo x.sess.length cb,.agg (BdR h.proto h.addr h.port peer peerPort).toArray] W (iV (findI (fun s=>sameSk (sessK s) (keyT h ⟨proto,inside,addr,port,peer,peerPort,flags⟩)) x.sess))):=fun h W hW=>sessAt_any (keyT h ⟨proto,inside,addr,port,peer,peerPort,flags⟩) x.sess bo cb W hbl2 (hx.ss.below hW)
 have HCY:Hid (∀ W,Below w.heap.size w W→Calls Tryz.prog 110 #[.agg (BbV ba ca bo cb x).toArray] W fun e w'=>CopyRet W.heap.size x e w'∧Below W.heap.size W w'):=fun W hW=>implCopy9_any x ba bo ca cb W hbl1 hbl2 hgb hgs (hx.below hW)
 have HNX:Hid (∀ (st:Int) (W:World),Below w.heap.size w W→Cb 111 #[iV proto,iV st,.bool inside,iV flags] W (iV (trackNextV proto st inside flags))):=fun st W hW=>implNext_any proto st inside flags W (hT.below hW)
 have HLF:Hid (∀ (st:Int) (W:World),Cb 112 #[.agg #[iV p.lv.udp,iV p.lv.echo,iV p.lv.opening,iV p.lv.opn,iV p.lv.closing],iV proto,iV st] W (iV (trackLifeV p.lv proto st))):=fun st W=>implLife_any p.lv proto st W
 unfold tcC at HHO HBG;dsimp only at HHO HBG;obtain ⟨ans,hans⟩ : ∃ a,a=(if (bookOk p x&&isTime now&&touchOk ⟨proto,inside,addr,port,peer,peerPort,flags⟩)=true then goI p x ⟨proto,inside,addr,port,peer,peerPort,flags⟩ now else boE 1):=⟨_,rfl⟩;rw [← hans];have HV:Hid (ans=(if (bookOk p x&&isTime now&&touchOk ⟨proto,inside,addr,port,peer,peerPort,flags⟩)=true then goI p x ⟨proto,inside,addr,port,peer,peerPort,flags⟩ now else boE 1)):=hans;have hn:isTime now=true→0≤now∧now≤1000000000:=fun h=>by unfold isTime isIn at h; simp only [Bool.and_eq_true,decide_eq_true_iff] at h; omega
 have HNN:Hid _:=hn;generalize hgi:goI p x ⟨proto,inside,addr,port,peer,peerPort,flags⟩ now=gi at *;obtain ⟨hv,hhv⟩ : ∃ h,h=(hostV x ⟨proto,inside,addr,port,peer,peerPort,flags⟩).1:=⟨_,rfl⟩;rw [← hhv] at HHP HG1 HG2 HHO HBG HGT HCB;unfold enC at HHO HBG HGT;generalize (hostV x ⟨proto,inside,addr,port,peer,peerPort,flags⟩).2=fd at *;replace HSA:=HSA.out hv;have HSB:Hid _:=HSA;clear HSA hhv;obtain ⟨d,hd⟩ : ∃ d,d=(x.binds.find? (ofIn hv.proto hv.addr hv.port)).getD bdZ:=⟨_,rfl⟩;rw [← hd] at HG2 HGT HCB;unfold bdC at HGT HCB;clear hd hans hn hgi;generalize touchOk ⟨proto,inside,addr,port,peer,peerPort,flags⟩=tr at *;generalize isTime now=tm at *;have hun:undef=Value.tuple #[]:=rfl;have hRw:w.heap.size≤w.heap.size+1+1+1:=by omega
 clear hp hx hgb hgs hps hT;have HS0:=bx4 w (PlV pa pc p) 48 (BbV ba ca bo cb x) 39 (TcR proto inside addr port peer peerPort flags) 112 [.slice none 0 0,.slice none 0 0,iV 0,.string ⟨#[]⟩,iV 0,.string ⟨#[]⟩,iV 0,iV 0] 96 (by simp) (by simp) (by simp) (by simp)
 skip;unfold plC bbC tcC;go_enter Tryz.func62,Tryz.ntmps62
 go_upto_region 1 with fail
 generalize ((aW (aW (aW w (PlV pa pc p) 48) (BbV ba ca bo cb x) 39) (TcR proto inside addr port peer peerPort flags) 112).alloc (.cells #[.slice none 0 0,.slice none 0 0,iV 0,.string ⟨#[]⟩,iV 0,.string ⟨#[]⟩,iV 0,iV 0] 96))=W at *;have HHp:=HS0.out.at mE0;obtain ⟨p0,p1,p2,p3,p4,p5,p6,p7,p8,p9⟩:=HHp.c10;clear HHp;have HHb:=HS0.out.at mE1;obtain ⟨b0,b1⟩:=HHb.c2;clear HHb;go_wp2_with fail
 refine (HOP.out _ HS0.out.b).mono ?_;rintro e w1 ⟨q1,hh⟩;have S1:Hid _:=HS0.out.kept q1;clear q1 HS0 HOP p0 p1 p2 p3 p4 p5 p6 p7 p8 p9 b0 b1;rcases hh with ⟨hok,rfl⟩ | ⟨hok,m1,m2,rfl,hm1,hm2,hbk⟩
 case inl =>
  have HV1:Hid (ans=boE 1):=by unfold Hid; rw [HV.out,hok]; rfl
  clear HV hok;unfold bkZ;go_upto_region 2 with fail
  have S2:Hid (Bxs w [(w.heap.size,(PlV pa pc p)),(w.heap.size+1,(BbV ba ca bo cb x)),(w.heap.size+1+1,(TcR proto inside addr port peer peerPort flags)),(w.heap.size+1+1+1,[.slice none 0 0,.slice none 0 0,iV 0,.string ⟨#[]⟩,iV 0,.string ⟨#[]⟩,iV 0,iV 0])] (w1.alloc (.cells #[.slice none 0 0,iV 0,iV 0,iV 0,iV 0,iV 0,iV 0,iV 0,iV 0,iV 0,.slice none 0 0,.slice none 0 0,.map none,.map none] 150))):=S1.out.kept ((Below.refl _ _).alloc (Nat.le_refl _) _);generalize (w1.alloc (.cells #[.slice none 0 0,iV 0,iV 0,iV 0,iV 0,iV 0,iV 0,iV 0,iV 0,iV 0,.slice none 0 0,.slice none 0 0,.map none,.map none] 150))=W2 at *;clear S1;have HX:Hid (ans=boE (1)):=by unfold Hid; exact HV1.out
  have HHz:=S2.out.at mE3;obtain ⟨z0,z1,z2,z3,z4,z5,z6,z7⟩:=HHz.c8;obtain ⟨zf0,zf1,zf2,zf3,zf4,zf5,zf6,zf7⟩:=HHz.f8;have HRR:Hid (HoldsL ((sW (sW (sW (sW (sW (sW (sW W2 (w.heap.size+1+1+1) 0 (.slice none 0 0)) (w.heap.size+1+1+1) 1 (.slice none 0 0)) (w.heap.size+1+1+1) 2 (iV 0)) (w.heap.size+1+1+1) 3 (.string ⟨#[]⟩)) (w.heap.size+1+1+1) 4 (iV 0)) (w.heap.size+1+1+1) 5 (.string ⟨#[]⟩)) (w.heap.size+1+1+1) 6 (iV 0)).setCell ⟨w.heap.size+1+1+1,7,none⟩ (iV (1))) (w.heap.size+1+1+1) [.slice none 0 0,.slice none 0 0,iV 0,.string ⟨#[]⟩,iV 0,.string ⟨#[]⟩,iV 0,iV (1)]):=((((((((HHz.set 0 (.slice none 0 0)).set 1 (.slice none 0 0)).set 2 (iV 0)).set 3 (.string ⟨#[]⟩)).set 4 (iV 0)).set 5 (.string ⟨#[]⟩)).set 6 (iV 0)).set 7 (iV (1)));have RB:Hid _:=((((((((S2.out.b.setCell (p:=⟨w.heap.size+1+1+1,0,none⟩) hRw (.slice none 0 0)).setCell (p:=⟨w.heap.size+1+1+1,1,none⟩) hRw (.slice none 0 0)).setCell (p:=⟨w.heap.size+1+1+1,2,none⟩) hRw (iV 0)).setCell (p:=⟨w.heap.size+1+1+1,3,none⟩) hRw (.string ⟨#[]⟩)).setCell (p:=⟨w.heap.size+1+1+1,4,none⟩) hRw (iV 0)).setCell (p:=⟨w.heap.size+1+1+1,5,none⟩) hRw (.string ⟨#[]⟩)).setCell (p:=⟨w.heap.size+1+1+1,6,none⟩) hRw (iV 0)).setCell (p:=⟨w.heap.size+1+1+1,7,none⟩) hRw (iV (1)));clear HHz;go_wp2_with fail
  exact bodyPost_ret (results_mid Tryz.results62 _ _ (w.heap.size+1+1+1) [.slice none 0 0,.slice none 0 0,iV 0,.string ⟨#[]⟩,iV 0,.string ⟨#[]⟩,iV 0,iV (1)] _ rfl HRR.out Tryz.underlying96 rfl (show (Tryz.prog.info? 96).map (·.size)=some 8 by kernel_rfl)) rfl (And.intro (by rw [HX.out]; exact ⟨none,none,0,0,rfl,.inl rfl,.inl rfl,fun g h e1=>by simp at e1⟩) RB.out)
 have HBK:Hid (BookAt w1 m1 m2 x.binds x.binds):=hbk;have HOK:Hid (bookOk p x=true):=hok;rw [hok,Bool.true_and] at HV;clear hbk hok;unfold bkC;go_upto_region 2 with fail
 have bn:Below w1.heap.size w1 (w1.alloc (.cells (KkV pa pc p ba ca bo cb x m1 m2).toArray 150)):=(Below.refl _ _).alloc (Nat.le_refl _) _;have HBK2:Hid (BookAt (w1.alloc (.cells (KkV pa pc p ba ca bo cb x m1 m2).toArray 150)) m1 m2 x.binds x.binds):=HBK.out.kept bn;have S2:Hid _:=S1.out.push (KkV pa pc p ba ca bo cb x m1 m2) (by simp) 150;generalize hW2:w1.alloc _=W2 at *;clear hW2 S1 bn HBK;generalize w1.heap.size=Bk at *;have BW:Hid (Below w.heap.size w W2):=S2.out.b;have S3:Hid (Bxs W2 [(Bk,(KkV pa pc p ba ca bo cb x m1 m2)),(w.heap.size,(PlV pa pc p)),(w.heap.size+1,(BbV ba ca bo cb x)),(w.heap.size+1+1,(TcR proto inside addr port peer peerPort flags)),(w.heap.size+1+1+1,[.slice none 0 0,.slice none 0 0,iV 0,.string ⟨#[]⟩,iV 0,.string ⟨#[]⟩,iV 0,iV 0])] W2):=⟨S2.out.k,Below.refl _ _,S2.out.z⟩;clear S2;go_wp2_with fail
 refine (HTM.out _).mono ?_;rintro e W3 ⟨rfl,hw3⟩;subst hw3
 cases tm with
 | false =>
  have HX:Hid (ans=boE (1)):=by unfold Hid; rw [HV.out]; rfl
  have HHz:=S3.out.at mE4;obtain ⟨z0,z1,z2,z3,z4,z5,z6,z7⟩:=HHz.c8;obtain ⟨zf0,zf1,zf2,zf3,zf4,zf5,zf6,zf7⟩:=HHz.f8;have HRR:Hid (HoldsL ((sW (sW (sW (sW (sW (sW (sW W3 (w.heap.size+1+1+1) 0 (.slice none 0 0)) (w.heap.size+1+1+1) 1 (.slice none 0 0)) (w.heap.size+1+1+1) 2 (iV 0)) (w.heap.size+1+1+1) 3 (.string ⟨#[]⟩)) (w.heap.size+1+1+1) 4 (iV 0)) (w.heap.size+1+1+1) 5 (.string ⟨#[]⟩)) (w.heap.size+1+1+1) 6 (iV 0)).setCell ⟨w.heap.size+1+1+1,7,none⟩ (iV (1))) (w.heap.size+1+1+1) [.slice none 0 0,.slice none 0 0,iV 0,.string ⟨#[]⟩,iV 0,.string ⟨#[]⟩,iV 0,iV (1)]):=((((((((HHz.set 0 (.slice none 0 0)).set 1 (.slice none 0 0)).set 2 (iV 0)).set 3 (.string ⟨#[]⟩)).set 4 (iV 0)).set 5 (.string ⟨#[]⟩)).set 6 (iV 0)).set 7 (iV (1)));have RB:Hid _:=(((((((((BW.out.trans (S3.out.b.mono BW.out.size)).setCell (p:=⟨w.heap.size+1+1+1,0,none⟩) hRw (.slice none 0 0)).setCell (p:=⟨w.heap.size+1+1+1,1,none⟩) hRw (.slice none 0 0)).setCell (p:=⟨w.heap.size+1+1+1,2,none⟩) hRw (iV 0)).setCell (p:=⟨w.heap.size+1+1+1,3,none⟩) hRw (.string ⟨#[]⟩)).setCell (p:=⟨w.heap.size+1+1+1,4,none⟩) hRw (iV 0)).setCell (p:=⟨w.heap.size+1+1+1,5,none⟩) hRw (.string ⟨#[]⟩)).setCell (p:=⟨w.heap.size+1+1+1,6,none⟩) hRw (iV 0)).setCell (p:=⟨w.heap.size+1+1+1,7,none⟩) hRw (iV (1)));clear HHz;go_wp2_with fail
  exact bodyPost_ret (results_mid Tryz.results62 _ _ (w.heap.size+1+1+1) [.slice none 0 0,.slice none 0 0,iV 0,.string ⟨#[]⟩,iV 0,.string ⟨#[]⟩,iV 0,iV (1)] _ rfl HRR.out Tryz.underlying96 rfl (show (Tryz.prog.info? 96).map (·.size)=some 8 by kernel_rfl)) rfl (And.intro (by rw [HX.out]; exact ⟨none,none,0,0,rfl,.inl rfl,.inl rfl,fun g h e1=>by simp at e1⟩) RB.out)
 | true =>
 rw [Bool.true_and] at HV;obtain ⟨hn0,hn1⟩:=HNN.out rfl;have HHt:=S3.out.at mE3;obtain ⟨t0,t1,t2,t3,t4,t5,t6⟩:=HHt.c7;clear HHt;go_wp2_with fail
 refine (HTR.out _).mono ?_;rintro e W4 ⟨rfl,q4⟩;have S4:Hid _:=S3.out.kept q4;clear q4 S3 HTM HTR HNN t0 t1 t2 t3 t4 t5 t6
 cases tr with
 | false =>
  have HX:Hid (ans=boE (1)):=by unfold Hid; rw [HV.out]; rfl
  have HHz:=S4.out.at mE4;obtain ⟨z0,z1,z2,z3,z4,z5,z6,z7⟩:=HHz.c8;obtain ⟨zf0,zf1,zf2,zf3,zf4,zf5,zf6,zf7⟩:=HHz.f8;have HRR:Hid (HoldsL ((sW (sW (sW (sW (sW (sW (sW W4 (w.heap.size+1+1+1) 0 (.slice none 0 0)) (w.heap.size+1+1+1) 1 (.slice none 0 0)) (w.heap.size+1+1+1) 2 (iV 0)) (w.heap.size+1+1+1) 3 (.string ⟨#[]⟩)) (w.heap.size+1+1+1) 4 (iV 0)) (w.heap.size+1+1+1) 5 (.string ⟨#[]⟩)) (w.heap.size+1+1+1) 6 (iV 0)).setCell ⟨w.heap.size+1+1+1,7,none⟩ (iV (1))) (w.heap.size+1+1+1) [.slice none 0 0,.slice none 0 0,iV 0,.string ⟨#[]⟩,iV 0,.string ⟨#[]⟩,iV 0,iV (1)]):=((((((((HHz.set 0 (.slice none 0 0)).set 1 (.slice none 0 0)).set 2 (iV 0)).set 3 (.string ⟨#[]⟩)).set 4 (iV 0)).set 5 (.string ⟨#[]⟩)).set 6 (iV 0)).set 7 (iV (1)));have RB:Hid _:=(((((((((BW.out.trans (S4.out.b.mono BW.out.size)).setCell (p:=⟨w.heap.size+1+1+1,0,none⟩) hRw (.slice none 0 0)).setCell (p:=⟨w.heap.size+1+1+1,1,none⟩) hRw (.slice none 0 0)).setCell (p:=⟨w.heap.size+1+1+1,2,none⟩) hRw (iV 0)).setCell (p:=⟨w.heap.size+1+1+1,3,none⟩) hRw (.string ⟨#[]⟩)).setCell (p:=⟨w.heap.size+1+1+1,4,none⟩) hRw (iV 0)).setCell (p:=⟨w.heap.size+1+1+1,5,none⟩) hRw (.string ⟨#[]⟩)).setCell (p:=⟨w.heap.size+1+1+1,6,none⟩) hRw (iV 0)).setCell (p:=⟨w.heap.size+1+1+1,7,none⟩) hRw (iV (1)));clear HHz;go_wp2_with fail
  exact bodyPost_ret (results_mid Tryz.results62 _ _ (w.heap.size+1+1+1) [.slice none 0 0,.slice none 0 0,iV 0,.string ⟨#[]⟩,iV 0,.string ⟨#[]⟩,iV 0,iV (1)] _ rfl HRR.out Tryz.underlying96 rfl (show (Tryz.prog.info? 96).map (·.size)=some 8 by kernel_rfl)) rfl (And.intro (by rw [HX.out]; exact ⟨none,none,0,0,rfl,.inl rfl,.inl rfl,fun g h e1=>by simp at e1⟩) RB.out)
 | true =>
 have HV2:Hid (ans=gi):=by unfold Hid; rw [HV.out,if_pos rfl]
 clear HV;have HHk:=S4.out.at mE0;obtain ⟨k0,k1,k2,k3,k4,k5,k6,k7,k8,k9,k10,k11,k12,k13⟩:=HHk.c14;clear HHk;have HHt:=S4.out.at mE3;obtain ⟨t0,t1,t2,t3,t4,t5,t6⟩:=HHt.c7;clear HHt;go_wp2_with fail
 refine (HHO.out _ m1 m2 (by first | rfl | trivial) (HBK2.out.kept S4.out.b)).mono ?_;rintro e W5 ⟨rfl,q5⟩;have S5:Hid _:=S4.out.kept q5;clear q5 S4 HHO k0 k1 k2 k3 k4 k5 k6 k7 k8 k9 k10 k11 k12 k13 t0 t1 t2 t3 t4 t5 t6;go_upto_region 5 with fail
 have S6:Hid _:=S5.out.push (EnV hv.proto hv.addr hv.port) (by simp) 155;generalize hW6:W5.alloc _=W6 at *;clear hW6 S5;generalize W5.heap.size=Be at *
 cases fd with
 | false =>
  have HX:Hid (ans=boE (6)):=by unfold Hid; rw [HV2.out]; exact HG0.out (by first | rfl | trivial)
  have HHz:=S6.out.at mE5;obtain ⟨z0,z1,z2,z3,z4,z5,z6,z7⟩:=HHz.c8;obtain ⟨zf0,zf1,zf2,zf3,zf4,zf5,zf6,zf7⟩:=HHz.f8;have HRR:Hid (HoldsL ((sW (sW (sW (sW (sW (sW (sW W6 (w.heap.size+1+1+1) 0 (.slice none 0 0)) (w.heap.size+1+1+1) 1 (.slice none 0 0)) (w.heap.size+1+1+1) 2 (iV 0)) (w.heap.size+1+1+1) 3 (.string ⟨#[]⟩)) (w.heap.size+1+1+1) 4 (iV 0)) (w.heap.size+1+1+1) 5 (.string ⟨#[]⟩)) (w.heap.size+1+1+1) 6 (iV 0)).setCell ⟨w.heap.size+1+1+1,7,none⟩ (iV (6))) (w.heap.size+1+1+1) [.slice none 0 0,.slice none 0 0,iV 0,.string ⟨#[]⟩,iV 0,.string ⟨#[]⟩,iV 0,iV (6)]):=((((((((HHz.set 0 (.slice none 0 0)).set 1 (.slice none 0 0)).set 2 (iV 0)).set 3 (.string ⟨#[]⟩)).set 4 (iV 0)).set 5 (.string ⟨#[]⟩)).set 6 (iV 0)).set 7 (iV (6)));have RB:Hid _:=(((((((((BW.out.trans (S6.out.b.mono BW.out.size)).setCell (p:=⟨w.heap.size+1+1+1,0,none⟩) hRw (.slice none 0 0)).setCell (p:=⟨w.heap.size+1+1+1,1,none⟩) hRw (.slice none 0 0)).setCell (p:=⟨w.heap.size+1+1+1,2,none⟩) hRw (iV 0)).setCell (p:=⟨w.heap.size+1+1+1,3,none⟩) hRw (.string ⟨#[]⟩)).setCell (p:=⟨w.heap.size+1+1+1,4,none⟩) hRw (iV 0)).setCell (p:=⟨w.heap.size+1+1+1,5,none⟩) hRw (.string ⟨#[]⟩)).setCell (p:=⟨w.heap.size+1+1+1,6,none⟩) hRw (iV 0)).setCell (p:=⟨w.heap.size+1+1+1,7,none⟩) hRw (iV (6)));clear HHz;go_wp2_with fail
  exact bodyPost_ret (results_mid Tryz.results62 _ _ (w.heap.size+1+1+1) [.slice none 0 0,.slice none 0 0,iV 0,.string ⟨#[]⟩,iV 0,.string ⟨#[]⟩,iV 0,iV (6)] _ rfl HRR.out Tryz.underlying96 rfl (show (Tryz.prog.info? 96).map (·.size)=some 8 by kernel_rfl)) rfl (And.intro (by rw [HX.out]; exact ⟨none,none,0,0,rfl,.inl rfl,.inl rfl,fun g h e1=>by simp at e1⟩) RB.out)
 | true =>
 have HHb:=S6.out.at mE3;have b1:=HHb.cell (j:=1) rfl;clear HHb;have HHt:=S6.out.at mE4;obtain ⟨t0,t1,t2,t3,t4,t5,t6⟩:=HHt.c7;clear HHt;have HHn:=S6.out.at mE0;obtain ⟨n0,n1,n2⟩:=HHn.c3;clear HHn;go_wp2_with fail
 refine (HSB.out _ (BW.out.trans (S6.out.b.mono BW.out.size))).mono ?_;rintro e W7 ⟨rfl,q7⟩;have S7:Hid _:=S6.out.kept q7;clear q7 S6 HSB HG0 b1 t0 t1 t2 t3 t4 t5 t6 n0 n1 n2
 cases hfi:x.sess.findIdx? (fun s=>sameSk (sessK s) (keyT hv ⟨proto,inside,addr,port,peer,peerPort,flags⟩)) with
 | none =>
  have hk:findI (fun s=>sameSk (sessK s) (keyT hv ⟨proto,inside,addr,port,peer,peerPort,flags⟩)) x.sess=-1:=by unfold findI; rw [hfi]
  have HX:Hid (ans=beginV p x hv ⟨proto,inside,addr,port,peer,peerPort,flags⟩ now):=by unfold Hid; rw [HV2.out]; exact HG1.out (by first | rfl | trivial) hfi
  clear HV2 HG1 HG2 hfi;rw [hk];clear hk;generalize beginV p x hv ⟨proto,inside,addr,port,peer,peerPort,flags⟩ now=nv at *;have HHk:=S7.out.at mE1;obtain ⟨k0,k1,k2,k3,k4,k5,k6,k7,k8,k9,k10,k11,k12,k13⟩:=HHk.c14;clear HHk;have HHt:=S7.out.at mE4;obtain ⟨t0,t1,t2,t3,t4,t5,t6⟩:=HHt.c7;clear HHt;have HHn:=S7.out.at mE0;obtain ⟨n0,n1,n2⟩:=HHn.c3;clear HHn;have hRl:w.heap.size+1+1+1 < W7.heap.size:=(S7.out.lts _ mE5).1;have hwl:w.heap.size≤W7.heap.size:=Nat.le_trans BW.out.size S7.out.b.size;go_wp2_with fail
  refine (HBG.out _ m1 m2 (BW.out.trans (S7.out.b.mono BW.out.size)) HOK.out (by first | rfl | trivial) (by first | rfl | trivial) (by first | rfl | trivial) (HBK2.out.kept S7.out.b)).mono ?_;rintro e W8 ⟨⟨a1,a2,c1,c2,rfl,hown⟩,q8⟩;have S8:Hid _:=S7.out.kept q8;have HHz:=S8.out.at mE5;obtain ⟨z0,z1,z2,z3,z4,z5,z6,z7⟩:=HHz.c8;obtain ⟨zf0,zf1,zf2,zf3,zf4,zf5,zf6,zf7⟩:=HHz.f8;have HRR:Hid (HoldsL ((sW (sW (sW (sW (sW (sW (sW W8 (w.heap.size+1+1+1) 0 (.slice a1 nv.bib.binds.length c1)) (w.heap.size+1+1+1) 1 (.slice a2 nv.bib.sess.length c2)) (w.heap.size+1+1+1) 2 (iV nv.bind.proto)) (w.heap.size+1+1+1) 3 (.string nv.bind.inn)) (w.heap.size+1+1+1) 4 (iV nv.bind.inPort)) (w.heap.size+1+1+1) 5 (.string nv.bind.out)) (w.heap.size+1+1+1) 6 (iV nv.bind.outPort)).setCell ⟨w.heap.size+1+1+1,7,none⟩ (iV nv.code)) (w.heap.size+1+1+1) [.slice a1 nv.bib.binds.length c1,.slice a2 nv.bib.sess.length c2,iV nv.bind.proto,.string nv.bind.inn,iV nv.bind.inPort,.string nv.bind.out,iV nv.bind.outPort,iV nv.code]):=((((((((HHz.set 0 (.slice a1 nv.bib.binds.length c1)).set 1 (.slice a2 nv.bib.sess.length c2)).set 2 (iV nv.bind.proto)).set 3 (.string nv.bind.inn)).set 4 (iV nv.bind.inPort)).set 5 (.string nv.bind.out)).set 6 (iV nv.bind.outPort)).set 7 (iV nv.code));have RB:Hid _:=(((((((((BW.out.trans (S8.out.b.mono BW.out.size)).setCell (p:=⟨w.heap.size+1+1+1,0,none⟩) hRw (.slice a1 nv.bib.binds.length c1)).setCell (p:=⟨w.heap.size+1+1+1,1,none⟩) hRw (.slice a2 nv.bib.sess.length c2)).setCell (p:=⟨w.heap.size+1+1+1,2,none⟩) hRw (iV nv.bind.proto)).setCell (p:=⟨w.heap.size+1+1+1,3,none⟩) hRw (.string nv.bind.inn)).setCell (p:=⟨w.heap.size+1+1+1,4,none⟩) hRw (iV nv.bind.inPort)).setCell (p:=⟨w.heap.size+1+1+1,5,none⟩) hRw (.string nv.bind.out)).setCell (p:=⟨w.heap.size+1+1+1,6,none⟩) hRw (iV nv.bind.outPort)).setCell (p:=⟨w.heap.size+1+1+1,7,none⟩) hRw (iV nv.code));clear HHz;have HOW:Hid (BbOwn w.heap.size ((sW (sW (sW (sW (sW (sW (sW W8 (w.heap.size+1+1+1) 0 (.slice a1 nv.bib.binds.length c1)) (w.heap.size+1+1+1) 1 (.slice a2 nv.bib.sess.length c2)) (w.heap.size+1+1+1) 2 (iV nv.bind.proto)) (w.heap.size+1+1+1) 3 (.string nv.bind.inn)) (w.heap.size+1+1+1) 4 (iV nv.bind.inPort)) (w.heap.size+1+1+1) 5 (.string nv.bind.out)) (w.heap.size+1+1+1) 6 (iV nv.bind.outPort)).setCell ⟨w.heap.size+1+1+1,7,none⟩ (iV nv.code)) a1 a2 nv.bib):=⟨(hown.bd.grown (grown_set (grown_set (grown_set (grown_set (grown_set (grown_set (grown_set (grown_set (World.grownBy.refl _ _) _) _) _) _) _) _) _) _) hRl).down hwl,(hown.ss.grown (grown_set (grown_set (grown_set (grown_set (grown_set (grown_set (grown_set (grown_set (World.grownBy.refl _ _) _) _) _) _) _) _) _) _) hRl).down hwl,hown.ne⟩;clear hown q8;unfold boC;go_wp2_with fail
  exact bodyPost_ret (results_mid Tryz.results62 _ _ _ _ _ rfl HRR.out Tryz.underlying96 rfl (show (Tryz.prog.info? 96).map (·.size)=some 8 by kernel_rfl)) rfl (And.intro (by rw [HX.out]; exact ⟨a1,a2,c1,c2,rfl,HOW.out⟩) RB.out)
 | some j =>
  have hk:findI (fun s=>sameSk (sessK s) (keyT hv ⟨proto,inside,addr,port,peer,peerPort,flags⟩)) x.sess=(j:Int):=by unfold findI; rw [hfi]
  obtain ⟨hlt,-⟩:=idx_some hfi;obtain ⟨s,hs⟩ : ∃ s,s=x.sess[j]:=⟨_,rfl⟩;have HW:Hid (ans=⟨⟨x.binds,x.sess.set j { s with state:=trackNextV proto s.state inside flags,untl:=now+trackLifeV p.lv proto (trackNextV proto s.state inside flags) }⟩,d,0⟩):=by unfold Hid; rw [HV2.out,HG2.out j hlt (by first | rfl | trivial) hfi,hs]; rfl
  rw [hk];clear hfi hk HV2 HG1 HG2 HBG;have HSJ:Hid (s=x.sess[j]):=hs;clear hs;replace HNX:=HNX.out s.state;have HNY:Hid _:=HNX;clear HNX;generalize trackNextV proto s.state inside flags=st at *;replace HLF:=HLF.out st;have HLG:Hid _:=HLF;clear HLF;obtain ⟨hf0,hf1⟩:=trackLife_in p.lv proto st;generalize trackLifeV p.lv proto st=lf at *;have hge:¬ (j:Int) < 0:=by omega
  have HHb:=S7.out.at mE3;obtain ⟨b0,b1⟩:=HHb.c2;clear HHb;go_wp2_with fail
  refine (HCY.out _ (BW.out.trans (S7.out.b.mono BW.out.size))).mono ?_;rintro e W8 ⟨⟨bv,sv,rfl,o1,o2⟩,q8⟩;have S8:Hid _:=S7.out.kept q8;have HO:Hid _:=RowsO.make (ks:=[(Be,(EnV hv.proto hv.addr hv.port)),(Bk,(KkV pa pc p ba ca bo cb x m1 m2)),(w.heap.size,(PlV pa pc p)),(w.heap.size+1,(BbV ba ca bo cb x)),(w.heap.size+1+1,(TcR proto inside addr port peer peerPort flags)),(w.heap.size+1+1+1,[.slice none 0 0,.slice none 0 0,iV 0,.string ⟨#[]⟩,iV 0,.string ⟨#[]⟩,iV 0,iV 0])]) (x:=x) S7.out.b.size S8.out.b o1 o2 S8.out.k S7.out.lts q8.size;obtain ⟨ab,cb1,hbv,-,-⟩:=(Row.shape bdL_length (w0:=W8) ⟨o1,Below.refl _ _⟩ : ∃ a' cap,bv=.slice a' x.binds.length cap∧x.binds.length≤cap∧SlOwn bdL 5 W7.heap.size W8 a' x.binds);obtain ⟨gs,cs1,hsv⟩ : ∃ gs cs1,sv=.slice (some ⟨gs,0,none⟩) x.sess.length cs1:=by
   rcases o2.2 with ⟨_,h0⟩ | ⟨g,cap,cur,h3,_⟩
   ·omega
   ·exact ⟨g,cap,h3⟩
  subst hbv hsv;clear q8 o1 o2 S8 S7 b0 b1 hge HCY;go_upto_region 11 with fail
  generalize (W8.alloc (.cells #[(.slice ab x.binds.length cb1),(.slice (some ⟨gs,0,none⟩) x.sess.length cs1)] 39))=V1 at *;generalize W8.heap.size=O at *;generalize W7.heap.size=base at *;have HV1:Hid (RowsO W3 base O [(Be,(EnV hv.proto hv.addr hv.port)),(Bk,(KkV pa pc p ba ca bo cb x m1 m2)),(w.heap.size,(PlV pa pc p)),(w.heap.size+1,(BbV ba ca bo cb x)),(w.heap.size+1+1,(TcR proto inside addr port peer peerPort flags)),(w.heap.size+1+1+1,[.slice none 0 0,.slice none 0 0,iV 0,.string ⟨#[]⟩,iV 0,.string ⟨#[]⟩,iV 0,iV 0])] (.slice ab x.binds.length cb1) (.slice (some ⟨gs,0,none⟩) x.sess.length cs1) x.binds (x.sess) V1):=HO.out;clear HO;have hltI:(j:Int) < (x.sess.length:Int):=by omega
  have HCP:Hid (∀ wy,Below V1.drew.heap.size V1.drew wy→_):=fun wy hy=>HV1.out.kept ((Below.refl _ _).drew.trans hy)
  go_cut [15] (fun v wx=>v=iV st∧RowsO W3 base O [(Be,(EnV hv.proto hv.addr hv.port)),(Bk,(KkV pa pc p ba ca bo cb x m1 m2)),(w.heap.size,(PlV pa pc p)),(w.heap.size+1,(BbV ba ca bo cb x)),(w.heap.size+1+1,(TcR proto inside addr port peer peerPort flags)),(w.heap.size+1+1+1,[.slice none 0 0,.slice none 0 0,iV 0,.string ⟨#[]⟩,iV 0,.string ⟨#[]⟩,iV 0,iV 0])] (.slice ab x.binds.length cb1) (.slice (some ⟨gs,0,none⟩) x.sess.length cs1) x.binds (x.sess) wx)
  case first =>
   rename_i J K2 hJ hK2;clear hun;refine wp_region_growH [62,63,64,65,66,67,68,69,70,71,72,73,74,15] (by kernel_rfl) (by kernel_rfl) ?_;apply GCh.v0
   ·rfl
   ·intro K' a wy ho hd hb hK kz;have o6:=ho 6 (by decide);simp [slot] at o6;clear hd ho;go_simp;try go_bits
    exact kz _ rfl
   apply GCh.v1
   ·rfl
   ·intro K' a wy ho hd hb hK kz;have q0:=hd ⟨0,.data⟩ (by simp) rfl;simp [rAt,IsV,slot] at q0;clear hd ho;have hst:=HCP.out wy hb;have k1:=hst.o.cell (j:=1) rfl;have r5:wy.cell? ⟨gs,j*7+5,none⟩=some (iV s.state):=own_at hst.so rfl j hlt 5 _ (by rw [← HSJ.out]; rfl);have HHt:=hst.at mE4;obtain ⟨t0,t1,t2,t3,t4,t5,t6⟩:=HHt.c7;clear HHt;clear hst;go_simp;try go_bits
    exact kz _ rfl
   apply GCh.v2
   ·rfl
   ·intro K' a wy ho hd hb hK kz;have o14:=ho 14 (by decide);simp [slot] at o14;clear hd ho;go_simp;try go_bits
    exact kz _ rfl
   apply GCh.v3
   ·rfl
   ·intro K' a wy ho hd hb hK kz;have q2:=hd ⟨2,.data⟩ (by simp) rfl;simp [rAt,IsV,slot] at q2;clear hd ho;have hst:=HCP.out wy hb;have k1:=hst.o.cell (j:=1) rfl;have r5:wy.cell? ⟨gs,j*7+5,none⟩=some (iV s.state):=own_at hst.so rfl j hlt 5 _ (by rw [← HSJ.out]; rfl);have HHt:=hst.at mE4;obtain ⟨t0,t1,t2,t3,t4,t5,t6⟩:=HHt.c7;clear HHt;clear hst;go_simp;try go_bits
    exact kz _ rfl
   apply GCh.v4
   ·rfl
   ·intro K' a wy ho hd hb hK kz;have o13:=ho 13 (by decide);simp [slot] at o13;clear hd ho;go_simp;try go_bits
    exact kz _ rfl
   apply GCh.v5
   ·rfl
   ·intro K' a wy ho hd hb hK kz;have q3:=hd ⟨3,.data⟩ (by simp) rfl;have q4:=hd ⟨4,.data⟩ (by simp) rfl;simp [rAt,IsV,slot] at q3 q4;clear hd ho;go_simp;try go_bits
    exact kz _ rfl
   apply GCh.v6
   ·rfl
   ·intro K' a wy ho hd hb hK kz;have q5:=hd ⟨5,.data⟩ (by simp) rfl;simp [rAt,IsV,slot] at q5;clear hd ho;go_simp;try go_bits
    exact kz _ rfl
   apply GCh.v7
   ·rfl
   ·intro K' a wy ho hd hb hK kz;have q6:=hd ⟨6,.data⟩ (by simp) rfl;simp [rAt,IsV,slot] at q6;clear hd ho;have hst:=HCP.out wy hb;have k1:=hst.o.cell (j:=1) rfl;have r5:wy.cell? ⟨gs,j*7+5,none⟩=some (iV s.state):=own_at hst.so rfl j hlt 5 _ (by rw [← HSJ.out]; rfl);have HHt:=hst.at mE4;obtain ⟨t0,t1,t2,t3,t4,t5,t6⟩:=HHt.c7;clear HHt;clear hst;go_simp;try go_bits
    exact kz _ rfl
   apply GCh.v8
   ·rfl
   ·intro K' a wy ho hd hb hK kz;have o6:=ho 6 (by decide);simp [slot] at o6;clear hd ho;go_simp;try go_bits
    exact kz _ rfl
   apply GCh.v9
   ·rfl
   ·intro K' a wy ho hd hb hK kz;have q8:=hd ⟨8,.data⟩ (by simp) rfl;simp [rAt,IsV,slot] at q8;clear hd ho;have hst:=HCP.out wy hb;have k1:=hst.o.cell (j:=1) rfl;have r5:wy.cell? ⟨gs,j*7+5,none⟩=some (iV s.state):=own_at hst.so rfl j hlt 5 _ (by rw [← HSJ.out]; rfl);have HHt:=hst.at mE4;obtain ⟨t0,t1,t2,t3,t4,t5,t6⟩:=HHt.c7;clear HHt;clear hst;go_simp;try go_bits
    exact kz _ rfl
   apply GCh.v10
   ·rfl
   ·intro K' a wy ho hd hb hK kz;have o6:=ho 6 (by decide);simp [slot] at o6;clear hd ho;go_simp;try go_bits
    exact kz _ rfl
   apply GCh.v11
   ·rfl
   ·intro K' a wy ho hd hb hK kz;have q10:=hd ⟨10,.data⟩ (by simp) rfl;simp [rAt,IsV,slot] at q10;clear hd ho;have hst:=HCP.out wy hb;have k1:=hst.o.cell (j:=1) rfl;have r5:wy.cell? ⟨gs,j*7+5,none⟩=some (iV s.state):=own_at hst.so rfl j hlt 5 _ (by rw [← HSJ.out]; rfl);have HHt:=hst.at mE4;obtain ⟨t0,t1,t2,t3,t4,t5,t6⟩:=HHt.c7;clear HHt;clear hst;go_simp;try go_bits
    exact kz _ rfl
   apply GCh.v12
   ·rfl
   ·intro K' a wy ho hd hb hK kz;have q1:=hd ⟨1,.data⟩ (by simp) rfl;have q7:=hd ⟨7,.data⟩ (by simp) rfl;have q9:=hd ⟨9,.data⟩ (by simp) rfl;have q11:=hd ⟨11,.data⟩ (by simp) rfl;simp [rAt,IsV,slot] at q1 q7 q9 q11;clear hd ho;go_simp;refine (HNY.out wy (BW.out.trans ((HCP.out wy hb).b.mono BW.out.size))).mono ?_;rintro e wz ⟨rfl,hz⟩;exact hK _ _ rfl hz
   apply GCh.v13
   ·rfl
   ·intro K' a wy ho hd hb hK kz;have q12:=hd ⟨12,.data⟩ (by simp) rfl;simp [rAt,IsV,slot] at q12;clear hd ho;go_simp;try go_bits
    exact kz _ rfl
   intro X wz hR hz;obtain ⟨x0,x1,x2,x3,x4,x5,x6,x7,x8,x9,x10,x11,x12,x13,-⟩:=hR;simp only [IsV] at x0 x1 x2 x3 x4 x5 x6 x7 x8 x9 x10 x11 x12 x13;simp only [putsFrom,x0,x1,x2,x3,x4,x5,x6,x7,x8,x9,x10,x11,x12,x13];clear x0 x1 x2 x3 x4 x5 x6 x7 x8 x9 x10 x11 x12 x13;go_simp;refine hK2 _ _ (hJ _ _ ?_);(repeat apply Exists.intro)
   refine ⟨⟨rfl,HCP.out wz hz⟩,rfl⟩
  case rest =>
  obtain ⟨rfl,hS⟩:=hcut;have V2:Hid _:=hS;clear hS HV1 HCP HNY;generalize wc=U2 at *;have k1:=V2.out.o.cell (j:=1) rfl;have r5:U2.cell? ⟨gs,j*7+5,none⟩=some (iV s.state):=own_at V2.out.so rfl j hlt 5 _ (by rw [← HSJ.out]; rfl);have f5:U2.frozen? ⟨gs,j*7+5,none⟩=false:=own_free V2.out.so _;have V3:Hid _:=V2.out.setS rfl j hlt 5 (by decide) (iV st) { s with state:=st } (by rw [← HSJ.out]; rfl);clear V2;go_upto_region 13 with fail
  clear k1 r5 f5;generalize U2.setCell ⟨gs,j*7+5,none⟩ (iV st)=U3 at *;have V4:Hid (RowsO W3 base O [(Be,(EnV hv.proto hv.addr hv.port)),(Bk,(KkV pa pc p ba ca bo cb x m1 m2)),(w.heap.size,(PlV pa pc p)),(w.heap.size+1,(BbV ba ca bo cb x)),(w.heap.size+1+1,(TcR proto inside addr port peer peerPort flags)),(w.heap.size+1+1+1,[.slice none 0 0,.slice none 0 0,iV 0,.string ⟨#[]⟩,iV 0,.string ⟨#[]⟩,iV 0,iV 0])] (.slice ab x.binds.length cb1) (.slice (some ⟨gs,0,none⟩) x.sess.length cs1) x.binds (x.sess.set j { s with state:=st }) U3):=V3.out;clear V3;have HCP:Hid (∀ wy,Below U3.drew.heap.size U3.drew wy→_):=fun wy hy=>V4.out.kept ((Below.refl _ _).drew.trans hy)
  clear V4;go_cut [14] (fun v wx=>v=.pointer (some ⟨O,0,none⟩)∧RowsO W3 base O [(Be,(EnV hv.proto hv.addr hv.port)),(Bk,(KkV pa pc p ba ca bo cb x m1 m2)),(w.heap.size,(PlV pa pc p)),(w.heap.size+1,(BbV ba ca bo cb x)),(w.heap.size+1+1,(TcR proto inside addr port peer peerPort flags)),(w.heap.size+1+1+1,[.slice none 0 0,.slice none 0 0,iV 0,.string ⟨#[]⟩,iV 0,.string ⟨#[]⟩,iV 0,iV 0])] (.slice ab x.binds.length cb1) (.slice (some ⟨gs,0,none⟩) x.sess.length cs1) x.binds (x.sess.set j { s with state:=st,untl:=now+lf }) wx)
  case first =>
   rename_i J K2 hJ hK2;try clear hun
   refine wp_region_growV [81,82,83,84,85,86,87,88,89,90,91,92,93] (by kernel_rfl) (by kernel_rfl) ?_;apply GChV.v0
   ·rfl
   ·intro K' a wy ho hd hb hK kz;have o14:=ho 14 (by decide);simp [slot] at o14;clear hd ho;go_simp;try go_bits
    exact kz _ rfl
   apply GChV.v1
   ·rfl
   ·intro K' a wy ho hd hb hK kz;have q0:=hd ⟨0,.data⟩ (by simp) rfl;simp [rAt,IsV,slot] at q0;clear hd ho;have hst:=HCP.out wy hb;have k1:=hst.o.cell (j:=1) rfl;have HHt:=hst.at mE4;have t0:=HHt.cell (j:=0) rfl;clear HHt;have HHp:=hst.at mE2;obtain ⟨-,-,-,-,-,p5,p6,p7,p8,p9⟩:=HHp.c10;clear HHp;clear hst;go_simp;try go_bits
    exact kz _ rfl
   apply GChV.v2
   ·rfl
   ·intro K' a wy ho hd hb hK kz;have o13:=ho 13 (by decide);simp [slot] at o13;clear hd ho;go_simp;try go_bits
    exact kz _ rfl
   apply GChV.v3
   ·rfl
   ·intro K' a wy ho hd hb hK kz;have o3:=ho 3 (by decide);simp [slot] at o3;clear hd ho;go_simp;try go_bits
    exact kz _ rfl
   apply GChV.v4
   ·rfl
   ·intro K' a wy ho hd hb hK kz;have o4:=ho 4 (by decide);simp [slot] at o4;clear hd ho;go_simp;try go_bits
    exact kz _ rfl
   apply GChV.v5
   ·rfl
   ·intro K' a wy ho hd hb hK kz;have q4:=hd ⟨4,.data⟩ (by simp) rfl;simp [rAt,IsV,slot] at q4;clear hd ho;have hst:=HCP.out wy hb;have k1:=hst.o.cell (j:=1) rfl;have HHt:=hst.at mE4;have t0:=HHt.cell (j:=0) rfl;clear HHt;have HHp:=hst.at mE2;obtain ⟨-,-,-,-,-,p5,p6,p7,p8,p9⟩:=HHp.c10;clear HHp;clear hst;go_simp;try go_bits
    exact kz _ rfl
   apply GChV.v6
   ·rfl
   ·intro K' a wy ho hd hb hK kz;have o6:=ho 6 (by decide);simp [slot] at o6;clear hd ho;go_simp;try go_bits
    exact kz _ rfl
   apply GChV.v7
   ·rfl
   ·intro K' a wy ho hd hb hK kz;have q6:=hd ⟨6,.data⟩ (by simp) rfl;simp [rAt,IsV,slot] at q6;clear hd ho;have hst:=HCP.out wy hb;have k1:=hst.o.cell (j:=1) rfl;have HHt:=hst.at mE4;have t0:=HHt.cell (j:=0) rfl;clear HHt;have HHp:=hst.at mE2;obtain ⟨-,-,-,-,-,p5,p6,p7,p8,p9⟩:=HHp.c10;clear HHp;clear hst;go_simp;try go_bits
    exact kz _ rfl
   apply GChV.v8
   ·rfl
   ·intro K' a wy ho hd hb hK kz;have o15:=ho 15 (by decide);simp [slot] at o15;clear hd ho;go_simp;try go_bits
    exact kz _ rfl
   apply GChV.v9
   ·rfl
   ·intro K' a wy ho hd hb hK kz;have q5:=hd ⟨5,.data⟩ (by simp) rfl;have q7:=hd ⟨7,.data⟩ (by simp) rfl;have q8:=hd ⟨8,.data⟩ (by simp) rfl;simp [rAt,IsV,slot] at q5 q7 q8;clear hd ho;go_simp;refine (HLG.out wy).mono ?_;rintro e wz ⟨rfl,hz⟩;exact hK _ _ rfl hz
   apply GChV.v10
   ·rfl
   ·intro K' a wy ho hd hb hK kz;have q3:=hd ⟨3,.data⟩ (by simp) rfl;have q9:=hd ⟨9,.data⟩ (by simp) rfl;simp [rAt,IsV,slot] at q3 q9;clear hd ho;go_simp;try go_bits
    exact kz _ rfl
   apply GChV.v11
   ·rfl
   ·intro K' a wy ho hd hb hK kz;have q1:=hd ⟨1,.data⟩ (by simp) rfl;have q2:=hd ⟨2,.data⟩ (by simp) rfl;simp [rAt,IsV,slot] at q1 q2;clear hd ho;go_simp;try go_bits
    exact kz _ rfl
   apply GChV.v12
   ·rfl
   ·intro K' a wy ho hd hb hK kz;have q11:=hd ⟨11,.data⟩ (by simp) rfl;simp [rAt,IsV,slot] at q11;clear hd ho;go_simp;try go_bits
    exact kz _ rfl
   intro X wz hR hz;obtain ⟨x0,x1,x2,x3,x4,x5,x6,x7,x8,x9,x10,x11,x12,-⟩:=hR;simp only [IsV] at x0 x1 x2 x3 x4 x5 x6 x7 x8 x9 x10 x11 x12;simp only [putsFrom,x0,x1,x2,x3,x4,x5,x6,x7,x8,x9,x10,x11,x12];clear x0 x1 x2 x3 x4 x5 x6 x7 x8 x9 x10 x11 x12;have SZ:=HCP.out wz hz;have hls:x.sess.length=(x.sess.set j { s with state:=st }).length:=by simp
   have r6:wz.cell? ⟨gs,j*7+6,none⟩=some (iV s.untl):=own_at SZ.so hls j (by simpa using hlt) 6 _ (by simp [ssL]);have f6:wz.frozen? ⟨gs,j*7+6,none⟩=false:=own_free SZ.so _;have S8:=SZ.setS hls j (by simpa using hlt) 6 (by decide) (iV (now+lf)) { s with state:=st,untl:=now+lf } (by simp [ssL]);rw [List.set_set] at S8;have S9:Hid _:=S8;clear S8 SZ hz HCP hls;simp only [List.length_cons,List.length_nil,List.drop_succ_cons,List.drop_zero,Nat.zero_add,Nat.reduceAdd];intro K5 hK5;go_simp;refine hK5 _ _ ?_;show Exit.then _ _ _ _ _;refine hK2 _ _ (hJ _ _ ?_);(repeat apply Exists.intro)
   exact ⟨⟨rfl,S9.out⟩,rfl⟩
  case rest =>
  obtain ⟨rfl,hS⟩:=hcut;have V5:Hid _:=hS;clear hS HCP HLG;generalize wc=U5 at *;go_upto_region 14 with fail
  have HCP:Hid (∀ wy,Below U5.drew.heap.size U5.drew wy→_):=fun wy hy=>V5.out.kept ((Below.refl _ _).drew.trans hy)
  clear V5;try clear hun
  refine wp_region_growV [94,95,96,97,98,99,100] (by kernel_rfl) (by kernel_rfl) ?_;apply GChV.v0
  ·rfl
  ·intro K' a wy ho hd hb hK kz;have o14:=ho 14 (by decide);simp [slot] at o14;clear hd ho;have hst:=HCP.out wy hb;obtain ⟨k0,k1⟩:=hst.o.c2;have HHk:=hst.at mE1;have k12:=HHk.cell (j:=12) rfl;clear HHk;have HHn:=hst.at mE0;obtain ⟨n0,n1,n2⟩:=HHn.c3;clear HHn;clear hst;go_simp;try go_bits
   exact kz _ rfl
  apply GChV.v1
  ·rfl
  ·intro K' a wy ho hd hb hK kz;have o9:=ho 9 (by decide);simp [slot] at o9;clear hd ho;go_simp;try go_bits
   exact kz _ rfl
  apply GChV.v2
  ·rfl
  ·intro K' a wy ho hd hb hK kz;have q1:=hd ⟨1,.data⟩ (by simp) rfl;simp [rAt,IsV,slot] at q1;clear hd ho;have hst:=HCP.out wy hb;obtain ⟨k0,k1⟩:=hst.o.c2;have HHk:=hst.at mE1;have k12:=HHk.cell (j:=12) rfl;clear HHk;have HHn:=hst.at mE0;obtain ⟨n0,n1,n2⟩:=HHn.c3;clear HHn;clear hst;go_simp;try go_bits
   exact kz _ rfl
  apply GChV.v3
  ·rfl
  ·intro K' a wy ho hd hb hK kz;have o11:=ho 11 (by decide);simp [slot] at o11;clear hd ho;have hst:=HCP.out wy hb;obtain ⟨k0,k1⟩:=hst.o.c2;have HHk:=hst.at mE1;have k12:=HHk.cell (j:=12) rfl;clear HHk;have HHn:=hst.at mE0;obtain ⟨n0,n1,n2⟩:=HHn.c3;clear HHn;clear hst;go_simp;try go_bits
   exact kz _ rfl
  apply GChV.v4
  ·rfl
  ·intro K' a wy ho hd hb hK kz;have q2:=hd ⟨2,.data⟩ (by simp) rfl;have q3:=hd ⟨3,.data⟩ (by simp) rfl;simp [rAt,IsV,slot] at q2 q3;clear hd ho;refine wp_look_val _ (.tmp 96) (.tmp 97) false rfl (by simp [Act.eval,slot,q2]) (by simp [Act.eval,slot,q3]) (HGT.out wy m1 m2 HOK.out (by first | rfl | trivial) (by first | rfl | trivial) (HBK2.out.kept (HCP.out wy hb).b)) (hK _ _ rfl (Below.refl _ _))
  apply GChV.v5
  ·rfl
  ·intro K' a wy ho hd hb hK kz;have q4:=hd ⟨4,.data⟩ (by simp) rfl;simp [rAt,IsV,slot] at q4;clear hd ho;go_simp;refine (HCB.out wy).mono ?_;rintro e wz ⟨rfl,hz⟩;exact hK _ _ rfl hz
  apply GChV.v6
  ·rfl
  ·intro K' a wy ho hd hb hK kz;have q0:=hd ⟨0,.data⟩ (by simp) rfl;have q5:=hd ⟨5,.data⟩ (by simp) rfl;simp [rAt,IsV,slot] at q0 q5;clear hd ho;go_simp;try go_bits
   exact kz _ rfl
  intro X wz hR hz;obtain ⟨x0,x1,x2,x3,x4,x5,x6,-⟩:=hR;simp only [IsV] at x0 x1 x2 x3 x4 x5 x6;simp only [putsFrom,x0,x1,x2,x3,x4,x5,x6];clear x0 x1 x2 x3 x4 x5 x6;have V7:Hid (RowsO W3 base O [(Be,(EnV hv.proto hv.addr hv.port)),(Bk,(KkV pa pc p ba ca bo cb x m1 m2)),(w.heap.size,(PlV pa pc p)),(w.heap.size+1,(BbV ba ca bo cb x)),(w.heap.size+1+1,(TcR proto inside addr port peer peerPort flags)),(w.heap.size+1+1+1,[.slice none 0 0,.slice none 0 0,iV 0,.string ⟨#[]⟩,iV 0,.string ⟨#[]⟩,iV 0,iV 0])] (.slice ab x.binds.length cb1) (.slice (some ⟨gs,0,none⟩) x.sess.length cs1) x.binds (x.sess.set j { s with state:=st,untl:=now+lf }) wz):=HCP.out wz hz;clear hz HCP;have HHz:=V7.out.at mE5;obtain ⟨z0,z1,z2,z3,z4,z5,z6,z7⟩:=HHz.c8;obtain ⟨zf0,zf1,zf2,zf3,zf4,zf5,zf6,zf7⟩:=HHz.f8;have HRR:Hid (HoldsL ((sW (sW (sW (sW (sW (sW (sW wz (w.heap.size+1+1+1) 0 (.slice ab x.binds.length cb1)) (w.heap.size+1+1+1) 1 (.slice (some ⟨gs,0,none⟩) x.sess.length cs1)) (w.heap.size+1+1+1) 2 (iV d.proto)) (w.heap.size+1+1+1) 3 (.string d.inn)) (w.heap.size+1+1+1) 4 (iV d.inPort)) (w.heap.size+1+1+1) 5 (.string d.out)) (w.heap.size+1+1+1) 6 (iV d.outPort)).setCell ⟨w.heap.size+1+1+1,7,none⟩ (iV 0)) (w.heap.size+1+1+1) [.slice ab x.binds.length cb1,.slice (some ⟨gs,0,none⟩) x.sess.length cs1,iV d.proto,.string d.inn,iV d.inPort,.string d.out,iV d.outPort,iV 0]):=((((((((HHz.set 0 (.slice ab x.binds.length cb1)).set 1 (.slice (some ⟨gs,0,none⟩) x.sess.length cs1)).set 2 (iV d.proto)).set 3 (.string d.inn)).set 4 (iV d.inPort)).set 5 (.string d.out)).set 6 (iV d.outPort)).set 7 (iV 0));have RB:Hid _:=(((((((((BW.out.trans (V7.out.b.mono BW.out.size)).setCell (p:=⟨w.heap.size+1+1+1,0,none⟩) hRw (.slice ab x.binds.length cb1)).setCell (p:=⟨w.heap.size+1+1+1,1,none⟩) hRw (.slice (some ⟨gs,0,none⟩) x.sess.length cs1)).setCell (p:=⟨w.heap.size+1+1+1,2,none⟩) hRw (iV d.proto)).setCell (p:=⟨w.heap.size+1+1+1,3,none⟩) hRw (.string d.inn)).setCell (p:=⟨w.heap.size+1+1+1,4,none⟩) hRw (iV d.inPort)).setCell (p:=⟨w.heap.size+1+1+1,5,none⟩) hRw (.string d.out)).setCell (p:=⟨w.heap.size+1+1+1,6,none⟩) hRw (iV d.outPort)).setCell (p:=⟨w.heap.size+1+1+1,7,none⟩) hRw (iV 0));clear HHz;obtain ⟨w1,q1,hb1,-,hbo⟩:=V7.out.shapes.1;obtain ⟨w2,q2,hb2,-,hso⟩:=V7.out.shapes.2;injection hb1 with i1 i2 i3
  injection hb2 with i4 i5 i6
  have hRb:w.heap.size+1+1+1 < base:=(V7.out.kb _ mE5).1;have hwb:w.heap.size≤base:=Nat.le_trans BW.out.size V7.out.wb;have HOW:Hid (BbOwn w.heap.size ((sW (sW (sW (sW (sW (sW (sW wz (w.heap.size+1+1+1) 0 (.slice ab x.binds.length cb1)) (w.heap.size+1+1+1) 1 (.slice (some ⟨gs,0,none⟩) x.sess.length cs1)) (w.heap.size+1+1+1) 2 (iV d.proto)) (w.heap.size+1+1+1) 3 (.string d.inn)) (w.heap.size+1+1+1) 4 (iV d.inPort)) (w.heap.size+1+1+1) 5 (.string d.out)) (w.heap.size+1+1+1) 6 (iV d.outPort)).setCell ⟨w.heap.size+1+1+1,7,none⟩ (iV 0)) w1 w2 ⟨x.binds,x.sess.set j { s with state:=st,untl:=now+lf }⟩):=⟨(hbo.grown (grown_set (grown_set (grown_set (grown_set (grown_set (grown_set (grown_set (grown_set (World.grownBy.refl _ _) _) _) _) _) _) _) _) _) hRb).down hwb,(hso.grown (grown_set (grown_set (grown_set (grown_set (grown_set (grown_set (grown_set (grown_set (World.grownBy.refl _ _) _) _) _) _) _) _) _) _) hRb).down hwb,fun g h e1 e2 _ _ e3=>V7.out.ne g (by rw [i1,e1]; rfl) (by rw [i4,e2,← e3]; rfl)⟩;have I1:Hid _:=i1;have I3:Hid _:=i3;have I4:Hid _:=i4;have I5:Hid _:=i5;have I6:Hid _:=i6;clear hbo hso V7 i1 i2 i3 i4 i5 i6;intro K10 hK10;go_simp;refine hK10 _ _ ?_;simp only [wpSeq];go_wp2_with fail
  exact bodyPost_ret (results_mid Tryz.results62 _ _ _ _ _ rfl HRR.out Tryz.underlying96 rfl (show (Tryz.prog.info? 96).map (·.size)=some 8 by kernel_rfl)) rfl (And.intro (by rw [HW.out]; exact ⟨w1,w2,q1,q2,by first | (rw [I1.out,I3.out,I4.out,I5.out,I6.out]; rfl) | (rw [I1.out,I3.out,I4.out,I6.out]; simp [boC]),HOW.out⟩) RB.out)
def maskOf (p:Nat→Bool):Nat→Nat
 | 0=>0
 | n+1=>maskOf p n+if p n then 2 ^ n else 0
def cntOf (p:Nat→Bool):Nat→Nat
 | 0=>0
 | n+1=>cntOf p n+if p n then 1 else 0
def cntMask (m:Nat):Nat→Nat
 | 0=>0
 | b+1=>cntMask m b+m / 2 ^ b % 2
def pick {α:Type} (p:Nat→Bool) (f:Nat→α):Nat→List α
 | 0=>[]
 | n+1=>pick p f n++if p n then [f n] else []
theorem pick_length {α:Type} (p:Nat→Bool) (f:Nat→α):∀ n,(pick p f n).length=cntOf p n
 | 0=>rfl
 | n+1=>by
  unfold pick cntOf;rw [List.length_append,pick_length p f n];split<;>simp
def lastV (kid:Nat→Bool) (val:Nat→Int):Nat→Int
 | 0=>-1
 | j+1=>if kid j then lastV kid val j else val j
def leafAt (kid:Nat→Bool) (val:Nat→Int) (j:Nat):Bool:=!kid j&&val j != lastV kid val j
structure Nd where
 kids:Nat
 leaf:Nat
 base:Nat
 leafs:Nat
structure Tb where
 rows:List (Nat × Nat)
 nodes:List Nd
 leaves:List Int
section
variable (kid:Nat × Nat→Nat→Bool) (val:Nat × Nat→Nat→Int)
def nodeOf (r:Nat × Nat) (r0 l0:Nat):Nd :=
 ⟨maskOf (kid r) 16,maskOf (leafAt (kid r) (val r)) 16,if cntOf (kid r) 16=0 then 0 else r0,if cntOf (leafAt (kid r) (val r)) 16=0 then 0 else l0⟩
def kidRow (r:Nat × Nat) (k:Nat):Nat × Nat:=(r.1+1,16*r.2+k)
def tbStep (t:Tb) (r:Nat × Nat):Tb :=
 ⟨t.rows++pick (kid r) (kidRow r) 16,t.nodes++[nodeOf kid val r t.rows.length t.leaves.length],t.leaves++pick (leafAt (kid r) (val r)) (val r) 16⟩
structure NodeAt (t:Tb) (i:Nat):Prop where
 ex:∃ r r0 l0 rr ll,t.rows[i]?=some r∧t.nodes[i]?=some (nodeOf kid val r r0 l0)∧i < r0∧t.rows=rr∧t.leaves=ll ∧
  (∀ j x,(pick (kid r) (kidRow r) 16)[j]?=some x→t.rows[r0+j]?=some x)∧(∀ j x,(pick (leafAt (kid r) (val r)) (val r) 16)[j]?=some x→t.leaves[l0+j]?=some x) ∧
  r0+cntOf (kid r) 16≤t.rows.length∧l0+cntOf (leafAt (kid r) (val r)) 16≤t.leaves.length
theorem get_app {α:Type} {a b:List α} {i:Nat} {x:α} (h:a[i]?=some x):(a++b)[i]?=some x:=by
 have hl:i < a.length:=by
  by_cases e:i < a.length
  ·exact e
  ·rw [List.getElem?_eq_none (by omega)] at h; simp at h
 rw [List.getElem?_append_left hl]; exact h
theorem NodeAt.step {t:Tb} {i:Nat} (h:NodeAt kid val t i) (r:Nat × Nat):NodeAt kid val (tbStep kid val t r) i:=by
 obtain ⟨q,r0,l0,_,_,h1,h2,h3,_,_,h4,h5,h6,h7⟩:=h.ex;refine ⟨q,r0,l0,_,_,get_app h1,get_app h2,h3,rfl,rfl,fun j x hx=>get_app (h4 j x hx),fun j x hx=>get_app (h5 j x hx),?_,?_⟩
 ·show _≤(t.rows++_).length; rw [List.length_append]; omega
 ·show _≤(t.leaves++_).length; rw [List.length_append]; omega
theorem NodeAt.new {t:Tb} {r:Nat × Nat} (hr:t.rows[t.nodes.length]?=some r):NodeAt kid val (tbStep kid val t r) t.nodes.length:=by
 have hlt:t.nodes.length < t.rows.length:=by
  by_cases e:t.nodes.length < t.rows.length
  ·exact e
  ·rw [List.getElem?_eq_none (by omega)] at hr; simp at hr
 refine ⟨r,t.rows.length,t.leaves.length,_,_,get_app hr,?_,hlt,rfl,rfl,?_,?_,?_,?_⟩
 ·show (t.nodes++[_])[t.nodes.length]?=_;rw [List.getElem?_append_right (Nat.le_refl _),Nat.sub_self]; rfl
 ·intro j x hx;show (t.rows++_)[t.rows.length+j]?=_;rw [List.getElem?_append_right (by omega),show t.rows.length+j-t.rows.length=j by omega]; exact hx
 ·intro j x hx;show (t.leaves++_)[t.leaves.length+j]?=_;rw [List.getElem?_append_right (by omega),show t.leaves.length+j-t.leaves.length=j by omega]; exact hx
 ·show _≤(t.rows++_).length; rw [List.length_append,pick_length]; exact Nat.le_refl _
 ·show _≤(t.leaves++_).length; rw [List.length_append,pick_length]; exact Nat.le_refl _
structure TbOk (t:Tb):Prop where
 nodes:∀ i,i < t.nodes.length→NodeAt kid val t i
 le:t.nodes.length≤t.rows.length
 root:t.rows[0]?=some (0,0)
 leaves:∀ x∈t.leaves,∃ r k,x=val r k
theorem TbOk.start:TbOk kid val ⟨[(0,0)],[],[]⟩:=⟨fun i h=>by simp at h,by simp,rfl,by simp⟩
theorem mem_pick {α:Type} (p:Nat→Bool) (f:Nat→α):∀ n x,x∈pick p f n→∃ k,k < n∧p k=true∧x=f k
 | 0,x,h=>by simp [pick] at h
 | n+1,x,h=>by
  unfold pick at h;rcases List.mem_append.1 h with h | h
  ·obtain ⟨k,hk,hp,e⟩:=mem_pick p f n x h; exact ⟨k,by omega,hp,e⟩
  ·by_cases hp:p n=true
   ·rw [if_pos hp] at h; simp at h; exact ⟨n,by omega,hp,h⟩
   ·rw [if_neg hp] at h; simp at h
theorem TbOk.step {t:Tb} (h:TbOk kid val t) {r:Nat × Nat} (hr:t.rows[t.nodes.length]?=some r):TbOk kid val (tbStep kid val t r):=by
 have hlt:t.nodes.length < t.rows.length:=by
  by_cases e:t.nodes.length < t.rows.length
  ·exact e
  ·rw [List.getElem?_eq_none (by omega)] at hr; simp at hr
 refine ⟨fun i hi=>?_,?_,get_app h.root,?_⟩
 ·have hi':i < t.nodes.length+1:=by
   have:(tbStep kid val t r).nodes.length=t.nodes.length+1:=by show (t.nodes++[_]).length=_; simp
   omega
  by_cases e:i=t.nodes.length
  ·rw [e]; exact NodeAt.new kid val hr
  ·exact (h.nodes i (by omega)).step kid val r
 ·show (t.nodes++[_]).length≤(t.rows++_).length;simp; omega
 ·intro x hx;rcases List.mem_append.1 hx with hx | hx
  ·exact h.leaves x hx
  ·obtain ⟨k,_,_,e⟩:=mem_pick _ _ _ _ hx; exact ⟨r,k,e⟩
end
theorem len_of_sub {α:Type} [DecidableEq α]:∀ (l m:List α),l.Pairwise (·≠·)→(∀ x∈l,x∈m)→l.length≤m.length
 | [],m,_,_=>Nat.zero_le _
 | a::l,m,hp,hs=>by
  have ha:a∈m:=hs a (by simp);have hp':=List.pairwise_cons.1 hp;have:=len_of_sub l (m.erase a) hp'.2 (fun x hx=>(List.mem_erase_of_ne (fun e=>hp'.1 x hx e.symm)).2 (hs x (by simp [hx])));rw [List.length_erase_of_mem ha] at this;have hpos:0 < m.length:=List.length_pos_of_mem ha;simp; omega
def rlt (a b:Nat × Nat):Prop:=a.1 < b.1∨(a.1=b.1∧a.2 < b.2)
theorem rlt_ne {a b:Nat × Nat} (h:rlt a b):a≠b:=by
 intro e; subst e; unfold rlt at h; omega
section
variable (kid:Nat × Nat→Nat→Bool) (val:Nat × Nat→Nat→Int)
structure TbSort (S:List (Nat × Nat)) (t:Tb):Prop where
 sorted:t.rows.Pairwise rlt
 next:∀ r,t.rows[t.nodes.length]?=some r→∀ x∈t.rows,x.1≤r.1+1∧(x.1=r.1+1→x.2 < 16*r.2)
 sub:∀ x∈t.rows,x=(0,0)∨x∈S
theorem TbSort.start (S:List (Nat × Nat)):TbSort S ⟨[(0,0)],[],[]⟩ :=
 ⟨by simp,fun r h x hx=>by simp at h hx; subst h hx; simp,by simp⟩
theorem pick_sorted (r:Nat × Nat) (p:Nat→Bool):∀ n,(pick p (kidRow r) n).Pairwise rlt
 | 0=>by simp [pick]
 | n+1=>by
  unfold pick;rw [List.pairwise_append];refine ⟨pick_sorted r p n,?_,?_⟩
  ·split<;>simp
  ·intro a ha b hb;obtain ⟨k,hk,_,rfl⟩:=mem_pick _ _ _ _ ha;by_cases hp:p n=true
   ·rw [if_pos hp] at hb; simp at hb; subst hb; exact .inr ⟨rfl,by simp [kidRow]; omega⟩
   ·rw [if_neg hp] at hb; simp at hb
theorem TbSort.step {S:List (Nat × Nat)} {t:Tb} (h:TbSort S t) (hS:∀ r k,k < 16→kid r k=true→kidRow r k∈S) {r:Nat × Nat} (hr:t.rows[t.nodes.length]?=some r):TbSort S (tbStep kid val t r):=by
 have hnx:=h.next r hr;have hnl:(tbStep kid val t r).nodes.length=t.nodes.length+1:=by show (t.nodes++[_]).length=_; simp
 have hsrt:(tbStep kid val t r).rows.Pairwise rlt:=by
  show (t.rows++_).Pairwise rlt;rw [List.pairwise_append];refine ⟨h.sorted,pick_sorted r _ 16,fun a ha b hb=>?_⟩;obtain ⟨k,hk,_,rfl⟩:=mem_pick _ _ _ _ hb;have:=hnx a ha;by_cases e:a.1=r.1+1
  ·exact .inr ⟨e,by have:=this.2 e; show a.2 < 16*r.2+k; omega⟩
  ·exact .inl (by show a.1 < r.1+1; omega)
 refine ⟨hsrt,fun q hq x hx=>?_,fun x hx=>?_⟩
 ·rw [hnl] at hq;have hlt:t.nodes.length+1 < (tbStep kid val t r).rows.length:=by
   by_cases e:t.nodes.length+1 < (tbStep kid val t r).rows.length
   ·exact e
   ·rw [List.getElem?_eq_none (by omega)] at hq; simp at hq
  have hr2:(tbStep kid val t r).rows[t.nodes.length]?=some r:=get_app hr;have hrq:rlt r q:=by
   have:=List.pairwise_iff_getElem.1 hsrt t.nodes.length (t.nodes.length+1) (by omega) hlt (by omega);rw [List.getElem?_eq_getElem (by omega)] at hr2;rw [List.getElem?_eq_getElem hlt] at hq;injection hr2 with hr2; injection hq with hq
   rw [hr2,hq] at this; exact this
  unfold rlt at hrq;rcases List.mem_append.1 hx with hx | hx
  ·have:=hnx x hx;exact ⟨by omega,fun e=>by have:=this.2 (by omega); omega⟩
  ·obtain ⟨k,hk,_,rfl⟩:=mem_pick _ _ _ _ hx;simp only [kidRow];exact ⟨by omega,fun e=>by omega⟩
 ·rcases List.mem_append.1 hx with hx | hx
  ·exact h.sub x hx
  ·obtain ⟨k,hk,hp,rfl⟩:=mem_pick _ _ _ _ hx;exact .inr (hS r k hk hp)
theorem TbSort.length {S:List (Nat × Nat)} {t:Tb} (h:TbSort S t):t.rows.length≤S.length+1:=by
 have:=len_of_sub t.rows ((0,0)::S) (h.sorted.imp rlt_ne) (fun x hx=>by rcases h.sub x hx with e | e<;>simp [e]);simpa using this
structure NdRight (n leaves i:Nat) (x:Nd):Prop where
 kids:x.kids < 65536
 leaf:x.leaf < 65536
 apart:∀ k,¬ (x.kids / 2 ^ k % 2=1∧x.leaf / 2 ^ k % 2=1)
 base:x.kids≠0→i < x.base∧x.base+cntMask x.kids 16≤n
 base0:x.kids=0→x.base=0
 leafs:x.leaf≠0→x.leafs+cntMask x.leaf 16≤leaves
 leafs0:x.leaf=0→x.leafs=0
 first:∀ k,k < 16→(∀ j,j < k→x.kids / 2 ^ j % 2=1)→x.kids / 2 ^ k % 2=0→x.leaf / 2 ^ k % 2=1
end
structure Rt where
 addr:ByteArray
 bits:Int
 hop:Int
section
variable (n:Nat) (l:List Rt)
end
structure RtsAt (w:World) (b off:Nat) (rs:List Rt):Prop where
 c0:∀ i (h:i < rs.length),w.cell? ⟨b,off+i*3,none⟩=some (.string rs[i].addr)
 c1:∀ i (h:i < rs.length),w.cell? ⟨b,off+i*3+1,none⟩=some (iV rs[i].bits)
 c2:∀ i (h:i < rs.length),w.cell? ⟨b,off+i*3+2,none⟩=some (iV rs[i].hop)
theorem RtsAt.below {w W:World} {b off:Nat} {rs:List Rt} (h:RtsAt w b off rs) (hb:b < w.heap.size) (hB:Below w.heap.size w W):RtsAt W b off rs :=
 ⟨fun i hi=>((bcell hB).1 b _ hb).trans (h.c0 i hi),fun i hi=>((bcell hB).1 b _ hb).trans (h.c1 i hi),fun i hi=>((bcell hB).1 b _ hb).trans (h.c2 i hi)⟩
theorem Holds.setCells {w:World} {B n:Nat} {f:Nat→Int} (h:Holds w B n f) (t:ByteArray) (ht:t.size≤n):Holds (w.setCells B 0 (t.data.toList.map fun x=>Value.int .u8 (x.toNat:Int))) B n (fun i=>if i < t.size then bt t i else f i):=by
 have hl:(t.data.toList.map fun x=>Value.int .u8 (x.toNat:Int)).length=t.size:=by rw [List.length_map,Array.length_toList]; rfl
 refine ⟨fun i hi=>⟨?_,by rw [World.frozen?_setCells]; exact (h.get i hi).2⟩⟩;by_cases e:i < t.size
 ·have:=World.cell?_setCells_in B (t.data.toList.map fun x=>Value.int .u8 (x.toNat:Int)) 0 w (fun j hj=>by rw [Nat.zero_add,(h.get j (by rw [hl] at hj; omega)).1]; rfl) i (by rw [hl]; exact e);rw [Nat.zero_add] at this;show _=some (Value.int .u8 (if i < t.size then bt t i else f i));rw [if_pos e,this,← get_bt t i e,ByteArray.getElem_eq_getElem_data];simp
 ·show _=some (Value.int .u8 (if i < t.size then bt t i else f i));rw [if_neg e,World.cell?_setCells_out B _ 0 w _ (fun _ _=>.inr (by rw [hl]; show 0+t.size≤i; omega))];exact (h.get i hi).1
theorem Holds.drew {w:World} {B n:Nat} {f:Nat→Int} (h:Holds w B n f):Holds w.drew B n f:=⟨h.get⟩
theorem Holds.congr {w:World} {B n:Nat} {f g:Nat→Int} (h:Holds w B n f) (e:∀ i,i < n→f i=g i):Holds w B n g:=⟨fun i hi=>by rw [← e i hi]; exact h.get i hi⟩
section
variable (n:Nat)
end
def bytesC (a:ByteArray):List Value:=a.data.toList.map fun x=>Value.int .u8 (x.toNat:Int)
def rowC (a:ByteArray) (b:Int):List Value:=bytesC a++[iV b]
theorem bytesC_length (a:ByteArray):(bytesC a).length=a.size:=by unfold bytesC; rw [List.length_map,Array.length_toList]; rfl
theorem rowC_length (a:ByteArray) (b:Int):(rowC a b).length=a.size+1:=by unfold rowC; rw [List.length_append,bytesC_length]; rfl
def hopC (q:Rt):List Value:=rowC q.addr q.bits++[iV q.hop]
def flatH (ms:List Rt):List Value:=ms.flatMap hopC
theorem hopC_length (q:Rt):(hopC q).length=q.addr.size+2:=by unfold hopC; rw [List.length_append,rowC_length]; rfl
section
variable {w W:World} {B o:Nat} {xs ys:List Value}
theorem rangeAt_left (h:w.rangeAt B o (xs++ys)):w.rangeAt B o xs:=fun j v hv=>h j v (by rw [List.getElem?_append_left (List.getElem?_eq_some_iff.1 hv).1]; exact hv)
theorem HoldsL.left (h:HoldsL w B (xs++ys)):w.rangeAt B 0 xs:=rangeAt_left h.at0
end
theorem flatH_get (n:Nat):∀ (ms:List Rt) (hm:∀ q∈ms,q.addr.size=n) (i:Nat) (h:i < ms.length) (j:Nat) (v:Value),(hopC ms[i])[j]?=some v→(flatH ms)[i*(n+2)+j]?=some v
 | [],_,i,h,_,_,_=>by simp at h
 | q::ms,hm,0,h,j,v,hv=>by
  have hv:(hopC q)[j]?=some v:=hv;unfold flatH;rw [List.flatMap_cons,Nat.zero_mul,Nat.zero_add,List.getElem?_append_left (List.getElem?_eq_some_iff.1 hv).1]; exact hv
 | q::ms,hm,i+1,h,j,v,hv=>by
  have ih:=flatH_get n ms (fun x hx=>hm x (by simp [hx])) i (by simpa using h) j v (by simpa using hv);unfold flatH at *;have hl:(hopC q).length=n+2:=by rw [hopC_length,hm q (by simp)]
  rw [List.flatMap_cons,List.getElem?_append_right (by rw [hl,Nat.succ_mul]; omega),hl];rw [show (i+1)*(n+2)+j-(n+2)=i*(n+2)+j by rw [Nat.succ_mul]; omega];exact ih
def MoreAt (w:World) (n:Nat) (E:TypeId) (mv:Value) (ms:List Rt):Prop:=w.ownsRow 0 E (n+2) mv ms.length (flatH ms)
section
variable {w W:World} {n E:Nat} {mv:Value} {ms:List Rt}
theorem MoreAt.nil:MoreAt w n E (.slice none 0 0) []:=⟨by simp [flatH],.inl ⟨rfl,rfl⟩⟩
theorem MoreAt.shape (h:MoreAt w n E mv ms):(mv=.slice none 0 0∧ms=[])∨∃ g cap,mv=.slice (some ⟨g,0,none⟩) ms.length cap∧ms.length≤cap∧g < w.heap.size:=by
 rcases h.2 with ⟨h1,h2⟩ | ⟨g,cap,cur,h1,_,hg,hc,_⟩
 ·exact .inl ⟨h1,List.length_eq_zero_iff.1 h2⟩
 ·exact .inr ⟨g,cap,h1,hc,(Array.getElem?_eq_some_iff.1 hg).1⟩
theorem MoreAt.one (h:MoreAt w n E mv ms):mv.oneCell'=true:=by
 rcases h.shape with ⟨rfl,_⟩ | ⟨g,cap,rfl,_,_⟩<;>rfl
theorem MoreAt.get {g cap:Nat} (h:MoreAt w n E (.slice (some ⟨g,0,none⟩) ms.length cap) ms) (hm:∀ q∈ms,q.addr.size=n) (i:Nat) (hi:i < ms.length):w.rangeAt g (i*(n+2)) (hopC ms[i]):=fun j v hv=>by
 have hj:j < n+2:=by have:=(List.getElem?_eq_some_iff.1 hv).1; rwa [hopC_length,hm _ (List.getElem_mem hi)] at this
 have hlt:i*(n+2)+j < ms.length*(n+2):=by
  have:=Nat.mul_le_mul_right (n+2) (show i+1≤ms.length from hi);rw [Nat.succ_mul] at this; omega
 rw [World.ownsRow.cellAt h _ hlt];exact flatH_get n ms hm i hi j v hv
theorem MoreAt.kept {row:Option Nat} (h:MoreAt w n E mv ms) (hg:w.grownBy W row) (hne:mv.ownBlock=none∨mv.ownBlock≠row):MoreAt W n E mv ms:=World.ownsRow.kept h hg hne
theorem MoreAt.below (h:MoreAt w n E mv ms) (hB:Below w.heap.size w W):MoreAt W n E mv ms:=h.kept (grown_of_below (r:=none) hB) (by cases mv.ownBlock<;>simp)
end
structure FSt (w:World) (m X:Nat) (cs zs:List Value) (mv:Value) (wx:World):Prop where
 x:HoldsL wx X cs
 z:HoldsL wx (w.heap.size+1) zs
 c:wx.cell? ⟨w.heap.size,m,none⟩=some mv
 b:Below w.heap.size w wx
 le:w.heap.size+1+1≤X
section
variable {w wx wy:World} {m X:Nat} {cs zs:List Value} {mv:Value}
theorem FSt.set (h:FSt w m X cs zs mv wx) (j:Nat) (v:Value):FSt w m X (cs.set j v) zs mv (wx.setCell ⟨X,j,none⟩ v):=by
 have hle:=h.le;exact ⟨h.x.set j v,h.z.setOther (by omega) v,(World.cell?_setCell_other _ _ _ _ (fun e=>by injection e with e1 _; omega)).trans h.c,h.b.setCell (by show w.heap.size≤X; omega) v,hle⟩
theorem FSt.below (h:FSt w m X cs zs mv wx) (hx:0 < cs.length) (hz:0 < zs.length) (hB:Below wx.heap.size wx wy):FSt w m X cs zs mv wy :=
 ⟨h.x.kept hx hB,h.z.kept hz hB,((bcell hB).1 _ _ (World.block_lt_of_cell? wx _ h.c)).trans h.c,h.b.trans (hB.mono h.b.size),h.le⟩
theorem FSt.grown {row:Option Nat} (h:FSt w m X cs zs mv wx) (hx:0 < cs.length) (hz:0 < zs.length) (hg:wx.grownBy wy row) (hr:∀ g,row=some g→w.heap.size+1+1≤g∧g≠X):FSt w m X cs zs mv wy:=by
 have h1:some X≠row:=fun e=>(hr X e.symm).2 rfl
 have h2:some (w.heap.size+1)≠row:=fun e=>by have:=(hr _ e.symm).1; omega
 have h3:some w.heap.size≠row:=fun e=>by have:=(hr _ e.symm).1; omega
 refine ⟨h.x.grown hx hg h1,h.z.grown hz hg h2,hg.cell h.c h3,?_,h.le⟩;exact ⟨hg.os.trans h.b.os,hg.tape.trans h.b.tape,hg.output.trans h.b.output,Nat.le_trans h.b.size hg.size,fun k hk=>by
  rw [hg.block k (Nat.lt_of_lt_of_le hk h.b.size) (fun e=>by have:=(hr k e.symm).1; omega)]; exact h.b.block k hk⟩
theorem FSt.alloc (h:FSt w m X cs zs mv wx) (hx:0 < cs.length) (hz:0 < zs.length) (o:Obj):FSt w m X cs zs mv (wx.alloc o):=h.below hx hz ((Below.refl _ _).alloc (Nat.le_refl _) o)
theorem FSt.drew (h:FSt w m X cs zs mv wx):FSt w m X cs zs mv wx.drew:=⟨h.x.drew,h.z.drew,h.c,h.b.drew,h.le⟩
end
theorem wpSeq_store {P:Program} {Q:Exit→Act→World→Prop} {op:Oper} {a:Act} {w:World} (ty:TypeId) (x y:Operand) (ho:op.op=.store ty x y) (b o:Nat) (cells:Array Value) (hx:a.eval x=.pointer (some ⟨b,o,none⟩)) (hy:a.eval y=.agg cells)
  (ht:w.there b o cells.size) (hi:(P.info? ty).map (·.size)=some cells.size) (h1:cells.all (·.oneCell')=true) (h:Q .normal (a.put op.dst undef) (w.setCells b o cells.toList)):wpSeq P Q [op] a w :=
 fun K' hK=>wp_store_mid ty x y ho b o cells hx hy ht hi h1 (hK _ _ h)
end Go.Proofs.YtcckaeppiamebaaGreatDoor
