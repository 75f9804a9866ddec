import Derived.Test.YtdkepkaflielhaaGreatDoorIBegin
set_option linter.unusedVariables false
set_option linter.unusedSimpArgs false
set_option maxRecDepth 100000
set_option maxHeartbeats 8000000
namespace Go.Proofs.YtdkepkaflielhaaGreatDoor
open Go.RowKit Go.PlainAid
theorem touch_parts {t:Tc} (h:touchOk t=true):In64t t.proto∧0≤t.port∧t.port≤65535∧isIn t.flags 0 255=true:=by
 unfold touchOk at h;simp only [Bool.and_eq_true] at h;obtain ⟨⟨⟨⟨⟨⟨h1,h2⟩,h3⟩,h4⟩,h5⟩,h6⟩,h7⟩:=h;have h4':=isIn_parts h4;refine ⟨?_,h4'.1,h4'.2,h7⟩;unfold protoB at h1;simp only [Bool.or_eq_true,decide_eq_true_iff] at h1;unfold In64t;rcases h1 with (h1 | h1) | h1<;>rw [h1]<;>decide
theorem host_parts {p:Pl} {x:Bb} {t:Tc} (hok:bookOk p x=true) (ht:touchOk t=true) (hs:t.addr.size≤1048576) (hgb:∀ q∈x.binds,BdGood q) (hf:(hostV x t).2=true):EnIn (hostV x t).1∧0≤(hostV x t).1.port∧(hostV x t).1.port≤65535:=by
 obtain ⟨t1,t2,t3,t4⟩:=touch_parts ht;unfold hostV at hf ⊢
 cases hin:t.inside with
 | true =>
  simp only [if_true];refine ⟨⟨hs,t1,?_⟩,t2,t3⟩;show In64t t.port;unfold In64t;constructor<;>omega
 | false =>
  rw [hin] at hf;simp only [Bool.false_eq_true,if_false] at hf ⊢
  cases hd:x.binds.find? (ofOut t.proto t.addr t.port) with
  | none=>rw [hd] at hf; simp at hf
  | some c =>
   have hc:=List.mem_of_find?_eq_some hd;simp only [Option.getD_some];refine ⟨hostE_in (hgb c hc),?_⟩;unfold bookOk at hok;simp only [Bool.and_eq_true] at hok;have hF:=upN_iff.1 hok.1.2;obtain ⟨i,hi,rfl⟩:=List.getElem_of_mem hc;have h1:=hF i hi;unfold fitB at h1;simp only [Bool.and_eq_true] at h1;exact isIn_parts h1.1.1.1.1.1.1.2
theorem go_none {p:Pl} {x:Bb} {t:Tc} {now:Int} (h1:(hostV x t).2=true) (h2:x.sess.findIdx? (fun s=>sameSk (sessK s) (keyT (hostV x t).1 t))=none):goI p x t now=beginV p x (hostV x t).1 t now:=by
 unfold goI; rw [if_neg (by rw [h1]; decide),h2]
theorem go_some {p:Pl} {x:Bb} {t:Tc} {now:Int} {j:Nat} (hlt:j < x.sess.length) (h1:(hostV x t).2=true) (h2:x.sess.findIdx? (fun s=>sameSk (sessK s) (keyT (hostV x t).1 t))=some j):goI p x t now=⟨⟨x.binds,x.sess.set j (nextS p t now x.sess[j])⟩,(x.binds.find? (ofIn (hostV x t).1.proto (hostV x t).1.addr (hostV x t).1.port)).getD bdZ,0⟩:=by
 unfold goI setN; rw [if_neg (by rw [h1]; decide),h2];simp only [List.getElem?_eq_getElem hlt]
theorem implBibTouch_any (pa:Option Addr) (pc:Nat) (p:Pl) (ba bo:Option Addr) (ca cb:Nat) (x:Bb) (t:Tc) (now:Int) (w:World) (hT:TabB w) (hs1:t.addr.size≤1048576) (hs2:t.peer.size≤1048576) (hpl:p.addrs.length≤1048576) (hpc:p.addrs.length≤pc) (hps:∀ s∈p.addrs,s.size≤1048576) (hbl1:x.binds.length≤1048576) (hbl2:x.sess.length≤1048576) (hgb:∀ q∈x.binds,BdGood q) (hgs:∀ s∈x.sess,SsGood s) (hp:SlIs strL1 1 w pa p.addrs) (hx:BbIs w ba bo x) :
  Calls Tryz.prog 60 #[plC pa pc p,bbC ba bo ca cb x,tcC t,iV now] w fun e w'=>BoRet w.heap.size (bibTouchV p x t now) e w'∧Below w.heap.size w w':=by
 rw [← touch_same];have HHP:Hid (bookOk p x=true→touchOk t=true→(hostV x t).2=true→EnIn (hostV x t).1∧0≤(hostV x t).1.port∧(hostV x t).1.port≤65535):=fun h1 h2 h3=>host_parts h1 h2 hs1 hgb h3
 have HTP:Hid (touchOk t=true→In64t t.proto∧0≤t.port∧t.port≤65535∧isIn t.flags 0 255=true):=touch_parts;have HG0:Hid ((hostV x t).2=false→goI p x t now=boE 6):=fun h=>by unfold goI; rw [if_pos h]
 have HG1:Hid ((hostV x t).2=true→x.sess.findIdx? (fun s=>sameSk (sessK s) (keyT (hostV x t).1 t))=none→goI p x t now=beginV p x (hostV x t).1 t now):=go_none;have HG2:Hid (∀ j (hlt:j < x.sess.length),(hostV x t).2=true→x.sess.findIdx? (fun s=>sameSk (sessK s) (keyT (hostV x t).1 t))=some j→goI p x t now=⟨⟨x.binds,x.sess.set j (nextS p t now x.sess[j])⟩,(x.binds.find? (ofIn (hostV x t).1.proto (hostV x t).1.addr (hostV x t).1.port)).getD bdZ,0⟩):=fun j hlt=>go_some hlt
 have HHO:Hid (∀ W m1 m2,touchOk t=true→BookAt W m1 m2 x.binds x.binds→Cb 106 #[.agg (KkV pa pc p ba ca bo cb x m1 m2).toArray,tcC t] W (.tuple #[enC (hostV x t).1,.bool (hostV x t).2])):=fun W m1 m2 ht hbk=>hostOf_any pa pc p ba bo ca cb x m1 m2 t W ⟨hs1,(touch_parts ht).1,by have:=touch_parts ht; show In64t t.port; unfold In64t; constructor<;>omega⟩ hbk
 have HBG:Hid (∀ W m1 m2,Below w.heap.size w W→bookOk p x=true→isTime now=true→touchOk t=true→(hostV x t).2=true→BookAt W m1 m2 x.binds x.binds→Calls Tryz.prog 108 #[.agg (KkV pa pc p ba ca bo cb x m1 m2).toArray,enC (hostV x t).1,tcC t,iV now] W fun e w'=>BoRet W.heap.size (beginV p x (hostV x t).1 t now) e w'∧Below W.heap.size W w'):=fun W m1 m2 hW hok hnow ht hf hbk=>by
  have hpo:poolOk p=true:=by unfold bookOk at hok; simp only [Bool.and_eq_true] at hok; exact hok.1.1.1.1
  have h:=HHP.out hok ht hf;exact begin_any pa pc p ba bo ca cb x m1 m2 _ t now W hpo hnow (touch_parts ht).2.2.2 h.1 h.2.1 h.2.2 hs2 hps hbl1 hbl2 hgb hgs hbk (hp.below hW) (hx.below hW)
 have HGT:Hid (∀ W m1 m2,bookOk p x=true→touchOk t=true→(hostV x t).2=true→BookAt W m1 m2 x.binds x.binds→(Instr.lookup 137 (.map (some m1)) (enC (hostV x t).1) false).run Tryz.prog W=.ok (bdC ((x.binds.find? (ofIn (hostV x t).1.proto (hostV x t).1.addr (hostV x t).1.port)).getD bdZ)) W):=fun W m1 m2 hok ht hf hbk=>by
  have hl:=hbk.get1 (HHP.out hok ht hf).1;rw [show (fun q=>sameEn (hostE q) (hostV x t).1)=ofIn (hostV x t).1.proto (hostV x t).1.addr (hostV x t).1.port from funext fun c=>host_in _ _ _ c] at hl;exact hl
 have HCB:Hid (∀ W,Cb 82 #[bdC ((x.binds.find? (ofIn (hostV x t).1.proto (hostV x t).1.addr (hostV x t).1.port)).getD bdZ)] W (bdC ((x.binds.find? (ofIn (hostV x t).1.proto (hostV x t).1.addr (hostV x t).1.port)).getD bdZ))):=fun W=>by
  cases hf:x.binds.find? (ofIn (hostV x t).1.proto (hostV x t).1.addr (hostV x t).1.port) with
  | none=>exact copyBind_any bdZ W (Nat.zero_le _) (Nat.zero_le _)
  | some c=>exact copyBind_any c W (hgb c (List.mem_of_find?_eq_some hf)).1 (hgb c (List.mem_of_find?_eq_some hf)).2.1
 obtain ⟨proto,inside,addr,port,peer,peerPort,flags⟩:=t;dsimp only at hs1 hs2;have HOP:Hid (∀ W,Below w.heap.size w W→Calls Tryz.prog 104 #[.agg (PlV pa pc p).toArray,.agg (BbV ba ca bo cb x).toArray] W (OpenRet W pa pc p ba bo ca cb x)):=fun W hW=>open_any pa pc p ba bo ca cb x W hpl hpc hps hbl1 hbl2 hgb hgs (hp.below hW) (hx.below hW)
 have HTM:Hid (∀ W,Cw 87 #[iV now] W (.bool (isTime now))):=fun W=>implTime_any now W
 have HTR:Hid (∀ W,Cb 105 #[.agg (TcR proto inside addr port peer peerPort flags).toArray] W (.bool (touchOk ⟨proto,inside,addr,port,peer,peerPort,flags⟩))):=fun W=>touchRight_any ⟨proto,inside,addr,port,peer,peerPort,flags⟩ W hs1 hs2
 have HSA:Hid (∀ (h:En) W,Below w.heap.size w W→Cb 107 #[.slice bo x.sess.length cb,.agg (BdR h.proto h.addr h.port peer peerPort).toArray] W (iV (findI (fun s=>sameSk (sessK s) (keyT h ⟨proto,inside,addr,port,peer,peerPort,flags⟩)) x.sess))):=fun h W hW=>sessAt_any (keyT h ⟨proto,inside,addr,port,peer,peerPort,flags⟩) x.sess bo cb W hbl2 (hx.ss.below hW)
 have HCY:Hid (∀ W,Below w.heap.size w W→Calls Tryz.prog 109 #[.agg (BbV ba ca bo cb x).toArray] W fun e w'=>CopyRet W.heap.size x e w'∧Below W.heap.size W w'):=fun W hW=>implCopy9_any x ba bo ca cb W hbl1 hbl2 hgb hgs (hx.below hW)
 have HNX:Hid (∀ (st:Int) (W:World),Below w.heap.size w W→Cb 110 #[iV proto,iV st,.bool inside,iV flags] W (iV (trackNextV proto st inside flags))):=fun st W hW=>implNext_any proto st inside flags W (hT.below hW)
 have HLF:Hid (∀ (st:Int) (W:World),Cb 111 #[.agg #[iV p.lv.udp,iV p.lv.echo,iV p.lv.opening,iV p.lv.opn,iV p.lv.closing],iV proto,iV st] W (iV (trackLifeV p.lv proto st))):=fun st W=>implLife_any p.lv proto st W
 unfold tcC at HHO HBG;dsimp only at HHO HBG;obtain ⟨ans,hans⟩ : ∃ a,a=(if (bookOk p x&&isTime now&&touchOk ⟨proto,inside,addr,port,peer,peerPort,flags⟩)=true then goI p x ⟨proto,inside,addr,port,peer,peerPort,flags⟩ now else boE 1):=⟨_,rfl⟩;rw [← hans];have HV:Hid (ans=(if (bookOk p x&&isTime now&&touchOk ⟨proto,inside,addr,port,peer,peerPort,flags⟩)=true then goI p x ⟨proto,inside,addr,port,peer,peerPort,flags⟩ now else boE 1)):=hans;have hn:isTime now=true→0≤now∧now≤1000000000:=fun h=>by unfold isTime isIn at h; simp only [Bool.and_eq_true,decide_eq_true_iff] at h; omega
 have HNN:Hid _:=hn;generalize hgi:goI p x ⟨proto,inside,addr,port,peer,peerPort,flags⟩ now=gi at *;obtain ⟨hv,hhv⟩ : ∃ h,h=(hostV x ⟨proto,inside,addr,port,peer,peerPort,flags⟩).1:=⟨_,rfl⟩;rw [← hhv] at HHP HG1 HG2 HHO HBG HGT HCB;unfold enC at HHO HBG HGT;generalize (hostV x ⟨proto,inside,addr,port,peer,peerPort,flags⟩).2=fd at *;replace HSA:=HSA.out hv;have HSB:Hid _:=HSA;clear HSA hhv;obtain ⟨d,hd⟩ : ∃ d,d=(x.binds.find? (ofIn hv.proto hv.addr hv.port)).getD bdZ:=⟨_,rfl⟩;rw [← hd] at HG2 HGT HCB;unfold bdC at HGT HCB;clear hd hans hn hgi;generalize touchOk ⟨proto,inside,addr,port,peer,peerPort,flags⟩=tr at *;generalize isTime now=tm at *;have hun:undef=Value.tuple #[]:=rfl;have hRw:w.heap.size≤w.heap.size+1+1+1:=by omega
 clear hp hx hgb hgs hps hT;have e0:HoldsL ((aW (aW (aW w (PlV pa pc p) 27) (BbV ba ca bo cb x) 31) (TcR proto inside addr port peer peerPort flags) 89).alloc (.cells Z8V.toArray 104)) (w.heap.size) (PlV pa pc p):=by
  have h:=HoldsL.new w (PlV pa pc p) 27;try simp only [World.size_alloc] at h
  exact (((h.alloc _).alloc _).alloc _)
 have e1:HoldsL ((aW (aW (aW w (PlV pa pc p) 27) (BbV ba ca bo cb x) 31) (TcR proto inside addr port peer peerPort flags) 89).alloc (.cells Z8V.toArray 104)) (w.heap.size+1) (BbV ba ca bo cb x):=by
  have h:=HoldsL.new (w.alloc (.cells (PlV pa pc p).toArray 27)) (BbV ba ca bo cb x) 31;try simp only [World.size_alloc] at h
  exact ((h.alloc _).alloc _)
 have e2:HoldsL ((aW (aW (aW w (PlV pa pc p) 27) (BbV ba ca bo cb x) 31) (TcR proto inside addr port peer peerPort flags) 89).alloc (.cells Z8V.toArray 104)) (w.heap.size+1+1) (TcR proto inside addr port peer peerPort flags):=by
  have h:=HoldsL.new ((aW w (PlV pa pc p) 27).alloc (.cells (BbV ba ca bo cb x).toArray 31)) (TcR proto inside addr port peer peerPort flags) 89;try simp only [World.size_alloc] at h
  exact (h.alloc _)
 have e3:HoldsL ((aW (aW (aW w (PlV pa pc p) 27) (BbV ba ca bo cb x) 31) (TcR proto inside addr port peer peerPort flags) 89).alloc (.cells Z8V.toArray 104)) (w.heap.size+1+1+1) Z8V:=by
  have h:=HoldsL.new ((aW (aW w (PlV pa pc p) 27) (BbV ba ca bo cb x) 31).alloc (.cells (TcR proto inside addr port peer peerPort flags).toArray 89)) Z8V 104;try simp only [World.size_alloc] at h
  exact h
 have HS0:Hid (Bxs w [(w.heap.size,(PlV pa pc p)),(w.heap.size+1,(BbV ba ca bo cb x)),(w.heap.size+1+1,(TcR proto inside addr port peer peerPort flags)),(w.heap.size+1+1+1,Z8V)] ((aW (aW (aW w (PlV pa pc p) 27) (BbV ba ca bo cb x) 31) (TcR proto inside addr port peer peerPort flags) 89).alloc (.cells Z8V.toArray 104))):=by
  refine ⟨fun e he=>?_,((((bR.alloc (by (try simp only [World.size_alloc]); omega) _).alloc (by (try simp only [World.size_alloc]); omega) _).alloc (by (try simp only [World.size_alloc]); omega) _).alloc (by (try simp only [World.size_alloc]); omega) _),fun e he=>?_⟩
  ·simp only [List.mem_cons,List.not_mem_nil,or_false] at he;rcases he with rfl | rfl | rfl | rfl
   ·exact e0
   ·exact e1
   ·exact e2
   ·exact e3
  ·simp only [List.mem_cons,List.not_mem_nil,or_false] at he;rcases he with rfl | rfl | rfl | rfl<;>simp
 clear e0 e1 e2 e3;unfold plC bbC tcC;go_enter Tryz.func60,Tryz.ntmps60
 go_upto_region 1 with fail
 generalize World.alloc _ _=W at *;have HHp:=HS0.out.at mE0;obtain ⟨p0,p1,p2,p3,p4,p5,p6,p7,p8,p9⟩:=HHp.c10;clear HHp;have HHb:=HS0.out.at mE1;obtain ⟨b0,b1⟩:=HHb.c2;clear HHb;go_wp2_with fail
 refine (HOP.out _ HS0.out.b).mono ?_;rintro e w1 ⟨q1,hh⟩;have S1:Hid _:=HS0.out.kept q1;clear q1 HS0 HOP p0 p1 p2 p3 p4 p5 p6 p7 p8 p9 b0 b1;rcases hh with ⟨hok,rfl⟩ | ⟨hok,m1,m2,rfl,hm1,hm2,hbk⟩
 case inl =>
  have HV1:Hid (ans=boE 1):=by unfold Hid; rw [HV.out,hok]; rfl
  clear HV hok;unfold bkZ;go_upto_region 2 with fail
  have S2:Hid (Bxs w [(w.heap.size,(PlV pa pc p)),(w.heap.size+1,(BbV ba ca bo cb x)),(w.heap.size+1+1,(TcR proto inside addr port peer peerPort flags)),(w.heap.size+1+1+1,Z8V)] (w1.alloc (.cells Z14V.toArray 139))):=S1.out.kept (bR.alloc lR _);generalize (w1.alloc (.cells Z14V.toArray 139))=W2 at *;clear S1;have HX:Hid (ans=boE (1)):=by unfold Hid; exact HV1.out
  have HHz:=S2.out.at mE3;obtain ⟨z0,z1,z2,z3,z4,z5,z6,z7⟩:=HHz.c8;obtain ⟨zf0,zf1,zf2,zf3,zf4,zf5,zf6,zf7⟩:=HHz.f8;obtain ⟨HRR,RB⟩:=st8 HHz S2.out.b hRw (.slice none 0 0) (.slice none 0 0) (iV 0) eS (iV 0) eS (iV 0) (iV (1));clear HHz;go_wp2_with fail
  exact bodyPost_ret (results_mid Tryz.results60 _ _ (w.heap.size+1+1+1) [.slice none 0 0,.slice none 0 0,iV 0,eS,iV 0,eS,iV 0,iV (1)] _ rfl HRR.out Tryz.underlying104 rfl (show (Tryz.prog.info? 104).map (·.size)=some 8 by kernel_rfl)) rfl (And.intro (by rw [HX.out]; exact ⟨none,none,0,0,rfl,.inl rfl,.inl rfl,fun g h e1=>by simp at e1⟩) RB.out)
 have HBK:Hid (BookAt w1 m1 m2 x.binds x.binds):=hbk;have HOK:Hid (bookOk p x=true):=hok;rw [hok,Bool.true_and] at HV;clear hbk hok;unfold bkC;go_upto_region 2 with fail
 have bn:Below w1.heap.size w1 (w1.alloc (.cells (KkV pa pc p ba ca bo cb x m1 m2).toArray 139)):=bR.alloc lR _;have HBK2:Hid (BookAt (w1.alloc (.cells (KkV pa pc p ba ca bo cb x m1 m2).toArray 139)) m1 m2 x.binds x.binds):=HBK.out.kept bn;have S2:Hid _:=S1.out.push (KkV pa pc p ba ca bo cb x m1 m2) (by simp) 139;generalize hW2:w1.alloc _=W2 at *;clear hW2 S1 bn HBK;generalize w1.heap.size=Bk at *;have BW:Hid (Below w.heap.size w W2):=S2.out.b;have S3:Hid (Bxs W2 [(Bk,(KkV pa pc p ba ca bo cb x m1 m2)),(w.heap.size,(PlV pa pc p)),(w.heap.size+1,(BbV ba ca bo cb x)),(w.heap.size+1+1,(TcR proto inside addr port peer peerPort flags)),(w.heap.size+1+1+1,Z8V)] W2):=⟨S2.out.k,Below.refl _ _,S2.out.z⟩;clear S2;go_wp2_with fail
 refine (HTM.out _).mono ?_;rintro e W3 ⟨rfl,hw3⟩;subst hw3
 cases tm with
 | false =>
  have HX:Hid (ans=boE (1)):=by unfold Hid; rw [HV.out]; rfl
  have HHz:=S3.out.at mE4;obtain ⟨z0,z1,z2,z3,z4,z5,z6,z7⟩:=HHz.c8;obtain ⟨zf0,zf1,zf2,zf3,zf4,zf5,zf6,zf7⟩:=HHz.f8;obtain ⟨HRR,RB⟩:=st8 HHz (BW.out.trans (S3.out.b.mono BW.out.size)) hRw (.slice none 0 0) (.slice none 0 0) (iV 0) eS (iV 0) eS (iV 0) (iV (1));clear HHz;go_wp2_with fail
  exact bodyPost_ret (results_mid Tryz.results60 _ _ (w.heap.size+1+1+1) [.slice none 0 0,.slice none 0 0,iV 0,eS,iV 0,eS,iV 0,iV (1)] _ rfl HRR.out Tryz.underlying104 rfl (show (Tryz.prog.info? 104).map (·.size)=some 8 by kernel_rfl)) rfl (And.intro (by rw [HX.out]; exact ⟨none,none,0,0,rfl,.inl rfl,.inl rfl,fun g h e1=>by simp at e1⟩) RB.out)
 | true =>
 rw [Bool.true_and] at HV;obtain ⟨hn0,hn1⟩:=HNN.out rfl;have HHt:=S3.out.at mE3;obtain ⟨t0,t1,t2,t3,t4,t5,t6⟩:=HHt.c7;clear HHt;go_wp2_with fail
 refine (HTR.out _).mono ?_;rintro e W4 ⟨rfl,q4⟩;have S4:Hid _:=S3.out.kept q4;clear q4 S3 HTM HTR HNN t0 t1 t2 t3 t4 t5 t6
 cases tr with
 | false =>
  have HX:Hid (ans=boE (1)):=by unfold Hid; rw [HV.out]; rfl
  have HHz:=S4.out.at mE4;obtain ⟨z0,z1,z2,z3,z4,z5,z6,z7⟩:=HHz.c8;obtain ⟨zf0,zf1,zf2,zf3,zf4,zf5,zf6,zf7⟩:=HHz.f8;obtain ⟨HRR,RB⟩:=st8 HHz (BW.out.trans (S4.out.b.mono BW.out.size)) hRw (.slice none 0 0) (.slice none 0 0) (iV 0) eS (iV 0) eS (iV 0) (iV (1));clear HHz;go_wp2_with fail
  exact bodyPost_ret (results_mid Tryz.results60 _ _ (w.heap.size+1+1+1) [.slice none 0 0,.slice none 0 0,iV 0,eS,iV 0,eS,iV 0,iV (1)] _ rfl HRR.out Tryz.underlying104 rfl (show (Tryz.prog.info? 104).map (·.size)=some 8 by kernel_rfl)) rfl (And.intro (by rw [HX.out]; exact ⟨none,none,0,0,rfl,.inl rfl,.inl rfl,fun g h e1=>by simp at e1⟩) RB.out)
 | true =>
 have HV2:Hid (ans=gi):=by unfold Hid; rw [HV.out,if_pos rfl]
 clear HV;have HHk:=S4.out.at mE0;obtain ⟨k0,k1,k2,k3,k4,k5,k6,k7,k8,k9,k10,k11,k12,k13⟩:=HHk.c14;clear HHk;have HHt:=S4.out.at mE3;obtain ⟨t0,t1,t2,t3,t4,t5,t6⟩:=HHt.c7;clear HHt;go_wp2_with fail
 refine (HHO.out _ m1 m2 (by first | rfl | trivial) (HBK2.out.kept S4.out.b)).mono ?_;rintro e W5 ⟨rfl,q5⟩;have S5:Hid _:=S4.out.kept q5;clear q5 S4 HHO k0 k1 k2 k3 k4 k5 k6 k7 k8 k9 k10 k11 k12 k13 t0 t1 t2 t3 t4 t5 t6;go_upto_region 5 with fail
 have S6:Hid _:=S5.out.push (EnV hv.proto hv.addr hv.port) (by simp) 86;generalize hW6:W5.alloc _=W6 at *;clear hW6 S5;generalize W5.heap.size=Be at *
 cases fd with
 | false =>
  have HX:Hid (ans=boE (6)):=by unfold Hid; rw [HV2.out]; exact HG0.out (by first | rfl | trivial)
  have HHz:=S6.out.at mE5;obtain ⟨z0,z1,z2,z3,z4,z5,z6,z7⟩:=HHz.c8;obtain ⟨zf0,zf1,zf2,zf3,zf4,zf5,zf6,zf7⟩:=HHz.f8;obtain ⟨HRR,RB⟩:=st8 HHz (BW.out.trans (S6.out.b.mono BW.out.size)) hRw (.slice none 0 0) (.slice none 0 0) (iV 0) eS (iV 0) eS (iV 0) (iV (6));clear HHz;go_wp2_with fail
  exact bodyPost_ret (results_mid Tryz.results60 _ _ (w.heap.size+1+1+1) [.slice none 0 0,.slice none 0 0,iV 0,eS,iV 0,eS,iV 0,iV (6)] _ rfl HRR.out Tryz.underlying104 rfl (show (Tryz.prog.info? 104).map (·.size)=some 8 by kernel_rfl)) rfl (And.intro (by rw [HX.out]; exact ⟨none,none,0,0,rfl,.inl rfl,.inl rfl,fun g h e1=>by simp at e1⟩) RB.out)
 | true =>
 have HHb:=S6.out.at mE3;have b1:=HHb.cell (j:=1) rfl;clear HHb;have HHt:=S6.out.at mE4;obtain ⟨t0,t1,t2,t3,t4,t5,t6⟩:=HHt.c7;clear HHt;have HHn:=S6.out.at mE0;obtain ⟨n0,n1,n2⟩:=HHn.c3;clear HHn;go_wp2_with fail
 refine (HSB.out _ (BW.out.trans (S6.out.b.mono BW.out.size))).mono ?_;rintro e W7 ⟨rfl,q7⟩;have S7:Hid _:=S6.out.kept q7;clear q7 S6 HSB HG0 b1 t0 t1 t2 t3 t4 t5 t6 n0 n1 n2
 cases hfi:x.sess.findIdx? (fun s=>sameSk (sessK s) (keyT hv ⟨proto,inside,addr,port,peer,peerPort,flags⟩)) with
 | none =>
  have hk:findI (fun s=>sameSk (sessK s) (keyT hv ⟨proto,inside,addr,port,peer,peerPort,flags⟩)) x.sess=-1:=by unfold findI; rw [hfi]
  have HX:Hid (ans=beginV p x hv ⟨proto,inside,addr,port,peer,peerPort,flags⟩ now):=by unfold Hid; rw [HV2.out]; exact HG1.out (by first | rfl | trivial) hfi
  clear HV2 HG1 HG2 hfi;rw [hk];clear hk;generalize beginV p x hv ⟨proto,inside,addr,port,peer,peerPort,flags⟩ now=nv at *;have HHk:=S7.out.at mE1;obtain ⟨k0,k1,k2,k3,k4,k5,k6,k7,k8,k9,k10,k11,k12,k13⟩:=HHk.c14;clear HHk;have HHt:=S7.out.at mE4;obtain ⟨t0,t1,t2,t3,t4,t5,t6⟩:=HHt.c7;clear HHt;have HHn:=S7.out.at mE0;obtain ⟨n0,n1,n2⟩:=HHn.c3;clear HHn;have hRl:w.heap.size+1+1+1 < W7.heap.size:=(S7.out.lts _ mE5).1;have hwl:w.heap.size≤W7.heap.size:=Nat.le_trans BW.out.size S7.out.b.size;go_wp2_with fail
  refine (HBG.out _ m1 m2 (BW.out.trans (S7.out.b.mono BW.out.size)) HOK.out (by first | rfl | trivial) (by first | rfl | trivial) (by first | rfl | trivial) (HBK2.out.kept S7.out.b)).mono ?_;rintro e W8 ⟨⟨a1,a2,c1,c2,rfl,hown⟩,q8⟩;have S8:Hid _:=S7.out.kept q8;have HHz:=S8.out.at mE5;obtain ⟨z0,z1,z2,z3,z4,z5,z6,z7⟩:=HHz.c8;obtain ⟨zf0,zf1,zf2,zf3,zf4,zf5,zf6,zf7⟩:=HHz.f8;obtain ⟨HRR,RB⟩:=st8 HHz (BW.out.trans (S8.out.b.mono BW.out.size)) hRw (.slice a1 nv.bib.binds.length c1) (.slice a2 nv.bib.sess.length c2) (iV nv.bind.proto) (.string nv.bind.inn) (iV nv.bind.inPort) (.string nv.bind.out) (iV nv.bind.outPort) (iV nv.code);clear HHz;have HOW:Hid (BbOwn w.heap.size ((sW (sW (sW (sW (sW (sW (sW W8 (w.heap.size+1+1+1) 0 (.slice a1 nv.bib.binds.length c1)) (w.heap.size+1+1+1) 1 (.slice a2 nv.bib.sess.length c2)) (w.heap.size+1+1+1) 2 (iV nv.bind.proto)) (w.heap.size+1+1+1) 3 (.string nv.bind.inn)) (w.heap.size+1+1+1) 4 (iV nv.bind.inPort)) (w.heap.size+1+1+1) 5 (.string nv.bind.out)) (w.heap.size+1+1+1) 6 (iV nv.bind.outPort)).setCell ⟨w.heap.size+1+1+1,7,none⟩ (iV nv.code)) a1 a2 nv.bib):=⟨(hown.bd.grown (grown_set (grown_set (grown_set (grown_set (grown_set (grown_set (grown_set (grown_set (World.grownBy.refl _ _) _) _) _) _) _) _) _) _) hRl).down hwl,(hown.ss.grown (grown_set (grown_set (grown_set (grown_set (grown_set (grown_set (grown_set (grown_set (World.grownBy.refl _ _) _) _) _) _) _) _) _) _) hRl).down hwl,hown.ne⟩;clear hown q8;unfold boC;go_wp2_with fail
  exact bodyPost_ret (results_mid Tryz.results60 _ _ _ _ _ rfl HRR.out Tryz.underlying104 rfl (show (Tryz.prog.info? 104).map (·.size)=some 8 by kernel_rfl)) rfl (And.intro (by rw [HX.out]; exact ⟨a1,a2,c1,c2,rfl,HOW.out⟩) RB.out)
 | some j =>
  have hk:findI (fun s=>sameSk (sessK s) (keyT hv ⟨proto,inside,addr,port,peer,peerPort,flags⟩)) x.sess=(j:Int):=by unfold findI; rw [hfi]
  obtain ⟨hlt,-⟩:=idx_some hfi;obtain ⟨s,hs⟩ : ∃ s,s=x.sess[j]:=⟨_,rfl⟩;have HW:Hid (ans=⟨⟨x.binds,x.sess.set j { s with state:=trackNextV proto s.state inside flags,untl:=now+trackLifeV p.lv proto (trackNextV proto s.state inside flags) }⟩,d,0⟩):=by unfold Hid; rw [HV2.out,HG2.out j hlt (by first | rfl | trivial) hfi,hs]; rfl
  rw [hk];clear hfi hk HV2 HG1 HG2 HBG;have HSJ:Hid (s=x.sess[j]):=hs;clear hs;replace HNX:=HNX.out s.state;have HNY:Hid _:=HNX;clear HNX;generalize trackNextV proto s.state inside flags=st at *;replace HLF:=HLF.out st;have HLG:Hid _:=HLF;clear HLF;obtain ⟨hf0,hf1⟩:=trackLife_in p.lv proto st;generalize trackLifeV p.lv proto st=lf at *;have hge:¬ (j:Int) < 0:=by omega
  have HHb:=S7.out.at mE3;obtain ⟨b0,b1⟩:=HHb.c2;clear HHb;go_wp2_with fail
  refine (HCY.out _ (BW.out.trans (S7.out.b.mono BW.out.size))).mono ?_;rintro e W8 ⟨⟨bv,sv,rfl,o1,o2⟩,q8⟩;have S8:Hid _:=S7.out.kept q8;have HO:Hid _:=RowsO.make (ks:=[(Be,(EnV hv.proto hv.addr hv.port)),(Bk,(KkV pa pc p ba ca bo cb x m1 m2)),(w.heap.size,(PlV pa pc p)),(w.heap.size+1,(BbV ba ca bo cb x)),(w.heap.size+1+1,(TcR proto inside addr port peer peerPort flags)),(w.heap.size+1+1+1,Z8V)]) (x:=x) S7.out.b.size S8.out.b o1 o2 S8.out.k S7.out.lts q8.size;obtain ⟨ab,cb1,hbv,-,-⟩:=(Row.shape bdL_length (w0:=W8) ⟨o1,Below.refl _ _⟩ : ∃ a' cap,bv=.slice a' x.binds.length cap∧x.binds.length≤cap∧SlOwn bdL 5 W7.heap.size W8 a' x.binds);obtain ⟨gs,cs1,hsv⟩ : ∃ gs cs1,sv=.slice (some ⟨gs,0,none⟩) x.sess.length cs1:=by
   rcases o2.2 with ⟨_,h0⟩ | ⟨g,cap,cur,h3,_⟩
   ·omega
   ·exact ⟨g,cap,h3⟩
  subst hbv hsv;clear q8 o1 o2 S8 S7 b0 b1 hge HCY;go_upto_region 11 with fail
  generalize (W8.alloc (.cells #[(.slice ab x.binds.length cb1),(.slice (some ⟨gs,0,none⟩) x.sess.length cs1)] 31))=V1 at *;generalize W8.heap.size=O at *;generalize W7.heap.size=base at *;have HV1:Hid (RowsO W3 base O [(Be,(EnV hv.proto hv.addr hv.port)),(Bk,(KkV pa pc p ba ca bo cb x m1 m2)),(w.heap.size,(PlV pa pc p)),(w.heap.size+1,(BbV ba ca bo cb x)),(w.heap.size+1+1,(TcR proto inside addr port peer peerPort flags)),(w.heap.size+1+1+1,Z8V)] (.slice ab x.binds.length cb1) (.slice (some ⟨gs,0,none⟩) x.sess.length cs1) x.binds (x.sess) V1):=HO.out;clear HO;have hltI:(j:Int) < (x.sess.length:Int):=by omega
  have HCP:Hid (∀ wy,Below V1.drew.heap.size V1.drew wy→_):=fun wy hy=>HV1.out.kept (bR.drew.trans hy)
  go_cut [15] (fun v wx=>v=iV st∧RowsO W3 base O [(Be,(EnV hv.proto hv.addr hv.port)),(Bk,(KkV pa pc p ba ca bo cb x m1 m2)),(w.heap.size,(PlV pa pc p)),(w.heap.size+1,(BbV ba ca bo cb x)),(w.heap.size+1+1,(TcR proto inside addr port peer peerPort flags)),(w.heap.size+1+1+1,Z8V)] (.slice ab x.binds.length cb1) (.slice (some ⟨gs,0,none⟩) x.sess.length cs1) x.binds (x.sess) wx)
  case first =>
   rename_i J K2 hJ hK2;clear hun;refine wp_region_growH [62,63,64,65,66,67,68,69,70,71,72,73,74,15] (by kernel_rfl) (by kernel_rfl) ?_;iterate 14 (apply GCh.u rfl;(·intro K' a wy ho hd hb hK;simp [rAt,IsV,slot,Region.binds] at ho hd;have hst:=HCP.out wy hb;have k1:=hst.o.cell (j:=1) rfl;have r5:wy.cell? ⟨gs,j*7+5,none⟩=some (iV s.state):=own_at hst.so rfl j hlt 5 _ (by rw [← HSJ.out]; rfl);have kC:=(hst.at mE4).c7;clear hst;go_simp;first|((try go_bits);exact hK _ _ rfl bQ)|(refine (HNY.out wy (BW.out.trans ((HCP.out wy hb).b.mono BW.out.size))).mono ?_;rintro e wz ⟨rfl,hz⟩;exact hK _ _ rfl hz));dsimp only [nA,cA])
   intro X wz hR hz;simp only [List.nil_append,List.cons_append,RAll,IsV] at hR;simp only [putsFrom,hR];clear hR;go_simp;refine hK2 _ _ (hJ _ _ ?_);(repeat apply Exists.intro)
   refine ⟨⟨rfl,HCP.out wz hz⟩,rfl⟩
  case rest =>
  obtain ⟨rfl,hS⟩:=hcut;have V2:Hid _:=hS;clear hS HV1 HCP HNY;generalize wc=U2 at *;have k1:=V2.out.o.cell (j:=1) rfl;have r5:U2.cell? ⟨gs,j*7+5,none⟩=some (iV s.state):=own_at V2.out.so rfl j hlt 5 _ (by rw [← HSJ.out]; rfl);have f5:U2.frozen? ⟨gs,j*7+5,none⟩=false:=own_free V2.out.so _;have V3:Hid _:=V2.out.setS rfl j hlt 5 (by decide) (iV st) { s with state:=st } (by rw [← HSJ.out]; rfl);clear V2;go_upto_region 13 with fail
  clear k1 r5 f5;generalize U2.setCell ⟨gs,j*7+5,none⟩ (iV st)=U3 at *;have V4:Hid (RowsO W3 base O [(Be,(EnV hv.proto hv.addr hv.port)),(Bk,(KkV pa pc p ba ca bo cb x m1 m2)),(w.heap.size,(PlV pa pc p)),(w.heap.size+1,(BbV ba ca bo cb x)),(w.heap.size+1+1,(TcR proto inside addr port peer peerPort flags)),(w.heap.size+1+1+1,Z8V)] (.slice ab x.binds.length cb1) (.slice (some ⟨gs,0,none⟩) x.sess.length cs1) x.binds (x.sess.set j { s with state:=st }) U3):=V3.out;clear V3;have HCP:Hid (∀ wy,Below U3.drew.heap.size U3.drew wy→_):=fun wy hy=>V4.out.kept (bR.drew.trans hy)
  clear V4;go_cut [14] (fun v wx=>v=.pointer (some ⟨O,0,none⟩)∧RowsO W3 base O [(Be,(EnV hv.proto hv.addr hv.port)),(Bk,(KkV pa pc p ba ca bo cb x m1 m2)),(w.heap.size,(PlV pa pc p)),(w.heap.size+1,(BbV ba ca bo cb x)),(w.heap.size+1+1,(TcR proto inside addr port peer peerPort flags)),(w.heap.size+1+1+1,Z8V)] (.slice ab x.binds.length cb1) (.slice (some ⟨gs,0,none⟩) x.sess.length cs1) x.binds (x.sess.set j { s with state:=st,untl:=now+lf }) wx)
  case first =>
   rename_i J K2 hJ hK2;try clear hun
   refine wp_region_growV [81,82,83,84,85,86,87,88,89,90,91,92,93] (by kernel_rfl) (by kernel_rfl) ?_;iterate 13 (apply GChV.u rfl;(·intro K' a wy ho hd hb hK;simp [rAt,IsV,slot,Region.binds] at ho hd;have hst:=HCP.out wy hb;have k1:=hst.o.cell (j:=1) rfl;have HHt:=hst.at mE4;have t0:=HHt.cell (j:=0) rfl;clear HHt;have kC:=(hst.at mE2).c10;clear hst;go_simp;first|((try go_bits);exact hK _ _ rfl bQ)|(refine (HLG.out wy).mono ?_;rintro e wz ⟨rfl,hz⟩;exact hK _ _ rfl hz));dsimp only [nA,cA])
   intro X wz hR hz;simp only [List.nil_append,List.cons_append,RAll,IsV] at hR;simp only [putsFrom,hR];clear hR;have SZ:=HCP.out wz hz;have hls:x.sess.length=(x.sess.set j { s with state:=st }).length:=by simp
   have r6:wz.cell? ⟨gs,j*7+6,none⟩=some (iV s.untl):=own_at SZ.so hls j (by simpa using hlt) 6 _ (by simp [ssL]);have f6:wz.frozen? ⟨gs,j*7+6,none⟩=false:=own_free SZ.so _;have S8:=SZ.setS hls j (by simpa using hlt) 6 (by decide) (iV (now+lf)) { s with state:=st,untl:=now+lf } (by simp [ssL]);rw [List.set_set] at S8;have S9:Hid _:=S8;clear S8 SZ hz HCP hls;simp only [List.length_cons,List.length_nil,List.drop_succ_cons,List.drop_zero,Nat.zero_add,Nat.reduceAdd];intro K5 hK5;go_simp;refine hK5 _ _ ?_;show Exit.then _ _ _ _ _;refine hK2 _ _ (hJ _ _ ?_);(repeat apply Exists.intro)
   exact ⟨⟨rfl,S9.out⟩,rfl⟩
  case rest =>
  obtain ⟨rfl,hS⟩:=hcut;have V5:Hid _:=hS;clear hS HCP HLG;generalize wc=U5 at *;go_upto_region 14 with fail
  have HCP:Hid (∀ wy,Below U5.drew.heap.size U5.drew wy→_):=fun wy hy=>V5.out.kept (bR.drew.trans hy)
  clear V5;try clear hun
  refine wp_region_growV [94,95,96,97,98,99,100] (by kernel_rfl) (by kernel_rfl) ?_;iterate 4 (apply GChV.u rfl;(·intro K' a wy ho hd hb hK;simp [rAt,IsV,slot,Region.binds] at ho hd;have hst:=HCP.out wy hb;have kC:=hst.o.c2;have HHk:=hst.at mE1;have k12:=HHk.cell (j:=12) rfl;clear HHk;have kC:=(hst.at mE0).c3;clear hst;go_simp;(try go_bits);exact hK _ _ rfl bQ);dsimp only [nA,cA])
  apply GChV.v4
  ·rfl
  ·intro K' a wy ho hd hb hK kz;have q2:=hd ⟨2,.data⟩ (by simp) rfl;have q3:=hd ⟨3,.data⟩ (by simp) rfl;simp [rAt,IsV,slot] at q2 q3;clear hd ho;refine wp_look_val _ (.tmp 96) (.tmp 97) false rfl (by simp [Act.eval,slot,q2]) (by simp [Act.eval,slot,q3]) (HGT.out wy m1 m2 HOK.out (by first | rfl | trivial) (by first | rfl | trivial) (HBK2.out.kept (HCP.out wy hb).b)) (hK _ _ rfl bR)
  iterate 2 (apply GChV.u rfl;(·intro K' a wy ho hd hb hK;simp [rAt,IsV,slot,Region.binds] at ho hd;go_simp;first|((try go_bits);exact hK _ _ rfl bQ)|(refine (HCB.out wy).mono ?_;rintro e wz ⟨rfl,hz⟩;exact hK _ _ rfl hz));dsimp only [nA,cA])
  intro X wz hR hz;simp only [List.nil_append,List.cons_append,RAll,IsV] at hR;simp only [putsFrom,hR];clear hR;have V7:Hid (RowsO W3 base O [(Be,(EnV hv.proto hv.addr hv.port)),(Bk,(KkV pa pc p ba ca bo cb x m1 m2)),(w.heap.size,(PlV pa pc p)),(w.heap.size+1,(BbV ba ca bo cb x)),(w.heap.size+1+1,(TcR proto inside addr port peer peerPort flags)),(w.heap.size+1+1+1,Z8V)] (.slice ab x.binds.length cb1) (.slice (some ⟨gs,0,none⟩) x.sess.length cs1) x.binds (x.sess.set j { s with state:=st,untl:=now+lf }) wz):=HCP.out wz hz;clear hz HCP;have HHz:=V7.out.at mE5;obtain ⟨z0,z1,z2,z3,z4,z5,z6,z7⟩:=HHz.c8;obtain ⟨zf0,zf1,zf2,zf3,zf4,zf5,zf6,zf7⟩:=HHz.f8;obtain ⟨HRR,RB⟩:=st8 HHz (BW.out.trans (V7.out.b.mono BW.out.size)) hRw (.slice ab x.binds.length cb1) (.slice (some ⟨gs,0,none⟩) x.sess.length cs1) (iV d.proto) (.string d.inn) (iV d.inPort) (.string d.out) (iV d.outPort) (iV 0);clear HHz;obtain ⟨w1,q1,hb1,-,hbo⟩:=V7.out.shapes.1;obtain ⟨w2,q2,hb2,-,hso⟩:=V7.out.shapes.2;injection hb1 with i1 i2 i3
  injection hb2 with i4 i5 i6
  have hRb:w.heap.size+1+1+1 < base:=(V7.out.kb _ mE5).1;have hwb:w.heap.size≤base:=Nat.le_trans BW.out.size V7.out.wb;have HOW:Hid (BbOwn w.heap.size ((sW (sW (sW (sW (sW (sW (sW wz (w.heap.size+1+1+1) 0 (.slice ab x.binds.length cb1)) (w.heap.size+1+1+1) 1 (.slice (some ⟨gs,0,none⟩) x.sess.length cs1)) (w.heap.size+1+1+1) 2 (iV d.proto)) (w.heap.size+1+1+1) 3 (.string d.inn)) (w.heap.size+1+1+1) 4 (iV d.inPort)) (w.heap.size+1+1+1) 5 (.string d.out)) (w.heap.size+1+1+1) 6 (iV d.outPort)).setCell ⟨w.heap.size+1+1+1,7,none⟩ (iV 0)) w1 w2 ⟨x.binds,x.sess.set j { s with state:=st,untl:=now+lf }⟩):=⟨(hbo.grown (grown_set (grown_set (grown_set (grown_set (grown_set (grown_set (grown_set (grown_set (World.grownBy.refl _ _) _) _) _) _) _) _) _) _) hRb).down hwb,(hso.grown (grown_set (grown_set (grown_set (grown_set (grown_set (grown_set (grown_set (grown_set (World.grownBy.refl _ _) _) _) _) _) _) _) _) _) hRb).down hwb,fun g h e1 e2 _ _ e3=>V7.out.ne g (by rw [i1,e1]; rfl) (by rw [i4,e2,← e3]; rfl)⟩;have I1:Hid _:=i1;have I3:Hid _:=i3;have I4:Hid _:=i4;have I5:Hid _:=i5;have I6:Hid _:=i6;clear hbo hso V7 i1 i2 i3 i4 i5 i6;intro K10 hK10;go_simp;refine hK10 _ _ ?_;simp only [wpSeq];go_wp2_with fail
  exact bodyPost_ret (results_mid Tryz.results60 _ _ _ _ _ rfl HRR.out Tryz.underlying104 rfl (show (Tryz.prog.info? 104).map (·.size)=some 8 by kernel_rfl)) rfl (And.intro (by rw [HW.out]; exact ⟨w1,w2,q1,q2,by first | (rw [I1.out,I3.out,I4.out,I5.out,I6.out]; rfl) | (rw [I1.out,I3.out,I4.out,I6.out]; simp [boC]),HOW.out⟩) RB.out)
end Go.Proofs.YtdkepkaflielhaaGreatDoor
