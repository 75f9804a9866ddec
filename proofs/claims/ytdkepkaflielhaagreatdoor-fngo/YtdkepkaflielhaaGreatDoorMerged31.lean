import Derived.Test.YtdkepkaflielhaaGreatDoorIBegin
import Derived.Lib.QuietBelow
set_option linter.unusedVariables false
set_option linter.unusedSimpArgs false
set_option maxRecDepth 100000
set_option maxHeartbeats 8000000
namespace Go.Proofs.YtdkepkaflielhaaGreatDoor
open Go.RowKit Go.PlainAid
theorem lP{t:Tc}(h:bY t=true):gO t.UU∧0≤t.port∧t.port≤65535∧aM t.VB 0 255=true:=by
 unfold bY at h;simp only[TP]at h;obtain⟨⟨⟨⟨⟨⟨h1,h2⟩,h3⟩,h4⟩,h5⟩,h6⟩,h7⟩:=h;have h4':=eD h4;refine⟨?_,h4'.1,h4'.2,h7⟩;unfold eP at h1;simp only[UK,TU]at h1;unfold gO;rcases h1 with (h1|h1)|h1<;>rw[h1]<;>decide
theorem GC{p:Pl}{x:Bb}{t:Tc}(hok:cS p x=true)(ht:bY t=true)(hs:t.addr.size≤1048576)(hgb:∀q∈x.VC,fJ q)(hf:(cH x t).2=true):qU (cH x t).1∧0≤(cH x t).1.port∧(cH x t).1.port≤65535:=by
 obtain⟨t1,t2,t3,t4⟩:=lP ht;unfold cH at hf ⊢
 cases hin:t.UY with
 | true=>
  simp only[if_true];refine⟨⟨hs,t1,?_⟩,t2,t3⟩;show gO t.port;unfold gO;constructor<;>omega
 | false=>
  rw[hin]at hf;simp only[UD,if_false]at hf ⊢
  cases hd:x.VC.find? (dE t.UU t.addr t.port) with
  | none=>rw[hd]at hf;simp at hf
  | some c=>
   have hc:=UP hd;simp only[Option.getD_some];refine⟨vS (hgb c hc),?_⟩;unfold cS at hok;simp only[TP]at hok;have hF:=gV.1 hok.1.2;obtain⟨i,hi,rfl⟩:=UN hc;have h1:=hF i hi;unfold lU at h1;simp only[TP]at h1;exact eD h1.1.1.1.1.1.1.2
theorem OJ{p:Pl}{x:Bb}{t:Tc}{now:Int}(h1:(cH x t).2=true)(h2:x.UZ.findIdx? (fun s=>dG (dZ s) (pE (cH x t).1 t))=none):IR p x t now=lA p x (cH x t).1 t now:=by
 unfold IR;rw[if_neg (by rw[h1];decide),h2]
theorem OM{p:Pl}{x:Bb}{t:Tc}{now:Int}{j:Nat}(hlt:j < x.UZ.length)(h1:(cH x t).2=true)(h2:x.UZ.findIdx? (fun s=>dG (dZ s) (pE (cH x t).1 t))=some j):IR p x t now=⟨⟨x.VC,x.UZ.set j (lY p t now x.UZ[j])⟩,(x.VC.find? (cD (cH x t).1.UU (cH x t).1.addr (cH x t).1.port)).getD lT,0⟩:=by
 unfold IR rP;rw[if_neg (by rw[h1];decide),h2];simp only[UJ hlt]
theorem nS(pa:OA)(pc:Nat)(p:Pl)(ba bo:OA)(ca cb:Nat)(x:Bb)(t:Tc)(now:Int)(w:World)(hT:sA w)(hs1:t.addr.size≤1048576)(hs2:t.peer.size≤1048576)(hpl:p.VA.length≤1048576)(hpc:p.VA.length≤pc)(hps:∀s∈p.VA,s.size≤1048576)(hbl1:x.VC.length≤1048576)(hbl2:x.UZ.length≤1048576)(hgb:∀q∈x.VC,fJ q)(hgs:∀s∈x.UZ,iM s)(hp:bP bX 1 w pa p.VA)(hx:dI w ba bo x) :
  Calls Tryz.prog 60 #[jQ pa pc p,iQ ba bo ca cb x,qF t,iV now] w fun e w'=>mK w.heap.size (dB p x t now) e w'∧Below w.heap.size w w':=by
 rw[←IF];have HHP:Hid (cS p x=true→bY t=true→(cH x t).2=true→qU (cH x t).1∧0≤(cH x t).1.port∧(cH x t).1.port≤65535):=fun h1 h2 h3=>GC h1 h2 hs1 hgb h3
 have HTP:Hid (bY t=true→gO t.UU∧0≤t.port∧t.port≤65535∧aM t.VB 0 255=true):=lP;have HG0:Hid ((cH x t).2=false→IR p x t now=lB 6):=fun h=>by unfold IR;rw[if_pos h]
 have HG1:Hid ((cH x t).2=true→x.UZ.findIdx? (fun s=>dG (dZ s) (pE (cH x t).1 t))=none→IR p x t now=lA p x (cH x t).1 t now):=OJ;have HG2:Hid (∀j (hlt:j < x.UZ.length),(cH x t).2=true→x.UZ.findIdx? (fun s=>dG (dZ s) (pE (cH x t).1 t))=some j→IR p x t now=⟨⟨x.VC,x.UZ.set j (lY p t now x.UZ[j])⟩,(x.VC.find? (cD (cH x t).1.UU (cH x t).1.addr (cH x t).1.port)).getD lT,0⟩):=fun j hlt=>OM hlt
 have HHO:Hid (∀W m1 m2,bY t=true→dF W m1 m2 x.VC x.VC→Cb 106 #[.agg (iF pa pc p ba ca bo cb x m1 m2).toArray,qF t] W (.tuple #[qV (cH x t).1,.bool (cH x t).2])):=fun W m1 m2 ht hbk=>GB pa pc p ba bo ca cb x m1 m2 t W ⟨hs1,(lP ht).1,by have:=lP ht;show gO t.port;unfold gO;constructor<;>omega⟩ hbk
 have HBG:Hid (∀W m1 m2,Below w.heap.size w W→cS p x=true→bS now=true→bY t=true→(cH x t).2=true→dF W m1 m2 x.VC x.VC→Calls Tryz.prog 108 #[.agg (iF pa pc p ba ca bo cb x m1 m2).toArray,qV (cH x t).1,qF t,iV now] W fun e w'=>mK W.heap.size (lA p x (cH x t).1 t now) e w'∧Below W.heap.size W w'):=fun W m1 m2 hW hok hnow ht hf hbk=>by
  have hpo:cT p=true:=by unfold cS at hok;simp only[TP]at hok;exact hok.1.1.1.1
  have h:=HHP.out hok ht hf;exact JK pa pc p ba bo ca cb x m1 m2 _ t now W hpo hnow (lP ht).2.2.2 h.1 h.2.1 h.2.2 hs2 hps hbl1 hbl2 hgb hgs hbk (hp.below hW) (hx.below hW)
 have HGT:Hid (∀W m1 m2,cS p x=true→bY t=true→(cH x t).2=true→dF W m1 m2 x.VC x.VC→(Instr.lookup 137 (.map (some m1)) (qV (cH x t).1) false).run Tryz.prog W=.ok (jI ((x.VC.find? (cD (cH x t).1.UU (cH x t).1.addr (cH x t).1.port)).getD lT)) W):=fun W m1 m2 hok ht hf hbk=>by
  have hl:=hbk.get1 (HHP.out hok ht hf).1;rw[show (fun q=>bU (bN q) (cH x t).1)=cD (cH x t).1.UU (cH x t).1.addr (cH x t).1.port from funext fun c=>oI _ _ _ c]at hl;exact hl
 have HCB:Hid (∀W,Cb 82 #[jI ((x.VC.find? (cD (cH x t).1.UU (cH x t).1.addr (cH x t).1.port)).getD lT)] W (jI ((x.VC.find? (cD (cH x t).1.UU (cH x t).1.addr (cH x t).1.port)).getD lT))):=fun W=>by
  cases hf:x.VC.find? (cD (cH x t).1.UU (cH x t).1.addr (cH x t).1.port) with
  | none=>exact mA lT W (UR _) (UR _)
  | some c=>exact mA c W (hgb c (UP hf)).1 (hgb c (UP hf)).2.1
 obtain⟨UU,UY,addr,port,peer,UV,VB⟩:=t;dsimp only at hs1 hs2;have HOP:Hid (∀W,Below w.heap.size w W→Calls Tryz.prog 104 #[.agg (bM pa pc p).toArray,.agg (bF ba ca bo cb x).toArray] W (kK W pa pc p ba bo ca cb x)):=fun W hW=>DK pa pc p ba bo ca cb x W hpl hpc hps hbl1 hbl2 hgb hgs (hp.below hW) (hx.below hW)
 have HTM:Hid (∀W,Cw 87 #[iV now] W (.bool (bS now))):=fun W=>sI now W
 have HTR:Hid (∀W,Cb 105 #[.agg (eO UU UY addr port peer UV VB).toArray] W (.bool (bY ⟨UU,UY,addr,port,peer,UV,VB⟩))):=fun W=>wW ⟨UU,UY,addr,port,peer,UV,VB⟩ W hs1 hs2
 have HSA:Hid (∀(h:En) W,Below w.heap.size w W→Cb 107 #[.slice bo x.UZ.length cb,.agg (iW h.UU h.addr h.port peer UV).toArray] W (iV (bG (fun s=>dG (dZ s) (pE h ⟨UU,UY,addr,port,peer,UV,VB⟩)) x.UZ))):=fun h W hW=>wI (pE h ⟨UU,UY,addr,port,peer,UV,VB⟩) x.UZ bo cb W hbl2 (hx.ss.below hW)
 have HCY:Hid (∀W,Below w.heap.size w W→Calls Tryz.prog 109 #[.agg (bF ba ca bo cb x).toArray] W fun e w'=>oA W.heap.size x e w'∧Below W.heap.size W w'):=fun W hW=>qW x ba bo ca cb W hbl1 hbl2 hgb hgs (hx.below hW)
 have HNX:Hid (∀(st:Int) (W:World),Below w.heap.size w W→Cb 110 #[iV UU,iV st,.bool UY,iV VB] W (iV (aV UU st UY VB))):=fun st W hW=>zZ UU st UY VB W (hT.below hW)
 have HLF:Hid (∀(st:Int) (W:World),Cb 111 #[.agg #[iV p.lv.udp,iV p.lv.echo,iV p.lv.opening,iV p.lv.opn,iV p.lv.closing],iV UU,iV st] W (iV (bT p.lv UU st))):=fun st W=>sG p.lv UU st W
 unfold qF at HHO HBG;dsimp only at HHO HBG;obtain⟨ans,hans⟩: ∃a,a=(if (cS p x&&bS now&&bY ⟨UU,UY,addr,port,peer,UV,VB⟩)=true then IR p x ⟨UU,UY,addr,port,peer,UV,VB⟩ now else lB 1):=⟨_,rfl⟩;rw[←hans];have HV:Hid (ans=(if (cS p x&&bS now&&bY ⟨UU,UY,addr,port,peer,UV,VB⟩)=true then IR p x ⟨UU,UY,addr,port,peer,UV,VB⟩ now else lB 1)):=hans;have hn:bS now=true→0≤now∧now≤1000000000:=fun h=>by unfold bS aM at h;simp only[TP,TU]at h;omega
 have HNN:Hid _:=hn;generalize hgi:IR p x ⟨UU,UY,addr,port,peer,UV,VB⟩ now=gi at *;obtain⟨hv,hhv⟩: ∃h,h=(cH x ⟨UU,UY,addr,port,peer,UV,VB⟩).1:=⟨_,rfl⟩;rw[←hhv]at HHP HG1 HG2 HHO HBG HGT HCB;unfold qV at HHO HBG HGT;generalize (cH x ⟨UU,UY,addr,port,peer,UV,VB⟩).2=fd at *;replace HSA:=HSA.out hv;have HSB:Hid _:=HSA;clear HSA hhv;obtain⟨d,hd⟩: ∃d,d=(x.VC.find? (cD hv.UU hv.addr hv.port)).getD lT:=⟨_,rfl⟩;rw[←hd]at HG2 HGT HCB;unfold jI at HGT HCB;clear hd hans hn hgi;generalize bY ⟨UU,UY,addr,port,peer,UV,VB⟩=tr at *;generalize bS now=tm at *;have hun:undef=Value.tuple #[]:=rfl;have hRw:w.heap.size≤w.heap.size+1+1+1:=by omega
 clear hp hx hgb hgs hps hT;have e0:aA ((aW (aW (aW w (bM pa pc p) 27) (bF ba ca bo cb x) 31) (eO UU UY addr port peer UV VB) 89).alloc (.cells iG.toArray 104)) (w.heap.size) (bM pa pc p):=by
  have h:=aA.new w (bM pa pc p) 27;try simp only[TQ]at h
  exact(((h.alloc _).alloc _).alloc _)
 have e1:aA ((aW (aW (aW w (bM pa pc p) 27) (bF ba ca bo cb x) 31) (eO UU UY addr port peer UV VB) 89).alloc (.cells iG.toArray 104)) (w.heap.size+1) (bF ba ca bo cb x):=by
  have h:=aA.new (w.alloc (.cells (bM pa pc p).toArray 27)) (bF ba ca bo cb x) 31;try simp only[TQ]at h
  exact((h.alloc _).alloc _)
 have e2:aA ((aW (aW (aW w (bM pa pc p) 27) (bF ba ca bo cb x) 31) (eO UU UY addr port peer UV VB) 89).alloc (.cells iG.toArray 104)) (w.heap.size+1+1) (eO UU UY addr port peer UV VB):=by
  have h:=aA.new ((aW w (bM pa pc p) 27).alloc (.cells (bF ba ca bo cb x).toArray 31)) (eO UU UY addr port peer UV VB) 89;try simp only[TQ]at h
  exact(h.alloc _)
 have e3:aA ((aW (aW (aW w (bM pa pc p) 27) (bF ba ca bo cb x) 31) (eO UU UY addr port peer UV VB) 89).alloc (.cells iG.toArray 104)) (w.heap.size+1+1+1) iG:=by
  have h:=aA.new ((aW (aW w (bM pa pc p) 27) (bF ba ca bo cb x) 31).alloc (.cells (eO UU UY addr port peer UV VB).toArray 89)) iG 104;try simp only[TQ]at h
  exact h
 have HS0:Hid (dX w [(w.heap.size,(bM pa pc p)),(w.heap.size+1,(bF ba ca bo cb x)),(w.heap.size+1+1,(eO UU UY addr port peer UV VB)),(w.heap.size+1+1+1,iG)] ((aW (aW (aW w (bM pa pc p) 27) (bF ba ca bo cb x) 31) (eO UU UY addr port peer UV VB) 89).alloc (.cells iG.toArray 104))):=by
  refine⟨fun e he=>?_,((((bR.alloc (by (try simp only[TQ]);omega) _).alloc (by (try simp only[TQ]);omega) _).alloc (by (try simp only[TQ]);omega) _).alloc (by (try simp only[TQ]);omega) _),fun e he=>?_⟩
  ·simp only[TW,TV,or_false]at he;rcases he with rfl|rfl|rfl|rfl
   ·exact e0
   ·exact e1
   ·exact e2
   ·exact e3
  ·simp only[TW,TV,or_false]at he;rcases he with rfl|rfl|rfl|rfl<;>simp
 clear e0 e1 e2 e3;unfold jQ iQ qF;go_enter Tryz.func60,Tryz.ntmps60
 go_upto_region 1 with fail
 generalize World.alloc _ _=W at *;have HHp:=HS0.out.at cO;obtain⟨p0,p1,p2,p3,p4,p5,p6,p7,p8,p9⟩:=HHp.c10;clear HHp;have HHb:=HS0.out.at eB;obtain⟨b0,b1⟩:=HHb.c2;clear HHb;go_wp2_with fail
 refine(HOP.out _ HS0.out.b).mono ?_;rintro e w1 ⟨q1,hh⟩;have S1:Hid _:=HS0.out.kept q1;clear q1 HS0 HOP p0 p1 p2 p3 p4 p5 p6 p7 p8 p9 b0 b1;rcases hh with ⟨hok,rfl⟩|⟨hok,m1,m2,rfl,hm1,hm2,hbk⟩
 case inl=>
  have HV1:Hid (ans=lB 1):=by unfold Hid;rw[HV.out,hok];rfl
  clear HV hok;unfold SM;go_upto_region 2 with fail
  have S2:Hid (dX w [(w.heap.size,(bM pa pc p)),(w.heap.size+1,(bF ba ca bo cb x)),(w.heap.size+1+1,(eO UU UY addr port peer UV VB)),(w.heap.size+1+1+1,iG)] (w1.alloc (.cells pC.toArray 139))):=S1.out.kept (bR.alloc lR _);generalize (w1.alloc (.cells pC.toArray 139))=W2 at *;clear S1;have HX:Hid (ans=lB (1)):=by unfold Hid;exact HV1.out
  have HHz:=S2.out.at iR;obtain⟨z0,z1,z2,z3,z4,z5,z6,z7⟩:=HHz.c8;obtain⟨zf0,zf1,zf2,zf3,zf4,zf5,zf6,zf7⟩:=HHz.f8;obtain⟨HRR,RB⟩:=vD HHz S2.out.b hRw (.slice none 0 0) (.slice none 0 0) (iV 0) eS (iV 0) eS (iV 0) (iV (1));clear HHz;go_wp2_with fail
  exact UQ (aG Tryz.results60 _ _ (w.heap.size+1+1+1) [.slice none 0 0,.slice none 0 0,iV 0,eS,iV 0,eS,iV 0,iV (1)] _ rfl HRR.out Tryz.underlying104 rfl (show (Tryz.prog.info? 104).map (·.size)=some 8 by kernel_rfl)) rfl (And.intro (by rw[HX.out];exact⟨none,none,0,0,rfl,.inl rfl,.inl rfl,fun g h e1=>by simp at e1⟩) RB.out)
 have HBK:Hid (dF w1 m1 m2 x.VC x.VC):=hbk;have HOK:Hid (cS p x=true):=hok;rw[hok,UE]at HV;clear hbk hok;unfold CF;go_upto_region 2 with fail
 have bn:Below w1.heap.size w1 (w1.alloc (.cells (iF pa pc p ba ca bo cb x m1 m2).toArray 139)):=bR.alloc lR _;have HBK2:Hid (dF (w1.alloc (.cells (iF pa pc p ba ca bo cb x m1 m2).toArray 139)) m1 m2 x.VC x.VC):=HBK.out.kept bn;have S2:Hid _:=S1.out.push (iF pa pc p ba ca bo cb x m1 m2) (by simp) 139;generalize hW2:w1.alloc _=W2 at *;clear hW2 S1 bn HBK;generalize w1.heap.size=Bk at *;have BW:Hid (Below w.heap.size w W2):=S2.out.b;have S3:Hid (dX W2 [(Bk,(iF pa pc p ba ca bo cb x m1 m2)),(w.heap.size,(bM pa pc p)),(w.heap.size+1,(bF ba ca bo cb x)),(w.heap.size+1+1,(eO UU UY addr port peer UV VB)),(w.heap.size+1+1+1,iG)] W2):=⟨S2.out.k,Below.refl _ _,S2.out.z⟩;clear S2;go_wp2_with fail
 refine(HTM.out _).mono ?_;rintro e W3 ⟨rfl,hw3⟩;subst hw3
 cases tm with
 | false=>
  have HX:Hid (ans=lB (1)):=by unfold Hid;rw[HV.out];rfl
  have HHz:=S3.out.at lX;obtain⟨z0,z1,z2,z3,z4,z5,z6,z7⟩:=HHz.c8;obtain⟨zf0,zf1,zf2,zf3,zf4,zf5,zf6,zf7⟩:=HHz.f8;obtain⟨HRR,RB⟩:=vD HHz (BW.out.trans (S3.out.b.mono BW.out.size)) hRw (.slice none 0 0) (.slice none 0 0) (iV 0) eS (iV 0) eS (iV 0) (iV (1));clear HHz;go_wp2_with fail
  exact UQ (aG Tryz.results60 _ _ (w.heap.size+1+1+1) [.slice none 0 0,.slice none 0 0,iV 0,eS,iV 0,eS,iV 0,iV (1)] _ rfl HRR.out Tryz.underlying104 rfl (show (Tryz.prog.info? 104).map (·.size)=some 8 by kernel_rfl)) rfl (And.intro (by rw[HX.out];exact⟨none,none,0,0,rfl,.inl rfl,.inl rfl,fun g h e1=>by simp at e1⟩) RB.out)
 | true=>
 rw[UE]at HV;obtain⟨hn0,hn1⟩:=HNN.out rfl;have HHt:=S3.out.at iR;obtain⟨t0,t1,t2,t3,t4,t5,t6⟩:=HHt.c7;clear HHt;go_wp2_with fail
 refine(HTR.out _).mono ?_;rintro e W4 ⟨rfl,q4⟩;have S4:Hid _:=S3.out.kept q4;clear q4 S3 HTM HTR HNN t0 t1 t2 t3 t4 t5 t6
 cases tr with
 | false=>
  have HX:Hid (ans=lB (1)):=by unfold Hid;rw[HV.out];rfl
  have HHz:=S4.out.at lX;obtain⟨z0,z1,z2,z3,z4,z5,z6,z7⟩:=HHz.c8;obtain⟨zf0,zf1,zf2,zf3,zf4,zf5,zf6,zf7⟩:=HHz.f8;obtain⟨HRR,RB⟩:=vD HHz (BW.out.trans (S4.out.b.mono BW.out.size)) hRw (.slice none 0 0) (.slice none 0 0) (iV 0) eS (iV 0) eS (iV 0) (iV (1));clear HHz;go_wp2_with fail
  exact UQ (aG Tryz.results60 _ _ (w.heap.size+1+1+1) [.slice none 0 0,.slice none 0 0,iV 0,eS,iV 0,eS,iV 0,iV (1)] _ rfl HRR.out Tryz.underlying104 rfl (show (Tryz.prog.info? 104).map (·.size)=some 8 by kernel_rfl)) rfl (And.intro (by rw[HX.out];exact⟨none,none,0,0,rfl,.inl rfl,.inl rfl,fun g h e1=>by simp at e1⟩) RB.out)
 | true=>
 have HV2:Hid (ans=gi):=by unfold Hid;rw[HV.out,if_pos rfl]
 clear HV;have HHk:=S4.out.at cO;obtain⟨k0,k1,k2,k3,k4,k5,k6,k7,k8,k9,k10,k11,k12,k13⟩:=HHk.c14;clear HHk;have HHt:=S4.out.at iR;obtain⟨t0,t1,t2,t3,t4,t5,t6⟩:=HHt.c7;clear HHt;go_wp2_with fail
 refine(HHO.out _ m1 m2 (by first | rfl | trivial) (HBK2.out.kept S4.out.b)).mono ?_;rintro e W5 ⟨rfl,q5⟩;have S5:Hid _:=S4.out.kept q5;clear q5 S4 HHO k0 k1 k2 k3 k4 k5 k6 k7 k8 k9 k10 k11 k12 k13 t0 t1 t2 t3 t4 t5 t6;go_upto_region 5 with fail
 have S6:Hid _:=S5.out.push (iE hv.UU hv.addr hv.port) (by simp) 86;generalize hW6:W5.alloc _=W6 at *;clear hW6 S5;generalize W5.heap.size=Be at *
 cases fd with
 | false=>
  have HX:Hid (ans=lB (6)):=by unfold Hid;rw[HV2.out];exact HG0.out (by first | rfl | trivial)
  have HHz:=S6.out.at EX;obtain⟨z0,z1,z2,z3,z4,z5,z6,z7⟩:=HHz.c8;obtain⟨zf0,zf1,zf2,zf3,zf4,zf5,zf6,zf7⟩:=HHz.f8;obtain⟨HRR,RB⟩:=vD HHz (BW.out.trans (S6.out.b.mono BW.out.size)) hRw (.slice none 0 0) (.slice none 0 0) (iV 0) eS (iV 0) eS (iV 0) (iV (6));clear HHz;go_wp2_with fail
  exact UQ (aG Tryz.results60 _ _ (w.heap.size+1+1+1) [.slice none 0 0,.slice none 0 0,iV 0,eS,iV 0,eS,iV 0,iV (6)] _ rfl HRR.out Tryz.underlying104 rfl (show (Tryz.prog.info? 104).map (·.size)=some 8 by kernel_rfl)) rfl (And.intro (by rw[HX.out];exact⟨none,none,0,0,rfl,.inl rfl,.inl rfl,fun g h e1=>by simp at e1⟩) RB.out)
 | true=>
 have HHb:=S6.out.at iR;have b1:=HHb.cell (j:=1) rfl;clear HHb;have HHt:=S6.out.at lX;obtain⟨t0,t1,t2,t3,t4,t5,t6⟩:=HHt.c7;clear HHt;have HHn:=S6.out.at cO;obtain⟨n0,n1,n2⟩:=HHn.c3;clear HHn;go_wp2_with fail
 refine(HSB.out _ (BW.out.trans (S6.out.b.mono BW.out.size))).mono ?_;rintro e W7 ⟨rfl,q7⟩;have S7:Hid _:=S6.out.kept q7;clear q7 S6 HSB HG0 b1 t0 t1 t2 t3 t4 t5 t6 n0 n1 n2
 cases hfi:x.UZ.findIdx? (fun s=>dG (dZ s) (pE hv ⟨UU,UY,addr,port,peer,UV,VB⟩)) with
 | none=>
  have hk:bG (fun s=>dG (dZ s) (pE hv ⟨UU,UY,addr,port,peer,UV,VB⟩)) x.UZ=-1:=by unfold bG;rw[hfi]
  have HX:Hid (ans=lA p x hv ⟨UU,UY,addr,port,peer,UV,VB⟩ now):=by unfold Hid;rw[HV2.out];exact HG1.out (by first | rfl | trivial) hfi
  clear HV2 HG1 HG2 hfi;rw[hk];clear hk;generalize lA p x hv ⟨UU,UY,addr,port,peer,UV,VB⟩ now=nv at *;have HHk:=S7.out.at eB;obtain⟨k0,k1,k2,k3,k4,k5,k6,k7,k8,k9,k10,k11,k12,k13⟩:=HHk.c14;clear HHk;have HHt:=S7.out.at lX;obtain⟨t0,t1,t2,t3,t4,t5,t6⟩:=HHt.c7;clear HHt;have HHn:=S7.out.at cO;obtain⟨n0,n1,n2⟩:=HHn.c3;clear HHn;have hRl:w.heap.size+1+1+1 < W7.heap.size:=(S7.out.lts _ EX).1;have hwl:w.heap.size≤W7.heap.size:=UA BW.out.size S7.out.b.size;go_wp2_with fail
  refine(HBG.out _ m1 m2 (BW.out.trans (S7.out.b.mono BW.out.size)) HOK.out (by first | rfl | trivial) (by first | rfl | trivial) (by first | rfl | trivial) (HBK2.out.kept S7.out.b)).mono ?_;rintro e W8 ⟨⟨a1,a2,c1,c2,rfl,hown⟩,q8⟩;have S8:Hid _:=S7.out.kept q8;have HHz:=S8.out.at EX;obtain⟨z0,z1,z2,z3,z4,z5,z6,z7⟩:=HHz.c8;obtain⟨zf0,zf1,zf2,zf3,zf4,zf5,zf6,zf7⟩:=HHz.f8;obtain⟨HRR,RB⟩:=vD HHz (BW.out.trans (S8.out.b.mono BW.out.size)) hRw (.slice a1 nv.bib.VC.length c1) (.slice a2 nv.bib.UZ.length c2) (iV nv.bind.UU) (.string nv.bind.inn) (iV nv.bind.UW) (.string nv.bind.out) (iV nv.bind.UX) (iV nv.code);clear HHz;have HOW:Hid (dD w.heap.size ((sW (sW (sW (sW (sW (sW (sW W8 (w.heap.size+1+1+1) 0 (.slice a1 nv.bib.VC.length c1)) (w.heap.size+1+1+1) 1 (.slice a2 nv.bib.UZ.length c2)) (w.heap.size+1+1+1) 2 (iV nv.bind.UU)) (w.heap.size+1+1+1) 3 (.string nv.bind.inn)) (w.heap.size+1+1+1) 4 (iV nv.bind.UW)) (w.heap.size+1+1+1) 5 (.string nv.bind.out)) (w.heap.size+1+1+1) 6 (iV nv.bind.UX)).setCell ⟨w.heap.size+1+1+1,7,none⟩ (iV nv.code)) a1 a2 nv.bib):=⟨(hown.bd.grown (aC (aC (aC (aC (aC (aC (aC (aC (World.grownBy.refl _ _) _) _) _) _) _) _) _) _) hRl).down hwl,(hown.ss.grown (aC (aC (aC (aC (aC (aC (aC (aC (World.grownBy.refl _ _) _) _) _) _) _) _) _) _) hRl).down hwl,hown.ne⟩;clear hown q8;unfold IP;go_wp2_with fail
  exact UQ (aG Tryz.results60 _ _ _ _ _ rfl HRR.out Tryz.underlying104 rfl (show (Tryz.prog.info? 104).map (·.size)=some 8 by kernel_rfl)) rfl (And.intro (by rw[HX.out];exact⟨a1,a2,c1,c2,rfl,HOW.out⟩) RB.out)
 | some j=>
  have hk:bG (fun s=>dG (dZ s) (pE hv ⟨UU,UY,addr,port,peer,UV,VB⟩)) x.UZ=(j:Int):=by unfold bG;rw[hfi]
  obtain⟨hlt,-⟩:=pM hfi;obtain⟨s,hs⟩: ∃s,s=x.UZ[j]:=⟨_,rfl⟩;have HW:Hid (ans=⟨⟨x.VC,x.UZ.set j { s with state:=aV UU s.state UY VB,untl:=now+bT p.lv UU (aV UU s.state UY VB) }⟩,d,0⟩):=by unfold Hid;rw[HV2.out,HG2.out j hlt (by first | rfl | trivial) hfi,hs];rfl
  rw[hk];clear hfi hk HV2 HG1 HG2 HBG;have HSJ:Hid (s=x.UZ[j]):=hs;clear hs;replace HNX:=HNX.out s.state;have HNY:Hid _:=HNX;clear HNX;generalize aV UU s.state UY VB=st at *;replace HLF:=HLF.out st;have HLG:Hid _:=HLF;clear HLF;obtain⟨hf0,hf1⟩:=jO p.lv UU st;generalize bT p.lv UU st=lf at *;have hge:¬(j:Int) < 0:=by omega
  have HHb:=S7.out.at iR;obtain⟨b0,b1⟩:=HHb.c2;clear HHb;go_wp2_with fail
  refine(HCY.out _ (BW.out.trans (S7.out.b.mono BW.out.size))).mono ?_;rintro e W8 ⟨⟨bv,sv,rfl,o1,o2⟩,q8⟩;have S8:Hid _:=S7.out.kept q8;have HO:Hid _:=fH.make (ks:=[(Be,(iE hv.UU hv.addr hv.port)),(Bk,(iF pa pc p ba ca bo cb x m1 m2)),(w.heap.size,(bM pa pc p)),(w.heap.size+1,(bF ba ca bo cb x)),(w.heap.size+1+1,(eO UU UY addr port peer UV VB)),(w.heap.size+1+1+1,iG)]) (x:=x) S7.out.b.size S8.out.b o1 o2 S8.out.k S7.out.lts q8.size;obtain⟨ab,cb1,hbv,-,-⟩:=(xB.shape eC (w0:=W8) ⟨o1,Below.refl _ _⟩: ∃a' cap,bv=.slice a' x.VC.length cap∧x.VC.length≤cap∧eY eG 5 W7.heap.size W8 a' x.VC);obtain⟨gs,cs1,hsv⟩: ∃gs cs1,sv=.slice (some ⟨gs,0,none⟩) x.UZ.length cs1:=by
   rcases o2.2 with ⟨_,h0⟩|⟨g,cap,cur,h3,_⟩
   ·omega
   ·exact⟨g,cap,h3⟩
  subst hbv hsv;clear q8 o1 o2 S8 S7 b0 b1 hge HCY;go_upto_region 11 with fail
  generalize (W8.alloc (.cells #[(.slice ab x.VC.length cb1),(.slice (some ⟨gs,0,none⟩) x.UZ.length cs1)] 31))=V1 at *;generalize W8.heap.size=O at *;generalize W7.heap.size=base at *;have HV1:Hid (fH W3 base O [(Be,(iE hv.UU hv.addr hv.port)),(Bk,(iF pa pc p ba ca bo cb x m1 m2)),(w.heap.size,(bM pa pc p)),(w.heap.size+1,(bF ba ca bo cb x)),(w.heap.size+1+1,(eO UU UY addr port peer UV VB)),(w.heap.size+1+1+1,iG)] (.slice ab x.VC.length cb1) (.slice (some ⟨gs,0,none⟩) x.UZ.length cs1) x.VC (x.UZ) V1):=HO.out;clear HO;have hltI:(j:Int) < (x.UZ.length:Int):=by omega
  have HCP:Hid (∀wy,Below V1.drew.heap.size V1.drew wy→_):=fun wy hy=>HV1.out.kept (bR.drew.trans hy)
  go_cut [15] (fun v wx=>v=iV st∧fH W3 base O [(Be,(iE hv.UU hv.addr hv.port)),(Bk,(iF pa pc p ba ca bo cb x m1 m2)),(w.heap.size,(bM pa pc p)),(w.heap.size+1,(bF ba ca bo cb x)),(w.heap.size+1+1,(eO UU UY addr port peer UV VB)),(w.heap.size+1+1+1,iG)] (.slice ab x.VC.length cb1) (.slice (some ⟨gs,0,none⟩) x.UZ.length cs1) x.VC (x.UZ) wx)
  case first=>
   rename_i J K2 hJ hK2;clear hun;refine bH [62,63,64,65,66,67,68,69,70,71,72,73,74,15] (by kernel_rfl) (by kernel_rfl) ?_;iterate 14 (apply cW.u rfl;(·intro K' a wy ho hd hb hK;simp[aS,aF,aD,Region.binds]at ho hd;have hst:=HCP.out wy hb;have k1:=hst.o.cell (j:=1) rfl;have r5:wy.cell? ⟨gs,j*7+5,none⟩=some (iV s.state):=fF hst.so rfl j hlt 5 _ (by rw[←HSJ.out];rfl);have kC:=(hst.at lX).c7;clear hst;go_simp;first|((try go_bits);exact hK _ _ rfl bQ)|(refine(HNY.out wy (BW.out.trans ((HCP.out wy hb).b.mono BW.out.size))).mono ?_;rintro e wz ⟨rfl,hz⟩;exact hK _ _ rfl hz));dsimp only[nA,cA])
   intro X wz hR hz;simp only[UB,UC,eW,aF]at hR;simp only[aE,hR];clear hR;go_simp;refine hK2 _ _ (hJ _ _ ?_);(repeat apply Exists.intro)
   refine⟨⟨rfl,HCP.out wz hz⟩,rfl⟩
  case rest=>
  obtain⟨rfl,hS⟩:=hcut;have V2:Hid _:=hS;clear hS HV1 HCP HNY;generalize wc=U2 at *;have k1:=V2.out.o.cell (j:=1) rfl;have r5:U2.cell? ⟨gs,j*7+5,none⟩=some (iV s.state):=fF V2.out.so rfl j hlt 5 _ (by rw[←HSJ.out];rfl);have f5:U2.frozen? ⟨gs,j*7+5,none⟩=false:=mS V2.out.so _;have V3:Hid _:=V2.out.setS rfl j hlt 5 (by decide) (iV st) { s with state:=st } (by rw[←HSJ.out];rfl);clear V2;go_upto_region 13 with fail
  clear k1 r5 f5;generalize U2.setCell ⟨gs,j*7+5,none⟩ (iV st)=U3 at *;have V4:Hid (fH W3 base O [(Be,(iE hv.UU hv.addr hv.port)),(Bk,(iF pa pc p ba ca bo cb x m1 m2)),(w.heap.size,(bM pa pc p)),(w.heap.size+1,(bF ba ca bo cb x)),(w.heap.size+1+1,(eO UU UY addr port peer UV VB)),(w.heap.size+1+1+1,iG)] (.slice ab x.VC.length cb1) (.slice (some ⟨gs,0,none⟩) x.UZ.length cs1) x.VC (x.UZ.set j { s with state:=st }) U3):=V3.out;clear V3;have HCP:Hid (∀wy,Below U3.drew.heap.size U3.drew wy→_):=fun wy hy=>V4.out.kept (bR.drew.trans hy)
  clear V4;go_cut [14] (fun v wx=>v=.pointer (some ⟨O,0,none⟩)∧fH W3 base O [(Be,(iE hv.UU hv.addr hv.port)),(Bk,(iF pa pc p ba ca bo cb x m1 m2)),(w.heap.size,(bM pa pc p)),(w.heap.size+1,(bF ba ca bo cb x)),(w.heap.size+1+1,(eO UU UY addr port peer UV VB)),(w.heap.size+1+1+1,iG)] (.slice ab x.VC.length cb1) (.slice (some ⟨gs,0,none⟩) x.UZ.length cs1) x.VC (x.UZ.set j { s with state:=st,untl:=now+lf }) wx)
  case first=>
   rename_i J K2 hJ hK2;try clear hun
   refine aN [81,82,83,84,85,86,87,88,89,90,91,92,93] (by kernel_rfl) (by kernel_rfl) ?_;iterate 13 (apply bC.u rfl;(·intro K' a wy ho hd hb hK;simp[aS,aF,aD,Region.binds]at ho hd;have hst:=HCP.out wy hb;have k1:=hst.o.cell (j:=1) rfl;have HHt:=hst.at lX;have t0:=HHt.cell (j:=0) rfl;clear HHt;have kC:=(hst.at eX).c10;clear hst;go_simp;first|((try go_bits);exact hK _ _ rfl bQ)|(refine(HLG.out wy).mono ?_;rintro e wz ⟨rfl,hz⟩;exact hK _ _ rfl hz));dsimp only[nA,cA])
   intro X wz hR hz;simp only[UB,UC,eW,aF]at hR;simp only[aE,hR];clear hR;have SZ:=HCP.out wz hz;have hls:x.UZ.length=(x.UZ.set j { s with state:=st }).length:=by simp
   have r6:wz.cell? ⟨gs,j*7+6,none⟩=some (iV s.untl):=fF SZ.so hls j (by simpa using hlt) 6 _ (by simp[fY]);have f6:wz.frozen? ⟨gs,j*7+6,none⟩=false:=mS SZ.so _;have S8:=SZ.setS hls j (by simpa using hlt) 6 (by decide) (iV (now+lf)) { s with state:=st,untl:=now+lf } (by simp[fY]);rw[List.set_set]at S8;have S9:Hid _:=S8;clear S8 SZ hz HCP hls;simp only[List.length_cons,List.length_nil,List.drop_succ_cons,List.drop_zero,TX,Nat.reduceAdd];intro K5 hK5;go_simp;refine hK5 _ _ ?_;show Exit.then _ _ _ _ _;refine hK2 _ _ (hJ _ _ ?_);(repeat apply Exists.intro)
   exact⟨⟨rfl,S9.out⟩,rfl⟩
  case rest=>
  obtain⟨rfl,hS⟩:=hcut;have V5:Hid _:=hS;clear hS HCP HLG;generalize wc=U5 at *;go_upto_region 14 with fail
  have HCP:Hid (∀wy,Below U5.drew.heap.size U5.drew wy→_):=fun wy hy=>V5.out.kept (bR.drew.trans hy)
  clear V5;try clear hun
  refine aN [94,95,96,97,98,99,100] (by kernel_rfl) (by kernel_rfl) ?_;iterate 4 (apply bC.u rfl;(·intro K' a wy ho hd hb hK;simp[aS,aF,aD,Region.binds]at ho hd;have hst:=HCP.out wy hb;have kC:=hst.o.c2;have HHk:=hst.at eB;have k12:=HHk.cell (j:=12) rfl;clear HHk;have kC:=(hst.at cO).c3;clear hst;go_simp;(try go_bits);exact hK _ _ rfl bQ);dsimp only[nA,cA])
  apply bC.v4
  ·rfl
  ·intro K' a wy ho hd hb hK kz;have q2:=hd ⟨2,.data⟩ (by simp) rfl;have q3:=hd ⟨3,.data⟩ (by simp) rfl;simp[aS,aF,aD]at q2 q3;clear hd ho;refine nH _ (.tmp 96) (.tmp 97) false rfl (by simp[Act.eval,aD,q2]) (by simp[Act.eval,aD,q3]) (HGT.out wy m1 m2 HOK.out (by first | rfl | trivial) (by first | rfl | trivial) (HBK2.out.kept (HCP.out wy hb).b)) (hK _ _ rfl bR)
  iterate 2 (apply bC.u rfl;(·intro K' a wy ho hd hb hK;simp[aS,aF,aD,Region.binds]at ho hd;go_simp;first|((try go_bits);exact hK _ _ rfl bQ)|(refine(HCB.out wy).mono ?_;rintro e wz ⟨rfl,hz⟩;exact hK _ _ rfl hz));dsimp only[nA,cA])
  intro X wz hR hz;simp only[UB,UC,eW,aF]at hR;simp only[aE,hR];clear hR;have V7:Hid (fH W3 base O [(Be,(iE hv.UU hv.addr hv.port)),(Bk,(iF pa pc p ba ca bo cb x m1 m2)),(w.heap.size,(bM pa pc p)),(w.heap.size+1,(bF ba ca bo cb x)),(w.heap.size+1+1,(eO UU UY addr port peer UV VB)),(w.heap.size+1+1+1,iG)] (.slice ab x.VC.length cb1) (.slice (some ⟨gs,0,none⟩) x.UZ.length cs1) x.VC (x.UZ.set j { s with state:=st,untl:=now+lf }) wz):=HCP.out wz hz;clear hz HCP;have HHz:=V7.out.at EX;obtain⟨z0,z1,z2,z3,z4,z5,z6,z7⟩:=HHz.c8;obtain⟨zf0,zf1,zf2,zf3,zf4,zf5,zf6,zf7⟩:=HHz.f8;obtain⟨HRR,RB⟩:=vD HHz (BW.out.trans (V7.out.b.mono BW.out.size)) hRw (.slice ab x.VC.length cb1) (.slice (some ⟨gs,0,none⟩) x.UZ.length cs1) (iV d.UU) (.string d.inn) (iV d.UW) (.string d.out) (iV d.UX) (iV 0);clear HHz;obtain⟨w1,q1,hb1,-,hbo⟩:=V7.out.shapes.1;obtain⟨w2,q2,hb2,-,hso⟩:=V7.out.shapes.2;injection hb1 with i1 i2 i3
  injection hb2 with i4 i5 i6
  have hRb:w.heap.size+1+1+1 < base:=(V7.out.kb _ EX).1;have hwb:w.heap.size≤base:=UA BW.out.size V7.out.wb;have HOW:Hid (dD w.heap.size ((sW (sW (sW (sW (sW (sW (sW wz (w.heap.size+1+1+1) 0 (.slice ab x.VC.length cb1)) (w.heap.size+1+1+1) 1 (.slice (some ⟨gs,0,none⟩) x.UZ.length cs1)) (w.heap.size+1+1+1) 2 (iV d.UU)) (w.heap.size+1+1+1) 3 (.string d.inn)) (w.heap.size+1+1+1) 4 (iV d.UW)) (w.heap.size+1+1+1) 5 (.string d.out)) (w.heap.size+1+1+1) 6 (iV d.UX)).setCell ⟨w.heap.size+1+1+1,7,none⟩ (iV 0)) w1 w2 ⟨x.VC,x.UZ.set j { s with state:=st,untl:=now+lf }⟩):=⟨(hbo.grown (aC (aC (aC (aC (aC (aC (aC (aC (World.grownBy.refl _ _) _) _) _) _) _) _) _) _) hRb).down hwb,(hso.grown (aC (aC (aC (aC (aC (aC (aC (aC (World.grownBy.refl _ _) _) _) _) _) _) _) _) _) hRb).down hwb,fun g h e1 e2 _ _ e3=>V7.out.ne g (by rw[i1,e1];rfl) (by rw[i4,e2,←e3];rfl)⟩;have I1:Hid _:=i1;have I3:Hid _:=i3;have I4:Hid _:=i4;have I5:Hid _:=i5;have I6:Hid _:=i6;clear hbo hso V7 i1 i2 i3 i4 i5 i6;intro K10 hK10;go_simp;refine hK10 _ _ ?_;simp only[fO];go_wp2_with fail
  exact UQ (aG Tryz.results60 _ _ _ _ _ rfl HRR.out Tryz.underlying104 rfl (show (Tryz.prog.info? 104).map (·.size)=some 8 by kernel_rfl)) rfl (And.intro (by rw[HW.out];exact⟨w1,w2,q1,q2,by first | (rw[I1.out,I3.out,I4.out,I5.out,I6.out];rfl) | (rw[I1.out,I3.out,I4.out,I6.out];simp[IP]),HOW.out⟩) RB.out)
def GK(p:Nat→Bool):Nat→Nat
 | 0=>0
 | n+1=>GK p n+if p n then 2 ^ n else 0
def CI(p:Nat→Bool):Nat→Nat
 | 0=>0
 | n+1=>CI p n+if p n then 1 else 0
def zK(m:Nat):Nat→Nat
 | 0=>0
 | b+1=>zK m b+m / 2 ^ b % 2
def QQ{α:Type}(p:Nat→Bool)(f:Nat→α):Nat→List α
 | 0=>[]
 | n+1=>QQ p f n++if p n then [f n] else []
def PG(kid:Nat→Bool)(val:Nat→Int):Nat→Int
 | 0=>-1
 | j+1=>if kid j then PG kid val j else val j
def AG(kid:Nat→Bool)(val:Nat→Int)(j:Nat):Bool:=!kid j&&val j != PG kid val j
structure Nd where
 kids:Nat
 leaf:Nat
 base:Nat
 leafs:Nat
structure Tb where
 rows:List (Nat × Nat)
 nodes:List Nd
 leaves:List Int
section
variable (kid:Nat × Nat→Nat→Bool) (val:Nat × Nat→Nat→Int)
def QO(r:Nat × Nat)(r0 l0:Nat):Nd :=
 ⟨GK (kid r) 16,GK (AG (kid r) (val r)) 16,if CI (kid r) 16=0 then 0 else r0,if CI (AG (kid r) (val r)) 16=0 then 0 else l0⟩
def QL(r:Nat × Nat)(k:Nat):Nat × Nat:=(r.1+1,16*r.2+k)
structure QB(t:Tb)(i:Nat):Prop where
 ex:∃r r0 l0 rr ll,t.rows[i]?=some r∧t.nodes[i]?=some (QO kid val r r0 l0)∧i < r0∧t.rows=rr∧t.leaves=ll ∧
  (∀j x,(QQ (kid r) (QL r) 16)[j]?=some x→t.rows[r0+j]?=some x)∧(∀j x,(QQ (AG (kid r) (val r)) (val r) 16)[j]?=some x→t.leaves[l0+j]?=some x) ∧
  r0+CI (kid r) 16≤t.rows.length∧l0+CI (AG (kid r) (val r)) 16≤t.leaves.length
structure TJ(t:Tb):Prop where
 nodes:∀i,i < t.nodes.length→QB kid val t i
 le:t.nodes.length≤t.rows.length
 root:t.rows[0]?=some (0,0)
 leaves:∀x∈t.leaves,∃r k,x=val r k
end
def TL(a b:Nat × Nat):Prop:=a.1 < b.1∨(a.1=b.1∧a.2 < b.2)
section
variable (kid:Nat × Nat→Nat→Bool) (val:Nat × Nat→Nat→Int)
structure SH(S:List (Nat × Nat))(t:Tb):Prop where
 sorted:t.rows.Pairwise TL
 next:∀r,t.rows[t.nodes.length]?=some r→∀x∈t.rows,x.1≤r.1+1∧(x.1=r.1+1→x.2 < 16*r.2)
 sub:∀x∈t.rows,x=(0,0)∨x∈S
structure RV(n leaves i:Nat)(x:Nd):Prop where
 kids:x.kids < 65536
 leaf:x.leaf < 65536
 apart:∀k,¬(x.kids / 2 ^ k % 2=1∧x.leaf / 2 ^ k % 2=1)
 base:x.kids≠0→i < x.base∧x.base+zK x.kids 16≤n
 base0:x.kids=0→x.base=0
 leafs:x.leaf≠0→x.leafs+zK x.leaf 16≤leaves
 leafs0:x.leaf=0→x.leafs=0
 first:∀k,k < 16→(∀j,j < k→x.kids / 2 ^ j % 2=1)→x.kids / 2 ^ k % 2=0→x.leaf / 2 ^ k % 2=1
end
structure Rt where
 addr:BA
 bits:Int
 hop:Int
section
variable (n:Nat) (l:List Rt)
end
structure TA(w:World)(b off:Nat)(rs:List Rt):Prop where
 c0:∀i (h:i < rs.length),w.cell? ⟨b,off+i*3,none⟩=some (.string rs[i].addr)
 c1:∀i (h:i < rs.length),w.cell? ⟨b,off+i*3+1,none⟩=some (iV rs[i].bits)
 c2:∀i (h:i < rs.length),w.cell? ⟨b,off+i*3+2,none⟩=some (iV rs[i].hop)
section
variable (n:Nat)
end
section
variable {w W:World} {B o:Nat} {xs ys:List Value}
end
section
variable {w W:World} {n E:Nat} {mv:Value} {ms:List Rt}
end
structure TN(w:World)(m X:Nat)(cs zs:List Value)(mv:Value)(wx:World):Prop where
 x:aA wx X cs
 z:aA wx (w.heap.size+1) zs
 c:wx.cell? ⟨w.heap.size,m,none⟩=some mv
 b:Below w.heap.size w wx
 le:w.heap.size+1+1≤X
section
variable {w wx wy:World} {m X:Nat} {cs zs:List Value} {mv:Value}
end
theorem uS{P:Program}{Q:Exit→Act→World→Prop}{op:Oper}{a:Act}{w:World}(ty:TypeId)(x y:Operand)(ho:op.op=.store ty x y)(b o:Nat)(cells:Array Value)(hx:a.eval x=.pointer (some ⟨b,o,none⟩))(hy:a.eval y=.agg cells)
  (ht:w.there b o cells.size) (hi:(P.info? ty).map (·.size)=some cells.size) (h1:cells.all (·.oneCell')=true) (h:Q .normal (a.put op.dst undef) (w.setCells b o cells.toList)):fO P Q [op] a w :=
 fun K' hK=>wp_store_mid ty x y ho b o cells hx hy ht hi h1 (hK _ _ h)
end Go.Proofs.YtdkepkaflielhaaGreatDoor
