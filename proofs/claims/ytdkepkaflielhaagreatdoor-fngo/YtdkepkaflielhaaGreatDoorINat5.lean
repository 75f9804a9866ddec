import Derived.Test.YtdkepkaflielhaaGreatDoorMerged31
set_option linter.unusedVariables false
set_option linter.unusedSimpArgs false
set_option maxRecDepth 100000
set_option maxHeartbeats 8000000
namespace Go.Proofs.YtdkepkaflielhaaGreatDoor
open Go.RowKit Go.PlainAid
structure PD(p:Pl)(x:Bb)(q:P4)(now:Int)(ans:No)(ft cd:Int)(ld:Bool)(fl:Fl)(nv:Bo)(gg:Fl):Prop where
 a1:ft≠0→ans=gW ft
 a2:ft=0→ld=false→ans=gW 6
 a3:ft=0→ld=true→cd≠0→ans=gW cd
 tc:ft=0→cd=0→q.UU=6→20≤q.data.size
 sz:ft=0→q.data.size≤20000
 tb:ft=0→cd=0→dB p x ⟨fl.UU,true,fl.src,fl.sp,fl.dst,eM fl.UU fl.dp,fN q.UU q.data⟩ now=nv
 fs:ft=0→cd=0→fl.src.size=4∧fl.dst.size=4
 a4:ft=0→ld=true→cd=0→nv.code≠0→ans=gW nv.code
 a5:ft=0→ld=true→cd=0→nv.code=0→nv.bind.inn.size≠4→ans=gW 11
 ns:ft=0→cd=0→nv.code=0→nv.bind.inn.size≤16
 gs:ft=0→cd=0→nv.code=0→nv.bind.inn.size=4→gg.src.size=4∧gg.dst.size=4
 a6:ft=0→ld=true→cd=0→nv.code=0→nv.bind.inn.size=4→ans=⟨nv.bib,{ q with src:=gg.src,dst:=gg.dst,data:=cR fl gg q.data },gZ,0⟩
theorem MT(p:Pl)(x:Bb)(q:P4)(now:Int):∃nv gg,PD p x q now (cX p x q now) (dP p x q now) (aX q.src q.dst q.UU q.data) true (bK q.src q.dst q.UU q.data) nv gg∧gg=⟨(bK q.src q.dst q.UU q.data).UU,nv.bind.out,(bK q.src q.dst q.UU q.data).dst,nv.bind.UX,if aJ (bK q.src q.dst q.UU q.data).UU=true then nv.bind.UX else (bK q.src q.dst q.UU q.data).dp⟩:=by
 obtain⟨nv,hnv⟩: ∃nv,nv=gF p x (kV (aR q.src q.dst q.UU q.data) q.dst q.data) now:=⟨_,rfl⟩;refine⟨nv,_,?_,rfl⟩;have hv:dP p x q now=0→cX p x q now=dS p x q now:=fun h=>by unfold cX;rw[if_neg (by simp[h])]
 have hft:dP p x q now=0→iX q=true:=fun h=>(mI h).2.1
 have hcd:dP p x q now=0→aX q.src q.dst q.UU q.data=aU q.src.size q.UU q.data:=fun h=>(qM (hft h)).1
 have hfl:dP p x q now=0→aX q.src q.dst q.UU q.data=0→bK q.src q.dst q.UU q.data=aR q.src q.dst q.UU q.data:=fun h h2=>(qM (hft h)).2 (by rw[←hcd h];exact h2)
 have hpass:=fun (h:dP p x q now=0) (h2:aX q.src q.dst q.UU q.data=0)=>MU (p:=p) (x:=x) (q:=q) (now:=now) h (by rw[←hcd h];exact h2) (bK q.src q.dst q.UU q.data) (hfl h h2) nv (by rw[hfl h h2];exact hnv)
 refine⟨fun h=>?_,fun h hl=>?_,fun h hl c=>?_,fun h c hp=>?_,fun h=>?_,fun h c=>(hpass h c).1,fun h c=>⟨(hpass h c).2.1,(hpass h c).2.2.1⟩,fun h hl c n=>?_,fun h hl c n i=>?_,fun h c n=>?_,fun h c n i=>?_,fun h hl c n i=>?_⟩
 ·unfold cX;rw[if_pos h]
 ·cases hl
 ·rw[hv h];unfold dS;rw[if_pos (by rw[←hcd h];exact c),hcd h]
 ·have c2:aU q.src.size q.UU q.data=0:=by rw[←hcd h];exact c
  rw[hp]at c2;exact EN c2
 ·have:=(jZ (hft h)).2.2.2;omega
 ·rw[hv h];unfold dS;rw[if_neg (by rw[←hcd h];simp[c]),←hnv,if_pos n]
 ·exact absurd ((hpass h c).2.2.2 n).1 i
 ·have:=((hpass h c).2.2.2 n).1;omega
 ·obtain⟨-,e2,G,hG,-,-,e4,e5⟩:=(hpass h c).2.2.2 n;rw[hG,e4,e5];exact⟨e2,(jZ (hft h)).2.1⟩
 ·obtain⟨-,-,G,hG,hG2,hS,e4,e5⟩:=(hpass h c).2.2.2 n;rw[hv h,hG,hS,e4,e5];unfold dS;rw[if_neg (by rw[←hcd h];simp[c]),←hnv,if_neg (by simp[n]),hG2,hfl h c]
theorem AM(pa:OA)(pc:Nat)(p:Pl)(ba bo:OA)(ca cb:Nat)(x:Bb)(q:P4)(now:Int)(w:World)(hT:sA w)(hlp:p.VA.length≤1048576)(hpc:p.VA.length≤pc)(hsz:∀s∈p.VA,s.size≤1048576)(hl1:x.VC.length≤1048576)(hl2:x.UZ.length≤1048576)(hgb:∀q∈x.VC,fJ q)(hgs:∀s∈x.UZ,iM s)(q1:q.src.size≤1048576)(q2:q.dst.size≤1048576)(q3:q.opts.size≤1048576)(q4:q.data.size≤1048576)(hp:bP bX 1 w pa p.VA)(hx:dI w ba bo x) :
  Calls Tryz.prog 27 #[.iface 65 (.agg #[]),jQ pa pc p,iQ ba bo ca cb x,mD q,iV now] w fun e w'=>mY w.heap.size (cX p x q now) e w'∧Below w.heap.size w w':=by
 obtain⟨nv,gg,HPS,hgg⟩:=MT p x q now;have CFT:Hid (∀W,Below w.heap.size w W→Cb 52 #[jQ pa pc p,iQ ba bo ca cb x,mD q,iV now] W (iV (dP p x q now))):=fun W hW=>yF pa pc p ba bo ca cb x q now W hlp hpc hsz hl1 hl2 hgb hgs q1 q2 q3 q4 (hp.below hW) (hx.below hW)
 have CLD:Hid (∀W,Below w.heap.size w W→Cb 57 #[.iface 65 (.agg #[]),.string q.dst] W (.bool true)):=fun W hW=>GH q.dst W
 have CFO:Hid (∀W,Cb 58 #[.string q.src,.string q.dst,iV q.UU,.string q.data] W (mX (bK q.src q.dst q.UU q.data) (aX q.src q.dst q.UU q.data))):=fun W=>mP _ _ _ _ W q1 q2 q4
 generalize bK q.src q.dst q.UU q.data=fl at *;generalize aX q.src q.dst q.UU q.data=cd at *;generalize dP p x q now=ft at *;generalize cX p x q now=ans at *;have CTO:Hid (∀W,Cb 202 #[.agg #[],gQ fl] W (qF ⟨fl.UU,true,fl.src,fl.sp,fl.dst,eM fl.UU fl.dp,0⟩)):=fun W=>AE fl W
 have CFL:Hid (ft=0→cd=0→∀W,Cb 59 #[iV q.UU,.string q.data] W (iV (fN q.UU q.data))):=fun h c W=>uB _ _ W (HPS.sz h) (HPS.tc h c)
 have CBT:Hid (ft=0→cd=0→∀W,Below w.heap.size w W→Calls Tryz.prog 60 #[jQ pa pc p,iQ ba bo ca cb x,qF ⟨fl.UU,true,fl.src,fl.sp,fl.dst,eM fl.UU fl.dp,(fN q.UU q.data)⟩,iV now] W fun e w'=>mK W.heap.size nv e w'∧Below W.heap.size W w'):=fun h c W hW=>by
  have:=nS pa pc p ba bo ca cb x ⟨fl.UU,true,fl.src,fl.sp,fl.dst,eM fl.UU fl.dp,(fN q.UU q.data)⟩ now W (hT.below hW) (by dsimp only;have:=HPS.fs h c;omega) (by dsimp only;have:=HPS.fs h c;omega) hlp hpc hsz hl1 hl2 hgb hgs (hp.below hW) (hx.below hW);rw[HPS.tb h c]at this;exact this
 have CTU:Hid (∀W,Cb 203 #[.agg #[],gQ fl,jI nv.bind] W (gQ gg)):=fun W=>by rw[hgg];exact DE fl nv.bind W
 have CAS:Hid (ft=0→cd=0→nv.code=0→nv.bind.inn.size=4→∀W,Cb 61 #[mD q,gQ fl,gQ gg] W (mD { q with src:=gg.src,dst:=gg.dst,data:=cR fl gg q.data })):=fun h c n i W=>by
  have hf:=HPS.fs h c;have hg:=HPS.gs h c n i;exact vI q fl gg _ _ W q1 q2 q3 q4 (fun W=>nT fl gg q.data W (by omega) (by omega) (by omega) (by omega) q4 (by omega))
 have HPS:Hid (PD p x q now ans ft cd true fl nv gg):=HPS;clear hgg hT hlp hpc hsz hl1 hl2 hgb hgs hp hx q1 q2 q3
 have hmtouch : ∀ W, (method 319 65 (.agg #[]) "loop.example/g00314/impl.touch").run Tryz.prog W = .ok (202, .agg #[]) W := fun W => by kernel_rfl
 have hmturn : ∀ W, (method 319 65 (.agg #[]) "loop.example/g00314/impl.turn").run Tryz.prog W = .ok (203, .agg #[]) W := fun W => by kernel_rfl
 unfold jQ iQ mD gQ mX qF jI at *;dsimp only at *;generalize eM fl.UU fl.dp=pe at *;generalize hsd:cR fl gg q.data=sd at *;have HSD:Hid (cR fl gg q.data=sd):=hsd;clear hsd;generalize fN q.UU q.data=fg at *;have e0:aA ((aW (aW (aW w (bM pa pc p) 27) (bF ba ca bo cb x) 31) (dY q) 33).alloc (.cells cM.toArray 39)) (w.heap.size) (bM pa pc p):=by
  have h:=aA.new w (bM pa pc p) 27;try simp only[TQ]at h
  exact(((h.alloc _).alloc _).alloc _)
 have e1:aA ((aW (aW (aW w (bM pa pc p) 27) (bF ba ca bo cb x) 31) (dY q) 33).alloc (.cells cM.toArray 39)) (w.heap.size+1) (bF ba ca bo cb x):=by
  have h:=aA.new (w.alloc (.cells (bM pa pc p).toArray 27)) (bF ba ca bo cb x) 31;try simp only[TQ]at h
  exact((h.alloc _).alloc _)
 have e2:aA ((aW (aW (aW w (bM pa pc p) 27) (bF ba ca bo cb x) 31) (dY q) 33).alloc (.cells cM.toArray 39)) (w.heap.size+1+1) (dY q):=by
  have h:=aA.new ((aW w (bM pa pc p) 27).alloc (.cells (bF ba ca bo cb x).toArray 31)) (dY q) 33;try simp only[TQ]at h
  exact(h.alloc _)
 have e3:aA ((aW (aW (aW w (bM pa pc p) 27) (bF ba ca bo cb x) 31) (dY q) 33).alloc (.cells cM.toArray 39)) (w.heap.size+1+1+1) cM:=by
  have h:=aA.new ((aW (aW w (bM pa pc p) 27) (bF ba ca bo cb x) 31).alloc (.cells (dY q).toArray 33)) cM 39;try simp only[TQ]at h
  exact h
 have HS0:Hid (dX w [(w.heap.size,(bM pa pc p)),(w.heap.size+1,(bF ba ca bo cb x)),(w.heap.size+1+1,(dY q)),(w.heap.size+1+1+1,cM)] ((aW (aW (aW w (bM pa pc p) 27) (bF ba ca bo cb x) 31) (dY q) 33).alloc (.cells cM.toArray 39))):=by
  refine⟨fun e he=>?_,((((bR.alloc (by (try simp only[TQ]);omega) _).alloc (by (try simp only[TQ]);omega) _).alloc (by (try simp only[TQ]);omega) _).alloc (by (try simp only[TQ]);omega) _),fun e he=>?_⟩
  ·simp only[TW,TV,or_false]at he;rcases he with rfl|rfl|rfl|rfl
   ·exact e0
   ·exact e1
   ·exact e2
   ·exact e3
  ·simp only[TW,TV,or_false]at he;rcases he with rfl|rfl|rfl|rfl<;>simp
 clear e0 e1 e2 e3;have hRw:w.heap.size≤w.heap.size+1+1+1:=by omega
 go_enter Tryz.func27,Tryz.ntmps27
 go_upto_region 1 with fail
 generalize World.alloc _ _=W0 at *;have HHk:=HS0.out.at cO;obtain⟨k0,k1,k2,k3,k4,k5,k6,k7,k8,k9⟩:=HHk.c10;clear HHk;have HHl:=HS0.out.at eB;obtain⟨l0,l1⟩:=HHl.c2;clear HHl;have HHm:=HS0.out.at eX;obtain⟨m0,m1,m2,m3,m4,m5,m6,m7,m8,m9,m10⟩:=HHm.c11;clear HHm;go_wp2_with fail
 refine(CFT.out W0 HS0.out.b).mono ?_;rintro e W1 ⟨rfl,r1⟩;have S1:Hid _:=HS0.out.kept r1;clear r1 HS0 CFT k0 k1 k2 k3 k4 k5 k6 k7 k8 k9 l0 l1 m0 m1 m2 m3 m4 m5 m6 m7 m8 m9 m10;by_cases hft:ft=0
 case neg=>
  have d0:(ft != 0)=true:=by simp[hft]
  have HX:Hid (ans=gW (ft)):=HPS.out.a1 hft;obtain⟨HTH,HRR,RB⟩:=pF (show aA W1 (w.heap.size+1+1+1) (fW none none 0 0 (gW 0)) from S1.out.k _ iR) S1.out.b hRw none none 0 0 (gW (ft));go_wp2_with (refine wpList_store_mid (by rfl) 39 (.tmp 10) (.tmp 24) (by rfl) _ _ _ (by rfl) (by rfl) HTH.out bZ (fG _ _ _ _ _) ?_)
  exact UQ (aG Tryz.results27 _ _ _ _ _ rfl HRR.out Tryz.underlying39 rfl bZ) rfl (And.intro (by rw[HX.out];exact gM _) RB.out)
 have d0:(ft != 0)=false:=by simp[hft]
 go_upto_region 4 with fail
 clear d0;have HHm:=S1.out.at eX;obtain⟨m0,m1,m2,m3,m4,m5,m6,m7,m8,m9,m10⟩:=HHm.c11;clear HHm;go_wp2_with fail
 refine(CLD.out W1 S1.out.b).mono ?_;rintro e W2 ⟨rfl,r1⟩;have S2:Hid _:=S1.out.kept r1;clear r1 S1 CLD m0 m1 m2 m3 m4 m5 m6 m7 m8 m9 m10;go_upto_region 6 with fail
 have HHm:=S2.out.at eX;obtain⟨m0,m1,m2,m3,m4,m5,m6,m7,m8,m9,m10⟩:=HHm.c11;clear HHm;go_wp2_with fail
 refine(CFO.out W2).mono ?_;rintro e W3 ⟨rfl,r1⟩;have S4:Hid (dX w ((W3.heap.size,[iV fl.UU,.string fl.src,.string fl.dst,iV fl.sp,iV fl.dp,iV cd])::[(w.heap.size,(bM pa pc p)),(w.heap.size+1,(bF ba ca bo cb x)),(w.heap.size+1+1,(dY q)),(w.heap.size+1+1+1,cM)]) (W3.alloc (.cells #[iV fl.UU,.string fl.src,.string fl.dst,iV fl.sp,iV fl.dp,iV cd] 45))):=(S2.out.kept r1).push [iV fl.UU,.string fl.src,.string fl.dst,iV fl.sp,iV fl.dp,iV cd] (by simp) _;have hFb:w.heap.size+1+1+1 < W3.heap.size:=((S2.out.kept r1).k _ iR).lt (by simp);clear r1 S2 CFO m0 m1 m2 m3 m4 m5 m6 m7 m8 m9 m10;go_upto_region 7 with fail
 generalize (W3.alloc (.cells #[iV fl.UU,.string fl.src,.string fl.dst,iV fl.sp,iV fl.dp,iV cd] 45))=W4 at *;generalize W3.heap.size=Fb at *;have HHk:=S4.out.at cO;obtain⟨k0,k1,k2,k3,k4,k5⟩:=HHk.c6;clear HHk;by_cases hcd:cd=0
 case neg=>
  have d0:(cd != 0)=true:=by simp[hcd]
  have HX:Hid (ans=gW (cd)):=HPS.out.a3 hft rfl hcd;obtain⟨HTH,HRR,RB⟩:=pF (show aA W4 (w.heap.size+1+1+1) (fW none none 0 0 (gW 0)) from S4.out.k _ lX) S4.out.b hRw none none 0 0 (gW (cd));go_wp2_with (refine wpList_store_mid (by rfl) 39 (.tmp 10) (.tmp 45) (by rfl) _ _ _ (by rfl) (by rfl) HTH.out bZ (fG _ _ _ _ _) ?_)
  exact UQ (aG Tryz.results27 _ _ _ _ _ rfl HRR.out Tryz.underlying39 rfl bZ) rfl (And.intro (by rw[HX.out];exact gM _) RB.out)
 have d0:(cd != 0)=false:=by simp[hcd]
 replace CFL:Hid _:=CFL.out hft hcd;replace CBT:Hid _:=CBT.out hft hcd;replace CAS:Hid _:=CAS.out hft hcd;go_upto_region 9 with fail
 clear d0;go_wp2_with fail
 refine(CTO.out W4).mono ?_;rintro e W5 ⟨rfl,r1⟩;have S6:Hid (dX w ((W5.heap.size,(eO fl.UU true fl.src fl.sp fl.dst pe 0))::[(Fb,[iV fl.UU,.string fl.src,.string fl.dst,iV fl.sp,iV fl.dp,iV cd]),(w.heap.size,(bM pa pc p)),(w.heap.size+1,(bF ba ca bo cb x)),(w.heap.size+1+1,(dY q)),(w.heap.size+1+1+1,cM)]) (W5.alloc (.cells (eO fl.UU true fl.src fl.sp fl.dst pe 0).toArray 89))):=(S4.out.kept r1).push (eO fl.UU true fl.src fl.sp fl.dst pe 0) (by simp) _;have hTb:Fb < W5.heap.size:=((S4.out.kept r1).k _ cO).lt (by simp);clear r1 S4 CTO hmtouch k0 k1 k2 k3 k4 k5;go_upto_region 10 with fail
 generalize (W5.alloc (.cells (eO fl.UU true fl.src fl.sp fl.dst pe 0).toArray 89))=W6 at *;generalize W5.heap.size=Tb at *;have HHm:=S6.out.at lX;obtain⟨m0,m1,m2,m3,m4,m5,m6,m7,m8,m9,m10⟩:=HHm.c11;clear HHm;go_wp2_with fail
 refine(CFL.out W6).mono ?_;rintro e W7 ⟨rfl,r1⟩;have S7:Hid _:=S6.out.kept r1;clear r1 S6 CFL m0 m1 m2 m3 m4 m5 m6 m7 m8 m9 m10;have HHt:=S7.out.at cO;have tc6:=HHt.cell (j:=6) rfl;have tf6:=HHt.free (j:=6) (by simp);clear HHt;have S8:Hid (dX w [(Tb,(eO fl.UU true fl.src fl.sp fl.dst pe fg)),(Fb,[iV fl.UU,.string fl.src,.string fl.dst,iV fl.sp,iV fl.dp,iV cd]),(w.heap.size,(bM pa pc p)),(w.heap.size+1,(bF ba ca bo cb x)),(w.heap.size+1+1,(dY q)),(w.heap.size+1+1+1,cM)] (W7.setCell ⟨Tb,6,none⟩ (iV fg))):=⟨fun e he=>by
  simp only[TW,TV,or_false]at he;rcases he with rfl|rfl|rfl|rfl|rfl|rfl
  ·exact(S7.out.k _ cO).set 6 (iV fg)
  ·exact(S7.out.k _ eB).setOther (by show Fb≠Tb;omega) _
  ·exact(S7.out.k _ eX).setOther (by omega) _
  ·exact(S7.out.k _ iR).setOther (by omega) _
  ·exact(S7.out.k _ lX).setOther (by omega) _
  ·exact(S7.out.k _ EX).setOther (by omega) _,S7.out.b.setCell (p:=⟨Tb,6,none⟩) (show w.heap.size≤Tb by omega) _,fun e he=>by
  simp only[TW,TV,or_false]at he;rcases he with rfl|rfl|rfl|rfl|rfl|rfl<;>simp⟩
 clear S7;go_upto_region 11 with fail
 generalize (W7.setCell ⟨Tb,6,none⟩ (iV fg))=W8 at *;clear tc6 tf6;have HHk:=S8.out.at eX;obtain⟨k0,k1,k2,k3,k4,k5,k6,k7,k8,k9⟩:=HHk.c10;clear HHk;have HHl:=S8.out.at iR;obtain⟨l0,l1⟩:=HHl.c2;clear HHl;have HHm:=S8.out.at cO;obtain⟨m0,m1,m2,m3,m4,m5,m6⟩:=HHm.c7;clear HHm;have hR8:w.heap.size+1+1+1 < W8.heap.size:=(S8.out.k _ EX).lt (by simp);have hw8:w.heap.size≤W8.heap.size:=S8.out.b.size;go_wp2_with fail
 refine(CBT.out W8 S8.out.b).mono ?_;rintro e W9 ⟨⟨a9,b9,c9,d9,rfl,hown⟩,r3⟩;unfold IP;have S10:Hid (dX w ((W9.heap.size,(xA a9 c9 b9 d9 nv))::[(Tb,(eO fl.UU true fl.src fl.sp fl.dst pe fg)),(Fb,[iV fl.UU,.string fl.src,.string fl.dst,iV fl.sp,iV fl.dp,iV cd]),(w.heap.size,(bM pa pc p)),(w.heap.size+1,(bF ba ca bo cb x)),(w.heap.size+1+1,(dY q)),(w.heap.size+1+1+1,cM)]) (W9.alloc (.cells (xA a9 c9 b9 d9 nv).toArray 104))):=(S8.out.kept r3).push (xA a9 c9 b9 d9 nv) (by simp) _;have O10:Hid (dD W8.heap.size (W9.alloc (.cells (xA a9 c9 b9 d9 nv).toArray 104)) a9 b9 nv.bib):=hown.kept (bR.alloc lR _);have hx9:W8.heap.size≤W9.heap.size:=r3.size;clear r3 hown S8 CBT k0 k1 k2 k3 k4 k5 k6 k7 k8 k9 l0 l1 m0 m1 m2 m3 m4 m5 m6;go_upto_region 12 with fail
 generalize (W9.alloc (.cells (xA a9 c9 b9 d9 nv).toArray 104))=W10 at *;generalize W9.heap.size=Xb at *;have HHk:=S10.out.at cO;obtain⟨k0,k1,k2,k3,k4,k5,k6,k7⟩:=HHk.c8;clear HHk;by_cases hn:nv.code=0
 case neg=>
  have d0:(nv.code != 0)=true:=by simp[hn]
  have HX:Hid (ans=gW (nv.code)):=HPS.out.a4 hft rfl hcd hn;obtain⟨HTH,HRR,RB⟩:=pF (show aA W10 (w.heap.size+1+1+1) (fW none none 0 0 (gW 0)) from S10.out.k _ OQ) S10.out.b hRw none none 0 0 (gW (nv.code));go_wp2_with (refine wpList_store_mid (by rfl) 39 (.tmp 10) (.tmp 66) (by rfl) _ _ _ (by rfl) (by rfl) HTH.out bZ (fG _ _ _ _ _) ?_)
  exact UQ (aG Tryz.results27 _ _ _ _ _ rfl HRR.out Tryz.underlying39 rfl bZ) rfl (And.intro (by rw[HX.out];exact gM _) RB.out)
 have d0:(nv.code != 0)=false:=by simp[hn]
 have hi16:nv.bind.inn.size≤16:=HPS.out.ns hft hcd hn;by_cases hi:nv.bind.inn.size=4
 case neg=>
  have d1:((nv.bind.inn.size:Int) != 4)=true:=by rw[bne_iff_ne];omega
  have HX:Hid (ans=gW (11)):=HPS.out.a5 hft rfl hcd hn hi;obtain⟨HTH,HRR,RB⟩:=pF (show aA W10 (w.heap.size+1+1+1) (fW none none 0 0 (gW 0)) from S10.out.k _ OQ) S10.out.b hRw none none 0 0 (gW (11));go_wp2_with (refine wpList_store_mid (by rfl) 39 (.tmp 10) (.tmp 72) (by rfl) _ _ _ (by rfl) (by rfl) HTH.out bZ (fG _ _ _ _ _) ?_)
  exact UQ (aG Tryz.results27 _ _ _ _ _ rfl HRR.out Tryz.underlying39 rfl bZ) rfl (And.intro (by rw[HX.out];exact gM _) RB.out)
 have d1:((nv.bind.inn.size:Int) != 4)=false:=by rw[bne_eq_false_iff_eq];omega
 have HX:Hid _:=HPS.out.a6 hft rfl hcd hn hi;replace CAS:Hid _:=CAS.out hn hi;clear HPS;go_upto_region 16 with fail
 clear d0 d1;have HHm:=S10.out.at eX;obtain⟨m0,m1,m2,m3,m4,m5⟩:=HHm.c6;clear HHm;go_wp2_with fail
 refine(CTU.out W10).mono ?_;rintro e W11 ⟨rfl,r1⟩;have S12:Hid (dX w ((W11.heap.size,(gE gg))::[(Xb,(xA a9 c9 b9 d9 nv)),(Tb,(eO fl.UU true fl.src fl.sp fl.dst pe fg)),(Fb,[iV fl.UU,.string fl.src,.string fl.dst,iV fl.sp,iV fl.dp,iV cd]),(w.heap.size,(bM pa pc p)),(w.heap.size+1,(bF ba ca bo cb x)),(w.heap.size+1+1,(dY q)),(w.heap.size+1+1+1,cM)]) (W11.alloc (.cells (gE gg).toArray 43))):=(S10.out.kept r1).push (gE gg) (by simp) _;have O12:Hid (dD W8.heap.size (W11.alloc (.cells (gE gg).toArray 43)) a9 b9 nv.bib):=(O10.out.kept r1).kept (bR.alloc lR _);clear r1 S10 O10 CTU hmturn m0 m1 m2 m3 m4 m5 k0 k1 k2 k3 k4 k5 k6 k7;go_upto_region 17 with fail
 generalize (W11.alloc (.cells (gE gg).toArray 43))=W12 at *;generalize W11.heap.size=Gb at *;have HCP:Hid (∀wy,Below W12.drew.heap.size W12.drew wy→_):=fun wy hy=>S12.out.kept (bR.drew.trans hy)
 have HOP:Hid (∀wy,Below W12.drew.heap.size W12.drew wy→dD W8.heap.size wy a9 b9 nv.bib):=fun wy hy=>O12.out.kept (bR.drew.trans hy)
 clear S12 O12;refine aN [79,80,81,82,83,84,85,86] (by kernel_rfl) (by kernel_rfl) ?_;iterate 8 (apply bC.u rfl;(·intro K' a wy ho hd hb hK;simp[aS,aF,aD,Region.binds]at ho hd;have hst:=HCP.out wy hb;have kC:=(hst.at OQ).c11;have kC:=(hst.at eB).c8;have kC:=(hst.at iR).c6;have kC:=(hst.at cO).c5;clear hst;go_simp;first|((try go_bits);exact hK _ _ rfl bQ)|(refine(CAS.out wy).mono ?_;rintro e wz ⟨rfl,hz⟩;exact hK _ _ rfl hz));dsimp only[nA,cA])
 intro X wz hR hz;simp only[UB,UC,eW,aF]at hR;simp only[aE,hR];clear hR;have hS:=HCP.out wz hz;have hO:=HOP.out wz hz;have hrb:aA wz (w.heap.size+1+1+1) (fW none none 0 0 (gW 0)):=hS.k _ RK;obtain⟨HTH,HRR,RB⟩:=pF hrb hS.b hRw a9 b9 c9 d9 ⟨nv.bib,⟨q.tos,q.id,q.whole,q.more,q.off,q.ttl,q.UU,gg.src,gg.dst,q.opts,sd⟩,gZ,0⟩;have HOW:Hid (dD w.heap.size (wz.setCells (w.heap.size+1+1+1) 0 (fW a9 b9 c9 d9 ⟨nv.bib,⟨q.tos,q.id,q.whole,q.more,q.off,q.ttl,q.UU,gg.src,gg.dst,q.opts,sd⟩,gZ,0⟩).toArray.toList) a9 b9 nv.bib):=(dD.mid hO hR8 _).lowN hw8;clear hS hO hrb HCP HOP;simp only[List.length_cons,List.length_nil,List.drop_succ_cons,List.drop_zero,TX,Nat.reduceAdd];with_reducible refine uS 39 (.tmp 10) (.tmp 86) rfl (w.heap.size+1+1+1) 0 (fW a9 b9 c9 d9 ⟨nv.bib,⟨q.tos,q.id,q.whole,q.more,q.off,q.ttl,q.UU,gg.src,gg.dst,q.opts,sd⟩,gZ,0⟩).toArray ?_ ?_ ?_ ?_ ?_ ?_
 ·simp[Act.eval,Act.put]
 ·simp[Act.eval,Act.put,fW,gZ]
 ·exact HTH.out
 ·exact bZ
 ·exact fG _ _ _ _ _
 generalize wz.setCells (w.heap.size+1+1+1) 0 (fW a9 b9 c9 d9 ⟨nv.bib,⟨q.tos,q.id,q.whole,q.more,q.off,q.ttl,q.UU,gg.src,gg.dst,q.opts,sd⟩,gZ,0⟩).toArray.toList=WE at *;go_wp2_with fail
 with_reducible refine UQ (v:=.agg (fW a9 b9 c9 d9 ⟨nv.bib,⟨q.tos,q.id,q.whole,q.more,q.off,q.ttl,q.UU,gg.src,gg.dst,q.opts,sd⟩,gZ,0⟩).toArray) ?_ ?_ ?_
 ·refine aG Tryz.results27 _ _ _ _ _ ?_ HRR.out Tryz.underlying39 rfl bZ;simp[Act.put]
 ·simp[Act.put]
 ·exact And.intro (by rw[HX.out,HSD.out];exact⟨a9,b9,c9,d9,rfl,HOW.out⟩) RB.out
structure PC(p:Pl)(x:Bb)(q:P4)(now:Int)(ans:No)(ft cd:Int)(ld:Bool)(fl:Fl)(nv:Bo)(gg:Fl):Prop where
 a1:ft≠0→ans=gW ft
 a2:ft=0→ld=false→ans=gW 6
 a3:ft=0→ld=true→cd≠0→ans=gW cd
 tc:ft=0→cd=0→q.UU=6→20≤q.data.size
 sz:ft=0→q.data.size≤20000
 tb:ft=0→cd=0→dB p x ⟨fl.UU,false,fl.dst,fl.dp,fl.src,eM fl.UU fl.sp,fN q.UU q.data⟩ now=nv
 fs:ft=0→cd=0→fl.src.size=4∧fl.dst.size=4
 a4:ft=0→ld=true→cd=0→nv.code≠0→ans=gW nv.code
 a5:ft=0→ld=true→cd=0→nv.code=0→nv.bind.inn.size≠4→ans=gW 11
 ns:ft=0→cd=0→nv.code=0→nv.bind.inn.size≤16
 gs:ft=0→cd=0→nv.code=0→nv.bind.inn.size=4→gg.src.size=4∧gg.dst.size=4
 a6:ft=0→ld=true→cd=0→nv.code=0→nv.bind.inn.size=4→ans=⟨nv.bib,{ q with src:=gg.src,dst:=gg.dst,data:=cR fl gg q.data },gZ,0⟩
theorem MS(p:Pl)(x:Bb)(q:P4)(now:Int):∃nv gg,PC p x q now (fB p x q now) (dP p x q now) (aX q.src q.dst q.UU q.data) (nL p.VA q.dst) (bK q.src q.dst q.UU q.data) nv gg∧gg=⟨(bK q.src q.dst q.UU q.data).UU,(bK q.src q.dst q.UU q.data).src,nv.bind.inn,if aJ (bK q.src q.dst q.UU q.data).UU=true then nv.bind.UW else (bK q.src q.dst q.UU q.data).sp,nv.bind.UW⟩:=by
 obtain⟨nv,hnv⟩: ∃nv,nv=gF p x (mO (aR q.src q.dst q.UU q.data) q.data) now:=⟨_,rfl⟩;refine⟨nv,_,?_,rfl⟩;have hv:dP p x q now=0→fB p x q now=kD p x q now:=fun h=>by unfold fB;rw[if_neg (by simp[h])]
 have hft:dP p x q now=0→iX q=true:=fun h=>(mI h).2.1
 have hcd:dP p x q now=0→aX q.src q.dst q.UU q.data=aU q.src.size q.UU q.data:=fun h=>(qM (hft h)).1
 have hfl:dP p x q now=0→aX q.src q.dst q.UU q.data=0→bK q.src q.dst q.UU q.data=aR q.src q.dst q.UU q.data:=fun h h2=>(qM (hft h)).2 (by rw[←hcd h];exact h2)
 have hpass:=fun (h:dP p x q now=0) (h2:aX q.src q.dst q.UU q.data=0)=>OU (p:=p) (x:=x) (q:=q) (now:=now) h (by rw[←hcd h];exact h2) (bK q.src q.dst q.UU q.data) (hfl h h2) nv (by rw[hfl h h2];exact hnv)
 refine⟨fun h=>?_,fun h hl=>?_,fun h hl c=>?_,fun h c hp=>?_,fun h=>?_,fun h c=>(hpass h c).1,fun h c=>⟨(hpass h c).2.1,(hpass h c).2.2.1⟩,fun h hl c n=>?_,fun h hl c n i=>?_,fun h c n=>?_,fun h c n i=>?_,fun h hl c n i=>?_⟩
 ·unfold fB;rw[if_pos h]
 ·rw[hv h];unfold kD;rw[if_pos hl]
 ·rw[hv h];unfold kD;rw[if_neg (by rw[hl];simp)];rw[if_pos (by rw[←hcd h];exact c),hcd h]
 ·have c2:aU q.src.size q.UU q.data=0:=by rw[←hcd h];exact c
  rw[hp]at c2;exact EN c2
 ·have:=(jZ (hft h)).2.2.2;omega
 ·rw[hv h];unfold kD;rw[if_neg (by rw[hl];simp)];rw[if_neg (by rw[←hcd h];simp[c]),←hnv,if_pos n]
 ·rw[hv h];unfold kD;rw[if_neg (by rw[hl];simp)];rw[if_neg (by rw[←hcd h];simp[c]),←hnv,if_neg (by simp[n]),if_pos i]
 ·exact((hpass h c).2.2.2 n).1
 ·obtain⟨G,hG,-,-,e4,e5⟩:=((hpass h c).2.2.2 n).2 i;rw[hG,e4,e5];exact⟨(jZ (hft h)).1,i⟩
 ·obtain⟨G,hG,hG2,hS,e4,e5⟩:=((hpass h c).2.2.2 n).2 i;rw[hv h,hG,hS,e4,e5];unfold kD;rw[if_neg (by rw[hl];simp),if_neg (by rw[←hcd h];simp[c]),←hnv,if_neg (by simp[n]),if_neg (by simp[i]),hG2,hfl h c]
theorem AK(pa:OA)(pc:Nat)(p:Pl)(ba bo:OA)(ca cb:Nat)(x:Bb)(q:P4)(now:Int)(w:World)(hT:sA w)(hlp:p.VA.length≤1048576)(hpc:p.VA.length≤pc)(hsz:∀s∈p.VA,s.size≤1048576)(hl1:x.VC.length≤1048576)(hl2:x.UZ.length≤1048576)(hgb:∀q∈x.VC,fJ q)(hgs:∀s∈x.UZ,iM s)(q1:q.src.size≤1048576)(q2:q.dst.size≤1048576)(q3:q.opts.size≤1048576)(q4:q.data.size≤1048576)(hp:bP bX 1 w pa p.VA)(hx:dI w ba bo x) :
  Calls Tryz.prog 27 #[.iface 82 (.agg #[.slice pa p.VA.length pc]),jQ pa pc p,iQ ba bo ca cb x,mD q,iV now] w fun e w'=>mY w.heap.size (fB p x q now) e w'∧Below w.heap.size w w':=by
 obtain⟨nv,gg,HPS,hgg⟩:=MS p x q now;have CFT:Hid (∀W,Below w.heap.size w W→Cb 52 #[jQ pa pc p,iQ ba bo ca cb x,mD q,iV now] W (iV (dP p x q now))):=fun W hW=>yF pa pc p ba bo ca cb x q now W hlp hpc hsz hl1 hl2 hgb hgs q1 q2 q3 q4 (hp.below hW) (hx.below hW)
 have CLD:Hid (∀W,Below w.heap.size w W→Cb 57 #[.iface 82 (.agg #[.slice pa p.VA.length pc]),.string q.dst] W (.bool (nL p.VA q.dst))):=fun W hW=>GG p.VA q.dst pa pc W hlp (hp.below hW)
 have CFO:Hid (∀W,Cb 58 #[.string q.src,.string q.dst,iV q.UU,.string q.data] W (mX (bK q.src q.dst q.UU q.data) (aX q.src q.dst q.UU q.data))):=fun W=>mP _ _ _ _ W q1 q2 q4
 generalize bK q.src q.dst q.UU q.data=fl at *;generalize aX q.src q.dst q.UU q.data=cd at *;generalize dP p x q now=ft at *;generalize fB p x q now=ans at *;generalize nL p.VA q.dst=ld at *;have CTO:Hid (∀W,Cb 205 #[.agg #[.slice pa p.VA.length pc],gQ fl] W (qF ⟨fl.UU,false,fl.dst,fl.dp,fl.src,eM fl.UU fl.sp,0⟩)):=fun W=>AD fl pa p.VA.length pc W
 have CFL:Hid (ft=0→cd=0→∀W,Cb 59 #[iV q.UU,.string q.data] W (iV (fN q.UU q.data))):=fun h c W=>uB _ _ W (HPS.sz h) (HPS.tc h c)
 have CBT:Hid (ft=0→cd=0→∀W,Below w.heap.size w W→Calls Tryz.prog 60 #[jQ pa pc p,iQ ba bo ca cb x,qF ⟨fl.UU,false,fl.dst,fl.dp,fl.src,eM fl.UU fl.sp,(fN q.UU q.data)⟩,iV now] W fun e w'=>mK W.heap.size nv e w'∧Below W.heap.size W w'):=fun h c W hW=>by
  have:=nS pa pc p ba bo ca cb x ⟨fl.UU,false,fl.dst,fl.dp,fl.src,eM fl.UU fl.sp,(fN q.UU q.data)⟩ now W (hT.below hW) (by dsimp only;have:=HPS.fs h c;omega) (by dsimp only;have:=HPS.fs h c;omega) hlp hpc hsz hl1 hl2 hgb hgs (hp.below hW) (hx.below hW);rw[HPS.tb h c]at this;exact this
 have CTU:Hid (∀W,Cb 206 #[.agg #[.slice pa p.VA.length pc],gQ fl,jI nv.bind] W (gQ gg)):=fun W=>by rw[hgg];exact DC fl nv.bind pa p.VA.length pc W
 have CAS:Hid (ft=0→cd=0→nv.code=0→nv.bind.inn.size=4→∀W,Cb 61 #[mD q,gQ fl,gQ gg] W (mD { q with src:=gg.src,dst:=gg.dst,data:=cR fl gg q.data })):=fun h c n i W=>by
  have hf:=HPS.fs h c;have hg:=HPS.gs h c n i;exact vI q fl gg _ _ W q1 q2 q3 q4 (fun W=>nT fl gg q.data W (by omega) (by omega) (by omega) (by omega) q4 (by omega))
 have HPS:Hid (PC p x q now ans ft cd ld fl nv gg):=HPS;clear hgg hT hlp hpc hsz hl1 hl2 hgb hgs hp hx q1 q2 q3
 have hmtouch : ∀ W, (method 319 82 (.agg #[.slice pa p.VA.length pc]) "loop.example/g00314/impl.touch").run Tryz.prog W = .ok (205, .agg #[.slice pa p.VA.length pc]) W := fun W => by kernel_rfl
 have hmturn : ∀ W, (method 319 82 (.agg #[.slice pa p.VA.length pc]) "loop.example/g00314/impl.turn").run Tryz.prog W = .ok (206, .agg #[.slice pa p.VA.length pc]) W := fun W => by kernel_rfl
 unfold jQ iQ mD gQ mX qF jI at *;dsimp only at *;generalize eM fl.UU fl.sp=pe at *;generalize hsd:cR fl gg q.data=sd at *;have HSD:Hid (cR fl gg q.data=sd):=hsd;clear hsd;generalize fN q.UU q.data=fg at *;have e0:aA ((aW (aW (aW w (bM pa pc p) 27) (bF ba ca bo cb x) 31) (dY q) 33).alloc (.cells cM.toArray 39)) (w.heap.size) (bM pa pc p):=by
  have h:=aA.new w (bM pa pc p) 27;try simp only[TQ]at h
  exact(((h.alloc _).alloc _).alloc _)
 have e1:aA ((aW (aW (aW w (bM pa pc p) 27) (bF ba ca bo cb x) 31) (dY q) 33).alloc (.cells cM.toArray 39)) (w.heap.size+1) (bF ba ca bo cb x):=by
  have h:=aA.new (w.alloc (.cells (bM pa pc p).toArray 27)) (bF ba ca bo cb x) 31;try simp only[TQ]at h
  exact((h.alloc _).alloc _)
 have e2:aA ((aW (aW (aW w (bM pa pc p) 27) (bF ba ca bo cb x) 31) (dY q) 33).alloc (.cells cM.toArray 39)) (w.heap.size+1+1) (dY q):=by
  have h:=aA.new ((aW w (bM pa pc p) 27).alloc (.cells (bF ba ca bo cb x).toArray 31)) (dY q) 33;try simp only[TQ]at h
  exact(h.alloc _)
 have e3:aA ((aW (aW (aW w (bM pa pc p) 27) (bF ba ca bo cb x) 31) (dY q) 33).alloc (.cells cM.toArray 39)) (w.heap.size+1+1+1) cM:=by
  have h:=aA.new ((aW (aW w (bM pa pc p) 27) (bF ba ca bo cb x) 31).alloc (.cells (dY q).toArray 33)) cM 39;try simp only[TQ]at h
  exact h
 have HS0:Hid (dX w [(w.heap.size,(bM pa pc p)),(w.heap.size+1,(bF ba ca bo cb x)),(w.heap.size+1+1,(dY q)),(w.heap.size+1+1+1,cM)] ((aW (aW (aW w (bM pa pc p) 27) (bF ba ca bo cb x) 31) (dY q) 33).alloc (.cells cM.toArray 39))):=by
  refine⟨fun e he=>?_,((((bR.alloc (by (try simp only[TQ]);omega) _).alloc (by (try simp only[TQ]);omega) _).alloc (by (try simp only[TQ]);omega) _).alloc (by (try simp only[TQ]);omega) _),fun e he=>?_⟩
  ·simp only[TW,TV,or_false]at he;rcases he with rfl|rfl|rfl|rfl
   ·exact e0
   ·exact e1
   ·exact e2
   ·exact e3
  ·simp only[TW,TV,or_false]at he;rcases he with rfl|rfl|rfl|rfl<;>simp
 clear e0 e1 e2 e3;have hRw:w.heap.size≤w.heap.size+1+1+1:=by omega
 go_enter Tryz.func27,Tryz.ntmps27
 go_upto_region 1 with fail
 generalize World.alloc _ _=W0 at *;have HHk:=HS0.out.at cO;obtain⟨k0,k1,k2,k3,k4,k5,k6,k7,k8,k9⟩:=HHk.c10;clear HHk;have HHl:=HS0.out.at eB;obtain⟨l0,l1⟩:=HHl.c2;clear HHl;have HHm:=HS0.out.at eX;obtain⟨m0,m1,m2,m3,m4,m5,m6,m7,m8,m9,m10⟩:=HHm.c11;clear HHm;go_wp2_with fail
 refine(CFT.out W0 HS0.out.b).mono ?_;rintro e W1 ⟨rfl,r1⟩;have S1:Hid _:=HS0.out.kept r1;clear r1 HS0 CFT k0 k1 k2 k3 k4 k5 k6 k7 k8 k9 l0 l1 m0 m1 m2 m3 m4 m5 m6 m7 m8 m9 m10;by_cases hft:ft=0
 case neg=>
  have d0:(ft != 0)=true:=by simp[hft]
  have HX:Hid (ans=gW (ft)):=HPS.out.a1 hft;obtain⟨HTH,HRR,RB⟩:=pF (show aA W1 (w.heap.size+1+1+1) (fW none none 0 0 (gW 0)) from S1.out.k _ iR) S1.out.b hRw none none 0 0 (gW (ft));go_wp2_with (refine wpList_store_mid (by rfl) 39 (.tmp 10) (.tmp 24) (by rfl) _ _ _ (by rfl) (by rfl) HTH.out bZ (fG _ _ _ _ _) ?_)
  exact UQ (aG Tryz.results27 _ _ _ _ _ rfl HRR.out Tryz.underlying39 rfl bZ) rfl (And.intro (by rw[HX.out];exact gM _) RB.out)
 have d0:(ft != 0)=false:=by simp[hft]
 go_upto_region 4 with fail
 clear d0;have HHm:=S1.out.at eX;obtain⟨m0,m1,m2,m3,m4,m5,m6,m7,m8,m9,m10⟩:=HHm.c11;clear HHm;go_wp2_with fail
 refine(CLD.out W1 S1.out.b).mono ?_;rintro e W2 ⟨rfl,r1⟩;have S2:Hid _:=S1.out.kept r1;clear r1 S1 CLD m0 m1 m2 m3 m4 m5 m6 m7 m8 m9 m10
 cases ld with
 | false=>
  have HX:Hid (ans=gW (6)):=HPS.out.a2 hft rfl;obtain⟨HTH,HRR,RB⟩:=pF (show aA W2 (w.heap.size+1+1+1) (fW none none 0 0 (gW 0)) from S2.out.k _ iR) S2.out.b hRw none none 0 0 (gW (6));go_wp2_with (refine wpList_store_mid (by rfl) 39 (.tmp 10) (.tmp 30) (by rfl) _ _ _ (by rfl) (by rfl) HTH.out bZ (fG _ _ _ _ _) ?_)
  exact UQ (aG Tryz.results27 _ _ _ _ _ rfl HRR.out Tryz.underlying39 rfl bZ) rfl (And.intro (by rw[HX.out];exact gM _) RB.out)
 | true=>
 go_upto_region 6 with fail
 have HHm:=S2.out.at eX;obtain⟨m0,m1,m2,m3,m4,m5,m6,m7,m8,m9,m10⟩:=HHm.c11;clear HHm;go_wp2_with fail
 refine(CFO.out W2).mono ?_;rintro e W3 ⟨rfl,r1⟩;have S4:Hid (dX w ((W3.heap.size,[iV fl.UU,.string fl.src,.string fl.dst,iV fl.sp,iV fl.dp,iV cd])::[(w.heap.size,(bM pa pc p)),(w.heap.size+1,(bF ba ca bo cb x)),(w.heap.size+1+1,(dY q)),(w.heap.size+1+1+1,cM)]) (W3.alloc (.cells #[iV fl.UU,.string fl.src,.string fl.dst,iV fl.sp,iV fl.dp,iV cd] 45))):=(S2.out.kept r1).push [iV fl.UU,.string fl.src,.string fl.dst,iV fl.sp,iV fl.dp,iV cd] (by simp) _;have hFb:w.heap.size+1+1+1 < W3.heap.size:=((S2.out.kept r1).k _ iR).lt (by simp);clear r1 S2 CFO m0 m1 m2 m3 m4 m5 m6 m7 m8 m9 m10;go_upto_region 7 with fail
 generalize (W3.alloc (.cells #[iV fl.UU,.string fl.src,.string fl.dst,iV fl.sp,iV fl.dp,iV cd] 45))=W4 at *;generalize W3.heap.size=Fb at *;have HHk:=S4.out.at cO;obtain⟨k0,k1,k2,k3,k4,k5⟩:=HHk.c6;clear HHk;by_cases hcd:cd=0
 case neg=>
  have d0:(cd != 0)=true:=by simp[hcd]
  have HX:Hid (ans=gW (cd)):=HPS.out.a3 hft rfl hcd;obtain⟨HTH,HRR,RB⟩:=pF (show aA W4 (w.heap.size+1+1+1) (fW none none 0 0 (gW 0)) from S4.out.k _ lX) S4.out.b hRw none none 0 0 (gW (cd));go_wp2_with (refine wpList_store_mid (by rfl) 39 (.tmp 10) (.tmp 45) (by rfl) _ _ _ (by rfl) (by rfl) HTH.out bZ (fG _ _ _ _ _) ?_)
  exact UQ (aG Tryz.results27 _ _ _ _ _ rfl HRR.out Tryz.underlying39 rfl bZ) rfl (And.intro (by rw[HX.out];exact gM _) RB.out)
 have d0:(cd != 0)=false:=by simp[hcd]
 replace CFL:Hid _:=CFL.out hft hcd;replace CBT:Hid _:=CBT.out hft hcd;replace CAS:Hid _:=CAS.out hft hcd;go_upto_region 9 with fail
 clear d0;go_wp2_with fail
 refine(CTO.out W4).mono ?_;rintro e W5 ⟨rfl,r1⟩;have S6:Hid (dX w ((W5.heap.size,(eO fl.UU false fl.dst fl.dp fl.src pe 0))::[(Fb,[iV fl.UU,.string fl.src,.string fl.dst,iV fl.sp,iV fl.dp,iV cd]),(w.heap.size,(bM pa pc p)),(w.heap.size+1,(bF ba ca bo cb x)),(w.heap.size+1+1,(dY q)),(w.heap.size+1+1+1,cM)]) (W5.alloc (.cells (eO fl.UU false fl.dst fl.dp fl.src pe 0).toArray 89))):=(S4.out.kept r1).push (eO fl.UU false fl.dst fl.dp fl.src pe 0) (by simp) _;have hTb:Fb < W5.heap.size:=((S4.out.kept r1).k _ cO).lt (by simp);clear r1 S4 CTO hmtouch k0 k1 k2 k3 k4 k5;go_upto_region 10 with fail
 generalize (W5.alloc (.cells (eO fl.UU false fl.dst fl.dp fl.src pe 0).toArray 89))=W6 at *;generalize W5.heap.size=Tb at *;have HHm:=S6.out.at lX;obtain⟨m0,m1,m2,m3,m4,m5,m6,m7,m8,m9,m10⟩:=HHm.c11;clear HHm;go_wp2_with fail
 refine(CFL.out W6).mono ?_;rintro e W7 ⟨rfl,r1⟩;have S7:Hid _:=S6.out.kept r1;clear r1 S6 CFL m0 m1 m2 m3 m4 m5 m6 m7 m8 m9 m10;have HHt:=S7.out.at cO;have tc6:=HHt.cell (j:=6) rfl;have tf6:=HHt.free (j:=6) (by simp);clear HHt;have S8:Hid (dX w [(Tb,(eO fl.UU false fl.dst fl.dp fl.src pe fg)),(Fb,[iV fl.UU,.string fl.src,.string fl.dst,iV fl.sp,iV fl.dp,iV cd]),(w.heap.size,(bM pa pc p)),(w.heap.size+1,(bF ba ca bo cb x)),(w.heap.size+1+1,(dY q)),(w.heap.size+1+1+1,cM)] (W7.setCell ⟨Tb,6,none⟩ (iV fg))):=⟨fun e he=>by
  simp only[TW,TV,or_false]at he;rcases he with rfl|rfl|rfl|rfl|rfl|rfl
  ·exact(S7.out.k _ cO).set 6 (iV fg)
  ·exact(S7.out.k _ eB).setOther (by show Fb≠Tb;omega) _
  ·exact(S7.out.k _ eX).setOther (by omega) _
  ·exact(S7.out.k _ iR).setOther (by omega) _
  ·exact(S7.out.k _ lX).setOther (by omega) _
  ·exact(S7.out.k _ EX).setOther (by omega) _,S7.out.b.setCell (p:=⟨Tb,6,none⟩) (show w.heap.size≤Tb by omega) _,fun e he=>by
  simp only[TW,TV,or_false]at he;rcases he with rfl|rfl|rfl|rfl|rfl|rfl<;>simp⟩
 clear S7;go_upto_region 11 with fail
 generalize (W7.setCell ⟨Tb,6,none⟩ (iV fg))=W8 at *;clear tc6 tf6;have HHk:=S8.out.at eX;obtain⟨k0,k1,k2,k3,k4,k5,k6,k7,k8,k9⟩:=HHk.c10;clear HHk;have HHl:=S8.out.at iR;obtain⟨l0,l1⟩:=HHl.c2;clear HHl;have HHm:=S8.out.at cO;obtain⟨m0,m1,m2,m3,m4,m5,m6⟩:=HHm.c7;clear HHm;have hR8:w.heap.size+1+1+1 < W8.heap.size:=(S8.out.k _ EX).lt (by simp);have hw8:w.heap.size≤W8.heap.size:=S8.out.b.size;go_wp2_with fail
 refine(CBT.out W8 S8.out.b).mono ?_;rintro e W9 ⟨⟨a9,b9,c9,d9,rfl,hown⟩,r3⟩;unfold IP;have S10:Hid (dX w ((W9.heap.size,(xA a9 c9 b9 d9 nv))::[(Tb,(eO fl.UU false fl.dst fl.dp fl.src pe fg)),(Fb,[iV fl.UU,.string fl.src,.string fl.dst,iV fl.sp,iV fl.dp,iV cd]),(w.heap.size,(bM pa pc p)),(w.heap.size+1,(bF ba ca bo cb x)),(w.heap.size+1+1,(dY q)),(w.heap.size+1+1+1,cM)]) (W9.alloc (.cells (xA a9 c9 b9 d9 nv).toArray 104))):=(S8.out.kept r3).push (xA a9 c9 b9 d9 nv) (by simp) _;have O10:Hid (dD W8.heap.size (W9.alloc (.cells (xA a9 c9 b9 d9 nv).toArray 104)) a9 b9 nv.bib):=hown.kept (bR.alloc lR _);have hx9:W8.heap.size≤W9.heap.size:=r3.size;clear r3 hown S8 CBT k0 k1 k2 k3 k4 k5 k6 k7 k8 k9 l0 l1 m0 m1 m2 m3 m4 m5 m6;go_upto_region 12 with fail
 generalize (W9.alloc (.cells (xA a9 c9 b9 d9 nv).toArray 104))=W10 at *;generalize W9.heap.size=Xb at *;have HHk:=S10.out.at cO;obtain⟨k0,k1,k2,k3,k4,k5,k6,k7⟩:=HHk.c8;clear HHk;by_cases hn:nv.code=0
 case neg=>
  have d0:(nv.code != 0)=true:=by simp[hn]
  have HX:Hid (ans=gW (nv.code)):=HPS.out.a4 hft rfl hcd hn;obtain⟨HTH,HRR,RB⟩:=pF (show aA W10 (w.heap.size+1+1+1) (fW none none 0 0 (gW 0)) from S10.out.k _ OQ) S10.out.b hRw none none 0 0 (gW (nv.code));go_wp2_with (refine wpList_store_mid (by rfl) 39 (.tmp 10) (.tmp 66) (by rfl) _ _ _ (by rfl) (by rfl) HTH.out bZ (fG _ _ _ _ _) ?_)
  exact UQ (aG Tryz.results27 _ _ _ _ _ rfl HRR.out Tryz.underlying39 rfl bZ) rfl (And.intro (by rw[HX.out];exact gM _) RB.out)
 have d0:(nv.code != 0)=false:=by simp[hn]
 have hi16:nv.bind.inn.size≤16:=HPS.out.ns hft hcd hn;by_cases hi:nv.bind.inn.size=4
 case neg=>
  have d1:((nv.bind.inn.size:Int) != 4)=true:=by rw[bne_iff_ne];omega
  have HX:Hid (ans=gW (11)):=HPS.out.a5 hft rfl hcd hn hi;obtain⟨HTH,HRR,RB⟩:=pF (show aA W10 (w.heap.size+1+1+1) (fW none none 0 0 (gW 0)) from S10.out.k _ OQ) S10.out.b hRw none none 0 0 (gW (11));go_wp2_with (refine wpList_store_mid (by rfl) 39 (.tmp 10) (.tmp 72) (by rfl) _ _ _ (by rfl) (by rfl) HTH.out bZ (fG _ _ _ _ _) ?_)
  exact UQ (aG Tryz.results27 _ _ _ _ _ rfl HRR.out Tryz.underlying39 rfl bZ) rfl (And.intro (by rw[HX.out];exact gM _) RB.out)
 have d1:((nv.bind.inn.size:Int) != 4)=false:=by rw[bne_eq_false_iff_eq];omega
 have HX:Hid _:=HPS.out.a6 hft rfl hcd hn hi;replace CAS:Hid _:=CAS.out hn hi;clear HPS;go_upto_region 16 with fail
 clear d0 d1;have HHm:=S10.out.at eX;obtain⟨m0,m1,m2,m3,m4,m5⟩:=HHm.c6;clear HHm;go_wp2_with fail
 refine(CTU.out W10).mono ?_;rintro e W11 ⟨rfl,r1⟩;have S12:Hid (dX w ((W11.heap.size,(gE gg))::[(Xb,(xA a9 c9 b9 d9 nv)),(Tb,(eO fl.UU false fl.dst fl.dp fl.src pe fg)),(Fb,[iV fl.UU,.string fl.src,.string fl.dst,iV fl.sp,iV fl.dp,iV cd]),(w.heap.size,(bM pa pc p)),(w.heap.size+1,(bF ba ca bo cb x)),(w.heap.size+1+1,(dY q)),(w.heap.size+1+1+1,cM)]) (W11.alloc (.cells (gE gg).toArray 43))):=(S10.out.kept r1).push (gE gg) (by simp) _;have O12:Hid (dD W8.heap.size (W11.alloc (.cells (gE gg).toArray 43)) a9 b9 nv.bib):=(O10.out.kept r1).kept (bR.alloc lR _);clear r1 S10 O10 CTU hmturn m0 m1 m2 m3 m4 m5 k0 k1 k2 k3 k4 k5 k6 k7;go_upto_region 17 with fail
 generalize (W11.alloc (.cells (gE gg).toArray 43))=W12 at *;generalize W11.heap.size=Gb at *;have HCP:Hid (∀wy,Below W12.drew.heap.size W12.drew wy→_):=fun wy hy=>S12.out.kept (bR.drew.trans hy)
 have HOP:Hid (∀wy,Below W12.drew.heap.size W12.drew wy→dD W8.heap.size wy a9 b9 nv.bib):=fun wy hy=>O12.out.kept (bR.drew.trans hy)
 clear S12 O12;refine aN [79,80,81,82,83,84,85,86] (by kernel_rfl) (by kernel_rfl) ?_;iterate 8 (apply bC.u rfl;(·intro K' a wy ho hd hb hK;simp[aS,aF,aD,Region.binds]at ho hd;have hst:=HCP.out wy hb;have kC:=(hst.at OQ).c11;have kC:=(hst.at eB).c8;have kC:=(hst.at iR).c6;have kC:=(hst.at cO).c5;clear hst;go_simp;first|((try go_bits);exact hK _ _ rfl bQ)|(refine(CAS.out wy).mono ?_;rintro e wz ⟨rfl,hz⟩;exact hK _ _ rfl hz));dsimp only[nA,cA])
 intro X wz hR hz;simp only[UB,UC,eW,aF]at hR;simp only[aE,hR];clear hR;have hS:=HCP.out wz hz;have hO:=HOP.out wz hz;have hrb:aA wz (w.heap.size+1+1+1) (fW none none 0 0 (gW 0)):=hS.k _ RK;obtain⟨HTH,HRR,RB⟩:=pF hrb hS.b hRw a9 b9 c9 d9 ⟨nv.bib,⟨q.tos,q.id,q.whole,q.more,q.off,q.ttl,q.UU,gg.src,gg.dst,q.opts,sd⟩,gZ,0⟩;have HOW:Hid (dD w.heap.size (wz.setCells (w.heap.size+1+1+1) 0 (fW a9 b9 c9 d9 ⟨nv.bib,⟨q.tos,q.id,q.whole,q.more,q.off,q.ttl,q.UU,gg.src,gg.dst,q.opts,sd⟩,gZ,0⟩).toArray.toList) a9 b9 nv.bib):=(dD.mid hO hR8 _).lowN hw8;clear hS hO hrb HCP HOP;simp only[List.length_cons,List.length_nil,List.drop_succ_cons,List.drop_zero,TX,Nat.reduceAdd];with_reducible refine uS 39 (.tmp 10) (.tmp 86) rfl (w.heap.size+1+1+1) 0 (fW a9 b9 c9 d9 ⟨nv.bib,⟨q.tos,q.id,q.whole,q.more,q.off,q.ttl,q.UU,gg.src,gg.dst,q.opts,sd⟩,gZ,0⟩).toArray ?_ ?_ ?_ ?_ ?_ ?_
 ·simp[Act.eval,Act.put]
 ·simp[Act.eval,Act.put,fW,gZ]
 ·exact HTH.out
 ·exact bZ
 ·exact fG _ _ _ _ _
 generalize wz.setCells (w.heap.size+1+1+1) 0 (fW a9 b9 c9 d9 ⟨nv.bib,⟨q.tos,q.id,q.whole,q.more,q.off,q.ttl,q.UU,gg.src,gg.dst,q.opts,sd⟩,gZ,0⟩).toArray.toList=WE at *;go_wp2_with fail
 with_reducible refine UQ (v:=.agg (fW a9 b9 c9 d9 ⟨nv.bib,⟨q.tos,q.id,q.whole,q.more,q.off,q.ttl,q.UU,gg.src,gg.dst,q.opts,sd⟩,gZ,0⟩).toArray) ?_ ?_ ?_
 ·refine aG Tryz.results27 _ _ _ _ _ ?_ HRR.out Tryz.underlying39 rfl bZ;simp[Act.put]
 ·simp[Act.put]
 ·exact And.intro (by rw[HX.out,HSD.out];exact⟨a9,b9,c9,d9,rfl,HOW.out⟩) RB.out
end Go.Proofs.YtdkepkaflielhaaGreatDoor
