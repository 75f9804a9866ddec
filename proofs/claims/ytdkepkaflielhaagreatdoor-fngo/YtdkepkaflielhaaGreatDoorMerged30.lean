import Derived.Test.YtdkepkaflielhaaGreatDoorMerged29
set_option linter.unusedVariables false
set_option linter.unusedSimpArgs false
set_option maxRecDepth 100000
set_option maxHeartbeats 8000000
namespace Go.Proofs.YtdkepkaflielhaaGreatDoor
open Go.RowKit Go.PlainAid
def mY(base:Nat)(o:No)(e:Ending)(w':World):Prop:=∃a b ca cb,e=.returned (IY a b ca cb o)∧dD base w' a b o.bib
theorem gM{base:Nat}{w:World}(c:Int):mY base (gW c) (.returned (IY none none 0 0 (gW c))) w:=⟨none,none,0,0,rfl,.inl rfl,.inl rfl,fun g h e1=>by simp at e1⟩
theorem bZ:(Tryz.prog.info? 39).map (·.size)=some 25:=by kernel_rfl
theorem wL(c:Int)(w:World) :
  Cb 29 #[iV c] w (IY none none 0 0 (gW c)):=by
 have H0:Hid (aA (w.alloc (.cells cM.toArray 39)) w.heap.size (fW none none 0 0 (gW 0))):=aA.new w cM 39;have B0:Hid (Below w.heap.size w (w.alloc (.cells cM.toArray 39))):=bR.alloc lR _;go_enter Tryz.func29,Tryz.ntmps29
 go_upto_region 1 with fail
 generalize (w.alloc (.cells cM.toArray 39))=W0 at *;have HTH:Hid (W0.there w.heap.size 0 (fW none none 0 0 (gW c)).toArray.size):=nV H0.out _ _ _ _ _;have HRR:Hid (aA (W0.setCells w.heap.size 0 (fW none none 0 0 (gW c)).toArray.toList) w.heap.size (fW none none 0 0 (gW c))):=H0.out.mid rfl;have RB:Hid (Below w.heap.size w (W0.setCells w.heap.size 0 (fW none none 0 0 (gW c)).toArray.toList)):=Below.mid B0.out lR _;clear H0 B0;go_wp2_with (refine wpList_store_mid (by rfl) 39 (.tmp 2) (.tmp 4) (by rfl) _ _ _ (by rfl) (by rfl) HTH.out bZ (fG _ _ _ _ _) ?_)
 exact UQ (aG Tryz.results29 _ _ _ _ _ rfl HRR.out Tryz.underlying39 rfl bZ) rfl (And.intro rfl RB.out)
theorem AZ(pa:OA)(pc:Nat)(p:Pl)(ba bo:OA)(ca cb:Nat)(x:Bb)(q:P4)(now:Int)(w:World)(hbk:fS p x=true)(hq:iX q=true)(hnow:bS now=true)(hl1:x.VC.length≤1048576)(hl2:x.UZ.length≤1048576)(hp:bP bX 1 w pa p.VA)(hx:dI w ba bo x) :
  Calls Tryz.prog 30 #[jQ pa pc p,iQ ba bo ca cb x,mD q,iV now] w fun e w'=>mY w.heap.size (dS p x q now) e w'∧Below w.heap.size w w':=by
 obtain⟨hA,hB⟩: KT q=true∧LD q=true:=by unfold iX at hq;simp only[TP]at hq;exact hq.1
 obtain⟨-,-,hpr,-,-,hs,hd⟩:=yX hA;obtain⟨-,-,hdt,-,-⟩:=yY hB;have hpo:cT p=true:=(jB.1 hbk).pool;have HOF:Hid (∀W,Cb 32 #[.string q.src,.string q.dst,iV q.UU,.string q.data] W (.tuple #[gQ (aR q.src q.dst q.UU q.data),iV (aU q.src.size q.UU q.data)])):=fun W=>wM _ _ _ _ W (by omega) (by omega)
 have HIL:Hid (∀c W,Cb 29 #[iV c] W (IY none none 0 0 (gW c))):=fun c W=>wL c W
 have HGO:Hid (aU q.src.size q.UU q.data=0→∀W,Below w.heap.size w W→Calls Tryz.prog 63 #[jQ pa pc p,iQ ba bo ca cb x,gQ (aR q.src q.dst q.UU q.data),.string q.dst,.string q.data,iV now] W fun e w'=>mK W.heap.size (gF p x (kV (aR q.src q.dst q.UU q.data) q.dst q.data) now) e w'∧Below W.heap.size W w'):=fun h W hW=>by
  obtain⟨z1,z2,z3,z4,z5,z6⟩:=gN (d:=q.dst) h;exact KM pa pc p ba bo ca cb x _ q.dst q.data now W hpo hnow (by rw[z2];omega) z4.1 z4.2 (by omega) (by rw[z1];exact(gR h).2) hl1 hl2 (hp.below hW) (hx.below hW)
 have HBE:Hid (aU q.src.size q.UU q.data=0→(gF p x (kV (aR q.src q.dst q.UU q.data) q.dst q.data) now).code=0→_):=fun h h2=>nP hbk hnow (zW hs hd h) h2
 have HFM:Hid (aU q.src.size q.UU q.data=0→(gF p x (kV (aR q.src q.dst q.UU q.data) q.dst q.data) now).code=0→∀W,Cb 64 #[gQ (aR q.src q.dst q.UU q.data),.string (gF p x (kV (aR q.src q.dst q.UU q.data) q.dst q.data) now).bind.out,iV (gF p x (kV (aR q.src q.dst q.UU q.data) q.dst q.data) now).bind.UX,.string q.dst] W (gQ (gP (aR q.src q.dst q.UU q.data) (gF p x (kV (aR q.src q.dst q.UU q.data) q.dst q.data) now).bind.out (gF p x (kV (aR q.src q.dst q.UU q.data) q.dst q.data) now).bind.UX q.dst))):=fun h h2 W=>DW _ _ _ _ W (by have:=(HBE.out h h2).1;omega)
 have HST:Hid (aU q.src.size q.UU q.data=0→(gF p x (kV (aR q.src q.dst q.UU q.data) q.dst q.data) now).code=0→∀W,Cb 45 #[gQ (aR q.src q.dst q.UU q.data),gQ (gP (aR q.src q.dst q.UU q.data) (gF p x (kV (aR q.src q.dst q.UU q.data) q.dst q.data) now).bind.out (gF p x (kV (aR q.src q.dst q.UU q.data) q.dst q.data) now).bind.UX q.dst),.string q.data] W (eJ (jN (aR q.src q.dst q.UU q.data) (gP (aR q.src q.dst q.UU q.data) (gF p x (kV (aR q.src q.dst q.UU q.data) q.dst q.data) now).bind.out (gF p x (kV (aR q.src q.dst q.UU q.data) q.dst q.data) now).bind.UX q.dst) q.data) 0)):=fun h h2 W=>by
  obtain⟨z1,z2,z3,z4,z5,z6⟩:=gN (d:=q.dst) h;obtain⟨b1,b2,b3,b4,b5⟩:=HBE.out h h2;obtain⟨k1,k2,k3,k4⟩:=rJ (f:=aR q.src q.dst q.UU q.data) (g:=⟨(aR q.src q.dst q.UU q.data).UU,(gF p x (kV (aR q.src q.dst q.UU q.data) q.dst q.data) now).bind.out,q.dst,(gF p x (kV (aR q.src q.dst q.UU q.data) q.dst q.data) now).bind.UX,(aR q.src q.dst q.UU q.data).dp⟩) (qL h (gD hs hd)) (by rw[z2];exact hs) b1 hd rfl b2 z5;obtain⟨m1,m2,m3⟩:=kN k1;have o:=gR h;refine(yU _ (gP (aR q.src q.dst q.UU q.data) (gF p x (kV (aR q.src q.dst q.UU q.data) q.dst q.data) now).bind.out (gF p x (kV (aR q.src q.dst q.UU q.data) q.dst q.data) now).bind.UX q.dst) q.data W (by omega) o.1 (by rw[z1];exact o.2) ⟨by rw[z2];omega,by rw[z3];omega⟩ m1 (by rw[z1];exact hpr) m2 m3).mono ?_;rintro e w' ⟨rfl,hb⟩;refine⟨?_,hb⟩;unfold jN;have k5:(gP (aR q.src q.dst q.UU q.data) (gF p x (kV (aR q.src q.dst q.UU q.data) q.dst q.data) now).bind.out (gF p x (kV (aR q.src q.dst q.UU q.data) q.dst q.data) now).bind.UX q.dst).src.size=4:=by show (kW _ _).src.size=4;rw[k3];exact b1
  have k6:¬(gP (aR q.src q.dst q.UU q.data) (gF p x (kV (aR q.src q.dst q.UU q.data) q.dst q.data) now).bind.out (gF p x (kV (aR q.src q.dst q.UU q.data) q.dst q.data) now).bind.UX q.dst).src.size=16:=by omega
  simp only[if_neg k6];by_cases hbu:eF (aR q.src q.dst q.UU q.data) q.data=true
  ·simp only[if_pos hbu]
  ·simp only[if_neg hbu]
 have HV:Hid (dS p x q now=if aU q.src.size q.UU q.data≠0 then gW (aU q.src.size q.UU q.data) else if (gF p x (kV (aR q.src q.dst q.UU q.data) q.dst q.data) now).code≠0 then gW (gF p x (kV (aR q.src q.dst q.UU q.data) q.dst q.data) now).code else ⟨(gF p x (kV (aR q.src q.dst q.UU q.data) q.dst q.data) now).bib,{ q with src:=(gF p x (kV (aR q.src q.dst q.UU q.data) q.dst q.data) now).bind.out,data:=jN (aR q.src q.dst q.UU q.data) (gP (aR q.src q.dst q.UU q.data) (gF p x (kV (aR q.src q.dst q.UU q.data) q.dst q.data) now).bind.out (gF p x (kV (aR q.src q.dst q.UU q.data) q.dst q.data) now).bind.UX q.dst) q.data },gZ,0⟩):=rfl;clear HBE;generalize dS p x q now=ans at *;generalize jN (aR q.src q.dst q.UU q.data) (gP (aR q.src q.dst q.UU q.data) (gF p x (kV (aR q.src q.dst q.UU q.data) q.dst q.data) now).bind.out (gF p x (kV (aR q.src q.dst q.UU q.data) q.dst q.data) now).bind.UX q.dst) q.data=sd at *;generalize gP (aR q.src q.dst q.UU q.data) (gF p x (kV (aR q.src q.dst q.UU q.data) q.dst q.data) now).bind.out (gF p x (kV (aR q.src q.dst q.UU q.data) q.dst q.data) now).bind.UX q.dst=g at *;generalize gF p x (kV (aR q.src q.dst q.UU q.data) q.dst q.data) now=nv at *;generalize aR q.src q.dst q.UU q.data=fl at *;generalize aU q.src.size q.UU q.data=cd at *;obtain⟨tos,id,whole,more,off,ttl,UU,src,dst,opts,data⟩:=q;clear hp hx hpo hnow hbk hq hA hB;unfold jQ iQ mD at *;unfold gQ eJ at *;dsimp only at *;have e0:aA ((aW (aW (aW w (bM pa pc p) 27) (bF ba ca bo cb x) 31) (fM tos id whole more off ttl UU src dst opts data) 33).alloc (.cells cM.toArray 39)) (w.heap.size) (bM pa pc p):=by
  have h:=aA.new w (bM pa pc p) 27;try simp only[TQ]at h
  exact(((h.alloc _).alloc _).alloc _)
 have e1:aA ((aW (aW (aW w (bM pa pc p) 27) (bF ba ca bo cb x) 31) (fM tos id whole more off ttl UU src dst opts data) 33).alloc (.cells cM.toArray 39)) (w.heap.size+1) (bF ba ca bo cb x):=by
  have h:=aA.new (w.alloc (.cells (bM pa pc p).toArray 27)) (bF ba ca bo cb x) 31;try simp only[TQ]at h
  exact((h.alloc _).alloc _)
 have e2:aA ((aW (aW (aW w (bM pa pc p) 27) (bF ba ca bo cb x) 31) (fM tos id whole more off ttl UU src dst opts data) 33).alloc (.cells cM.toArray 39)) (w.heap.size+1+1) (fM tos id whole more off ttl UU src dst opts data):=by
  have h:=aA.new ((aW w (bM pa pc p) 27).alloc (.cells (bF ba ca bo cb x).toArray 31)) (fM tos id whole more off ttl UU src dst opts data) 33;try simp only[TQ]at h
  exact(h.alloc _)
 have e3:aA ((aW (aW (aW w (bM pa pc p) 27) (bF ba ca bo cb x) 31) (fM tos id whole more off ttl UU src dst opts data) 33).alloc (.cells cM.toArray 39)) (w.heap.size+1+1+1) cM:=by
  have h:=aA.new ((aW (aW w (bM pa pc p) 27) (bF ba ca bo cb x) 31).alloc (.cells (fM tos id whole more off ttl UU src dst opts data).toArray 33)) cM 39;try simp only[TQ]at h
  exact h
 have HS0:Hid (dX w [(w.heap.size,(bM pa pc p)),(w.heap.size+1,(bF ba ca bo cb x)),(w.heap.size+1+1,(fM tos id whole more off ttl UU src dst opts data)),(w.heap.size+1+1+1,cM)] ((aW (aW (aW w (bM pa pc p) 27) (bF ba ca bo cb x) 31) (fM tos id whole more off ttl UU src dst opts data) 33).alloc (.cells cM.toArray 39))):=by
  refine⟨fun e he=>?_,((((bR.alloc (by (try simp only[TQ]);omega) _).alloc (by (try simp only[TQ]);omega) _).alloc (by (try simp only[TQ]);omega) _).alloc (by (try simp only[TQ]);omega) _),fun e he=>?_⟩
  ·simp only[TW,TV,or_false]at he;rcases he with rfl|rfl|rfl|rfl
   ·exact e0
   ·exact e1
   ·exact e2
   ·exact e3
  ·simp only[TW,TV,or_false]at he;rcases he with rfl|rfl|rfl|rfl<;>simp
 clear e0 e1 e2 e3;have hRw:w.heap.size≤w.heap.size+1+1+1:=by omega
 go_enter Tryz.func30,Tryz.ntmps30
 go_upto_region 1 with fail
 generalize World.alloc _ _=W0 at *;have HHk:=HS0.out.at eX;obtain⟨k0,k1,k2,k3,k4,k5,k6,k7,k8,k9,k10⟩:=HHk.c11;clear HHk;go_wp2_with fail
 refine(HOF.out _).mono ?_;rintro e W1 ⟨rfl,r1⟩;have S2:Hid (dX w ((W1.heap.size,(gE fl))::[(w.heap.size,(bM pa pc p)),(w.heap.size+1,(bF ba ca bo cb x)),(w.heap.size+1+1,(fM tos id whole more off ttl UU src dst opts data)),(w.heap.size+1+1+1,cM)]) (W1.alloc (.cells (gE fl).toArray 43))):=(HS0.out.kept r1).push (gE fl) (by simp) _;clear r1 HS0 HOF k0 k1 k2 k3 k4 k5 k6 k7 k8 k9 k10;go_upto_region 2 with fail
 generalize (W1.alloc (.cells (gE fl).toArray 43))=W2 at *;generalize W1.heap.size=Fb at *;by_cases hc:cd=0
 case neg=>
  have d0:(cd != 0)=true:=by simp[hc]
  have HX:Hid (ans=gW cd):=by unfold Hid;rw[HV.out,if_pos hc]
  go_wp2_with fail
  refine(HIL.out cd _).mono ?_;rintro e W3 ⟨rfl,r3⟩;have S3:Hid _:=S2.out.kept r3;clear r3;obtain⟨HTH,HRR,RB⟩:=pF (show aA W3 (w.heap.size+1+1+1) (fW none none 0 0 (gW 0)) from S3.out.k _ lX) S3.out.b hRw none none 0 0 (gW cd);unfold IY;go_wp2_with (refine wpList_store_mid (by rfl) 39 (.tmp 8) (.tmp 28) (by rfl) _ _ _ (by rfl) (by rfl) HTH.out bZ (fG _ _ _ _ _) ?_)
  exact UQ (aG Tryz.results30 _ _ _ _ _ rfl HRR.out Tryz.underlying39 rfl bZ) rfl (And.intro (by rw[HX.out];exact gM _) RB.out)
 have d0:(cd != 0)=false:=by simp[hc]
 rw[if_neg (by simp[hc])]at HV;replace HGO:Hid _:=HGO.out hc;replace HFM:Hid _:=HFM.out hc;replace HST:Hid _:=HST.out hc;clear hc;go_upto_region 4 with fail
 clear d0;have HHk:=S2.out.at eB;obtain⟨k0,k1,k2,k3,k4,k5,k6,k7,k8,k9⟩:=HHk.c10;clear HHk;have HHl:=S2.out.at eX;obtain⟨l0,l1⟩:=HHl.c2;clear HHl;have HHm:=S2.out.at cO;obtain⟨m0,m1,m2,m3,m4⟩:=HHm.c5;clear HHm;have HHn:=S2.out.at iR;obtain⟨n0,n1,n2,n3,n4,n5,n6,n7,n8,n9,n10⟩:=HHn.c11;clear HHn;have hR2:w.heap.size+1+1+1 < W2.heap.size:=(S2.out.k _ lX).lt (by simp);have hw2:w.heap.size≤W2.heap.size:=S2.out.b.size;go_wp2_with fail
 refine(HGO.out W2 S2.out.b).mono ?_;rintro e W3 ⟨⟨a9,b9,c9,d9,rfl,hown⟩,r3⟩;unfold IP;have S4:Hid (dX w ((W3.heap.size,(xA a9 c9 b9 d9 nv))::[(Fb,(gE fl)),(w.heap.size,(bM pa pc p)),(w.heap.size+1,(bF ba ca bo cb x)),(w.heap.size+1+1,(fM tos id whole more off ttl UU src dst opts data)),(w.heap.size+1+1+1,cM)]) (W3.alloc (.cells (xA a9 c9 b9 d9 nv).toArray 104))):=(S2.out.kept r3).push (xA a9 c9 b9 d9 nv) (by simp) _;have O4:Hid (dD W2.heap.size (W3.alloc (.cells (xA a9 c9 b9 d9 nv).toArray 104)) a9 b9 nv.bib):=hown.kept (bR.alloc lR _);have hx4:W2.heap.size≤W3.heap.size:=r3.size;clear r3 hown S2 HGO k0 k1 k2 k3 k4 k5 k6 k7 k8 k9 l0 l1 m0 m1 m2 m3 m4 n0 n1 n2 n3 n4 n5 n6 n7 n8 n9 n10;go_upto_region 5 with fail
 generalize (W3.alloc (.cells (xA a9 c9 b9 d9 nv).toArray 104))=W4 at *;generalize W3.heap.size=Xb at *;have HHk:=S4.out.at cO;obtain⟨k0,k1,k2,k3,k4,k5,k6,k7⟩:=HHk.c8;clear HHk;by_cases hn:nv.code=0
 case neg=>
  have d0:(nv.code != 0)=true:=by simp[hn]
  have HX:Hid (ans=gW nv.code):=by unfold Hid;rw[HV.out,if_pos hn]
  go_wp2_with fail
  refine(HIL.out nv.code _).mono ?_;rintro e W5 ⟨rfl,r5⟩;have S5:Hid _:=S4.out.kept r5;clear r5;obtain⟨HTH,HRR,RB⟩:=pF (show aA W5 (w.heap.size+1+1+1) (fW none none 0 0 (gW 0)) from S5.out.k _ EX) S5.out.b hRw none none 0 0 (gW nv.code);unfold IY;go_wp2_with (refine wpList_store_mid (by rfl) 39 (.tmp 8) (.tmp 43) (by rfl) _ _ _ (by rfl) (by rfl) HTH.out bZ (fG _ _ _ _ _) ?_)
  exact UQ (aG Tryz.results30 _ _ _ _ _ rfl HRR.out Tryz.underlying39 rfl bZ) rfl (And.intro (by rw[HX.out];exact gM _) RB.out)
 have d0:(nv.code != 0)=false:=by simp[hn]
 rw[if_neg (by simp[hn])]at HV;replace HFM:Hid _:=HFM.out hn;replace HST:Hid _:=HST.out hn;clear hn HIL;go_upto_region 7 with fail
 clear d0 k0 k1 k2 k3 k4 k5 k6 k7;go_cut [12] (fun v wx=>∃g8,v=.pointer (some ⟨g8,0,none⟩)∧aA wx g8 [.string sd,iV 0]∧dX w [(Xb,(xA a9 c9 b9 d9 nv)),(Fb,(gE fl)),(w.heap.size,(bM pa pc p)),(w.heap.size+1,(bF ba ca bo cb x)),(w.heap.size+1+1,(fM tos id whole more off ttl UU src dst opts data)),(w.heap.size+1+1+1,cM)] wx∧dD W2.heap.size wx a9 b9 nv.bib)
 case first=>
  rename_i J K2 hJ hK2;have HCP:Hid (∀wy,Below W4.drew.heap.size W4.drew wy→_):=fun wy hy=>S4.out.kept (bR.drew.trans hy)
  have HOP:Hid (∀wy,Below W4.drew.heap.size W4.drew wy→dD W2.heap.size wy a9 b9 nv.bib):=fun wy hy=>O4.out.kept (bR.drew.trans hy)
  have HLT:Hid (∀e∈([(Xb,(xA a9 c9 b9 d9 nv)),(Fb,(gE fl)),(w.heap.size,(bM pa pc p)),(w.heap.size+1,(bF ba ca bo cb x)),(w.heap.size+1+1,(fM tos id whole more off ttl UU src dst opts data)),(w.heap.size+1+1+1,cM)]:List (Nat × List Value)),e.1 < W4.drew.heap.size):=fun e he=>(S4.out.lts e he).1
  have hww:w.heap.size≤W4.drew.heap.size:=S4.out.b.size;clear S4 O4 HV;refine aN [44,45,46,47,48,49,50,51,52,53,54,55,56,57,12] (by kernel_rfl) (by kernel_rfl) ?_;iterate 13 (apply bC.u rfl;(·intro K' a wy ho hd hb hK;simp[aS,aF,aD,Region.binds]at ho hd;have hst:=HCP.out wy hb;have kC:=(hst.at eB).c5;have kC:=(hst.at cO).c8;have kC:=(hst.at lX).c11;clear hst;go_simp;first|((try go_bits);exact hK _ _ rfl bQ)|(refine(HFM.out wy).mono ?_;rintro e wz ⟨rfl,hz⟩;exact hK _ _ rfl hz));dsimp only[nA,cA])
  (apply bC.u rfl;(·intro K' a wy ho hd hb hK;simp[aS,aF,aD,Region.binds]at ho hd;go_simp;refine(HST.out wy).mono ?_;rintro e wz ⟨rfl,hz⟩;exact hK _ _ rfl hz);dsimp only[nA,cA])
  refine bC.rel (n:=14) (PZ W4.drew.heap.size [eS,iV 0]) (EL _ _ (by simp)) [_,_,_,_,_,_,_,_,_,_,_,_,_,_,PZ W4.drew.heap.size [eS,iV 0]] rfl rfl ?_ ?_
  ·intro K' a wy ho hd hb hK;rw[wN rfl];clear hd ho;go_simp;exact hK _ _ ⟨wy.heap.size,rfl,hb.size,aA.new wy [eS,iV 0] 55⟩ (bR.alloc lR _)
  intro X wz hR hz;obtain⟨x0,x1,x2,x3,x4,x5,x6,x7,x8,x9,x10,x11,x12,x13,x14,-⟩:=hR;obtain⟨g8,e8,b8,y8⟩:=x14;simp only[aF]at x0 x1 x2 x3 x4 x5 x6 x7 x8 x9 x10 x11 x12 x13;simp only[aE,x0,x1,x2,x3,x4,x5,x6,x7,x8,x9,x10,x11,x12,x13,e8];clear x0 x1 x2 x3 x4 x5 x6 x7 x8 x9 x10 x11 x12 x13;have HF1:Hid (aA (stor g8 wz 0 [.string sd,iV 0]) g8 [.string sd,iV 0]):=y8.stor [.string sd,iV 0] rfl;have HF2:Hid (dX w [(Xb,(xA a9 c9 b9 d9 nv)),(Fb,(gE fl)),(w.heap.size,(bM pa pc p)),(w.heap.size+1,(bF ba ca bo cb x)),(w.heap.size+1+1,(fM tos id whole more off ttl UU src dst opts data)),(w.heap.size+1+1+1,cM)] (stor g8 wz 0 [.string sd,iV 0])):=(HCP.out wz hz).stor (by omega) (fun e he=>by have:=HLT.out e he;omega) _;have HF3:Hid (dD W2.heap.size (stor g8 wz 0 [.string sd,iV 0]) a9 b9 nv.bib):=HOP.out _ (Below.stor b8 _ hz);obtain⟨y0,y1⟩:=y8.c2;obtain⟨yf0,yf1⟩:=y8.f2;simp only[stor,Nat.reduceAdd]at HF1 HF2 HF3;clear hz HCP HOP HLT y8;intro K10 hK10;go_simp;refine hK10 _ _ ?_;show Exit.then _ _ _ _ _;refine hK2 _ _ (hJ _ _ ?_);(repeat apply Exists.intro)
  exact⟨⟨g8,rfl,HF1.out,HF2.out,HF3.out⟩,rfl⟩
 case rest=>
 obtain⟨g8,rfl,hD,hS,hO⟩:=hcut;have D5:Hid _:=hD;have S5:Hid (dX w [(Xb,(xA a9 c9 b9 d9 nv)),(Fb,(gE fl)),(w.heap.size,(bM pa pc p)),(w.heap.size+1,(bF ba ca bo cb x)),(w.heap.size+1+1,(fM tos id whole more off ttl UU src dst opts data)),(w.heap.size+1+1+1,cM)] wc):=hS;have O5:Hid _:=hO;have hg8:g8 < wc.heap.size:=hD.lt (by simp);clear hD hS hO S4 O4 HFM HST;generalize wc=W5 at *;have HHk:=S5.out.at cO;obtain⟨k0,k1,k2,k3,k4,k5,k6,k7⟩:=HHk.c8;clear HHk;have HHn:=S5.out.at lX;obtain⟨n0,n1,n2,n3,n4,n5,n6,n7,n8,n9,n10⟩:=HHn.c11;obtain⟨-,-,-,-,-,-,-,nf7,-,-,nf10⟩:=HHn.f11;have dd0:=D5.out.cell (j:=0) rfl;have hxq:Xb≠w.heap.size+1+1:=by omega
 have S6:Hid (dX w [(w.heap.size+1+1,(fM tos id whole more off ttl UU nv.bind.out dst opts sd)),(Xb,(xA a9 c9 b9 d9 nv)),(w.heap.size+1+1+1,cM)] ((sW W5 (w.heap.size+1+1) 7 (.string nv.bind.out)).setCell ⟨w.heap.size+1+1,10,none⟩ (.string sd))):=⟨fun e he=>by
  simp only[TW,TV,or_false]at he;rcases he with rfl|rfl|rfl
  ·exact(HHn.set 7 (.string nv.bind.out)).set 10 (.string sd)
  ·exact aA.setOther (aA.setOther (S5.out.k _ cO) hxq _) hxq _
  ·exact aA.setOther (aA.setOther (S5.out.k _ EX) (by show w.heap.size+1+1+1≠w.heap.size+1+1;omega) _) (by show w.heap.size+1+1+1≠w.heap.size+1+1;omega) _,(sCl S5.out.b (by show w.heap.size≤w.heap.size+1+1;omega)).setCell (p:=⟨w.heap.size+1+1,10,none⟩) (by show w.heap.size≤w.heap.size+1+1;omega) _,fun e he=>by
  simp only[TW,TV,or_false]at he;rcases he with rfl|rfl|rfl<;>simp⟩
 have O6:Hid (dD W2.heap.size ((sW W5 (w.heap.size+1+1) 7 (.string nv.bind.out)).setCell ⟨w.heap.size+1+1,10,none⟩ (.string sd)) a9 b9 nv.bib):=⟨O5.out.bd.grown (aC (aC (World.grownBy.refl _ _) _) _) (by omega),O5.out.ss.grown (aC (aC (World.grownBy.refl _ _) _) _) (by omega),O5.out.ne⟩;clear HHn;go_upto_region 10 with fail
 generalize ((sW W5 (w.heap.size+1+1) 7 (.string nv.bind.out)).setCell ⟨w.heap.size+1+1,10,none⟩ (.string sd))=W6 at *;clear S5 O5 D5 dd0 nf7 nf10 hg8 k0 k1 k2 k3 k4 k5 k6 k7 n0 n1 n2 n3 n4 n5 n6 n7 n8 n9 n10;have HHn:=S6.out.at cO;obtain⟨n0,n1,n2,n3,n4,n5,n6,n7,n8,n9,n10⟩:=HHn.c11;clear HHn;have HHk:=S6.out.at eB;obtain⟨k0,k1,k2,k3,k4,k5,k6,k7⟩:=HHk.c8;clear HHk;obtain⟨HTH,HRR,RB⟩:=pF (show aA W6 (w.heap.size+1+1+1) (fW none none 0 0 (gW 0)) from S6.out.k _ eX) S6.out.b hRw a9 b9 c9 d9 ⟨nv.bib,⟨tos,id,whole,more,off,ttl,UU,nv.bind.out,dst,opts,sd⟩,gZ,0⟩;have HOW:Hid (dD w.heap.size (W6.setCells (w.heap.size+1+1+1) 0 (fW a9 b9 c9 d9 ⟨nv.bib,⟨tos,id,whole,more,off,ttl,UU,nv.bind.out,dst,opts,sd⟩,gZ,0⟩).toArray.toList) a9 b9 nv.bib):=(dD.mid O6.out hR2 _).lowN hw2;clear O6 S6;go_wp2_with (refine wpList_store_mid (by rfl) 39 (.tmp 8) (.tmp 68) (by rfl) _ _ _ (by rfl) (by rfl) HTH.out bZ (fG _ _ _ _ _) ?_)
 exact UQ (aG Tryz.results30 _ _ _ _ _ rfl HRR.out Tryz.underlying39 rfl bZ) rfl (And.intro (by rw[HV.out];exact⟨a9,b9,c9,d9,rfl,HOW.out⟩) RB.out)
theorem FK(VB:Int)(w:World) :
  Cw 167 #[iV VB] w (.bool (decide (bits .and .i64 VB 22=2))):=by
 by_cases h:bits .and .i64 VB 22=2
 ·go_enter Tryz.func167,Tryz.ntmps167
  go_wp2_with fail
  go_ret;exact⟨aB (by simp[h]),rfl⟩
 ·go_enter Tryz.func167,Tryz.ntmps167
  go_wp2_with fail
  go_ret;exact⟨aB (by simp[h]),rfl⟩
theorem MO{UU:Int}{UY:Bool}{VB:Int}(hf:aM VB 0 255=true):bB UU UY VB=if cY UU=true then 3 else if UU=6 then (if bits .and .i64 VB 22=2 then (if UY=true then 1 else 2) else 0) else 0:=by
 unfold bB;have e:=CQ hf;rw[if_neg (by rw[hf];decide)];by_cases h1:cY UU=true
 ·rw[if_pos h1,if_pos h1]
 ·rw[if_neg h1,if_neg h1];by_cases h2:UU=6
  ·rw[if_pos h2];by_cases h3:bits .and .i64 VB 22=2
   ·rw[if_pos h3,if_pos ⟨h2,e.mpr h3⟩]
   ·rw[if_neg h3,if_neg (fun h=>h3 (e.mp h.2))]
  ·rw[if_neg h2,if_neg (fun h=>h2 h.1)]
theorem KD(UU:Int)(UY:Bool)(VB:Int):0≤bB UU UY VB∧bB UU UY VB≤3:=by
 unfold bB;(repeat' split)<;>omega
theorem zY(UU:Int)(UY:Bool)(VB:Int)(w:World)(hf:aM VB 0 255=true) :
  Cw 139 #[iV UU,.bool UY,iV VB] w (iV (bB UU UY VB)):=by
 have HA:Hid (∀W,Cw 143 #[iV UU] W (.bool (cY UU))):=fun W=>nJ _ W
 have HC:Hid (∀W,Cw 121 #[iV VB] W (.bool (aM VB 0 255))):=fun W=>jK _ W
 have HB:Hid (∀W,Cw 167 #[iV VB] W (.bool (decide (bits .and .i64 VB 22=2)))):=fun W=>FK _ W
 have HV:Hid (bB UU UY VB=if cY UU=true then 3 else if UU=6 then (if bits .and .i64 VB 22=2 then (if UY=true then 1 else 2) else 0) else 0):=MO hf;rw[hf]at HC;generalize bB UU UY VB=ans at *;clear hf
 cases hs:cY UU with
 | true=>
  rw[hs]at HA;have HX:Hid (ans=3):=by unfold Hid;rw[HV.out,if_pos hs]
  clear HV hs;go_enter Tryz.func139,Tryz.ntmps139
  go_wp2_with fail
  refine(HA.out _).mono ?_;rintro e w1 ⟨rfl,rfl⟩;go_wp2_with fail
  go_ret;exact⟨aK HX.out.symm,rfl⟩
 | false=>
  rw[hs,if_neg (by decide)]at HV;rw[hs]at HA;clear hs;by_cases hp:UU=6
  ·subst hp;rw[if_pos rfl]at HV;by_cases hb:bits .and .i64 VB 22=2
   ·rw[if_pos hb]at HV;rw[TT hb]at HB;clear hb
    cases UY;all_goals
     simp at HV;go_enter Tryz.func139,Tryz.ntmps139
     go_wp2_with fail
     refine(HA.out _).mono ?_;rintro e w1 ⟨rfl,rfl⟩;go_wp2_with fail
     refine(HC.out _).mono ?_;rintro e w1 ⟨rfl,rfl⟩;go_wp2_with fail
     refine(HB.out _).mono ?_;rintro e w1 ⟨rfl,rfl⟩;go_wp2_with fail
     go_ret;exact⟨aK HV.out.symm,rfl⟩
   ·rw[if_neg hb]at HV;rw[TR hb]at HB;clear hb;go_enter Tryz.func139,Tryz.ntmps139
    go_wp2_with fail
    refine(HA.out _).mono ?_;rintro e w1 ⟨rfl,rfl⟩;go_wp2_with fail
    refine(HC.out _).mono ?_;rintro e w1 ⟨rfl,rfl⟩;go_wp2_with fail
    refine(HB.out _).mono ?_;rintro e w1 ⟨rfl,rfl⟩;go_wp2_with fail
    go_ret;exact⟨aK HV.out.symm,rfl⟩
  ·rw[if_neg hp]at HV;go_enter Tryz.func139,Tryz.ntmps139
   go_wp2_with fail
   refine(HA.out _).mono ?_;rintro e w1 ⟨rfl,rfl⟩;go_wp2_with fail
   go_ret;exact⟨aK HV.out.symm,rfl⟩
theorem wW(t:Tc)(w:World)(hs1:t.addr.size≤1048576)(hs2:t.peer.size≤1048576) :
  Cb 105 #[qF t] w (.bool (bY t)):=by
 obtain⟨UU,UY,addr,port,peer,UV,VB⟩:=t;dsimp only at hs1 hs2;have HZ:Hid (Below w.heap.size w (w.alloc (.cells (eO UU UY addr port peer UV VB).toArray 89))):=bR.alloc lR _;have HT:Hid (aA (w.alloc (.cells (eO UU UY addr port peer UV VB).toArray 89)) w.heap.size (eO UU UY addr port peer UV VB)):=aA.new w (eO UU UY addr port peer UV VB) 89;have H1:Hid (∀W,Cw 136 #[iV UU] W (.bool (eP UU))):=fun W=>uE _ W
 have H2:Hid (∀W,Cw 129 #[.string addr] W (.bool (cI addr))):=fun W=>kO addr W
 have H3:Hid (∀W,Cw 122 #[iV port] W (.bool (jS port))):=fun W=>dO _ W
 have H4:Hid (∀W,Cw 122 #[iV UV] W (.bool (jS UV))):=fun W=>dO _ W
 have H5:Hid (∀W,Cw 121 #[iV VB] W (.bool (aM VB 0 255))):=fun W=>jK _ W
 have HV:Hid (bY ⟨UU,UY,addr,port,peer,UV,VB⟩=(eP UU&&cI addr&&(UY||decide (addr.size=4))&&jS port&&decide (peer.size=4)&&jS UV&&aM VB 0 255)):=rfl;generalize bY ⟨UU,UY,addr,port,peer,UV,VB⟩=ans at *;generalize eP UU=b1 at *;generalize cI addr=b2 at *;generalize jS port=b3 at *;generalize jS UV=b4 at *;generalize aM VB 0 255=b5 at *;unfold qF;go_enter Tryz.func105,Tryz.ntmps105
 go_upto_region 1 with fail
 generalize (w.alloc (.cells (eO UU UY addr port peer UV VB).toArray 89))=W at *;obtain⟨k0,k1,k2,k3,k4,k5,k6⟩:=HT.out.c7;clear HT;go_wp2_with fail
 refine(H1.out _).mono ?_;rintro e W ⟨rfl,rfl⟩
 cases b1 with
 | false=>
  go_wp2_with fail
  go_ret;exact⟨aB (by rw[HV.out];rfl),HZ.out⟩
 | true=>
 go_wp2_with fail
 refine(H2.out _).mono ?_;rintro e W ⟨rfl,rfl⟩
 cases b2 with
 | false=>
  go_wp2_with fail
  go_ret;exact⟨aB (by rw[HV.out];rfl),HZ.out⟩
 | true=>
 by_cases hi:UY=false∧¬addr.size=4
 ·obtain⟨rfl,ha⟩:=hi;have haI:¬(addr.size:Int)=4:=by omega
  go_wp2_with fail
  go_ret;exact⟨aB (by rw[HV.out,TR ha];rfl),HZ.out⟩
 have HI:Hid ((UY||decide (addr.size=4))=true):=by
  unfold Hid
  cases UY with
  | true=>rfl
  | false=>simp at hi;simp[hi]
 have hsp:UY=true∨(UY=false∧addr.size=4):=by
  cases UY with
  | true=>exact .inl rfl
  | false=>simp at hi;exact .inr ⟨rfl,hi⟩
 clear hi;have HV2:Hid (ans=(b3&&decide (peer.size=4)&&b4&&b5)):=by unfold Hid;rw[HV.out,HI.out];rfl
 clear HV HI;rcases hsp with rfl|⟨rfl,ha⟩
 all_goals
  try have haI:(addr.size:Int)=4:=by omega
  go_wp2_with fail
  refine(H3.out _).mono ?_;rintro e W ⟨rfl,rfl⟩
  cases b3 with
  | false=>
   go_wp2_with fail
   go_ret;exact⟨aB (by rw[HV2.out];rfl),HZ.out⟩
  | true=>
  go_wp2_with fail
  refine(H4.out _).mono ?_;rintro e W ⟨rfl,rfl⟩
  cases b4 with
  | false=>
   go_wp2_with fail
   go_ret;exact⟨aB (by rw[HV2.out];simp),HZ.out⟩
  | true=>
  by_cases hp:peer.size=4
  ·have HX:Hid (ans=b5):=by unfold Hid;rw[HV2.out,TT hp];rfl
   have hpI:(peer.size:Int)=4:=by omega
   go_wp2_with fail
   refine(H5.out _).mono ?_;rintro e W ⟨rfl,rfl⟩;go_wp2_with fail
   go_ret;exact⟨aB HX.out.symm,HZ.out⟩
  ·have HX:Hid (ans=false):=by unfold Hid;rw[HV2.out,TR hp];rfl
   have hpI:¬(peer.size:Int)=4:=by omega
   go_wp2_with fail
   go_ret;exact⟨aB HX.out.symm,HZ.out⟩
theorem GB(pa:OA)(pc:Nat)(p:Pl)(ba bo:OA)(ca cb:Nat)(x:Bb)(m1 m2:Nat)(t:Tc)(w:World)(he:qU ⟨t.UU,t.addr,t.port⟩)(hbk:dF w m1 m2 x.VC x.VC) :
  Cb 106 #[CF pa pc p ba bo ca cb x m1 m2,qF t] w (.tuple #[qV (cH x t).1,.bool (cH x t).2]):=by
 obtain⟨UU,UY,addr,port,peer,UV,VB⟩:=t;dsimp only at he;obtain⟨c,hc⟩: ∃c,c=(x.VC.find? (dE UU addr port)).getD lT:=⟨_,rfl⟩;have HLK:Hid (∀W,Below w.heap.size w W→(Instr.lookup 137 (.map (some m2)) (.agg (iE UU addr port).toArray) true).run Tryz.prog W=.ok (.tuple #[.agg (dH c).toArray,.bool (x.VC.find? (dE UU addr port)).isSome]) W):=fun W hW=>by
  have hl:=(hbk.kept hW).look2 (e:=⟨UU,addr,port⟩) he;rw[show (fun q=>bU (iY q) ⟨UU,addr,port⟩)=dE UU addr port from funext fun c=>sK _ _ _ c,←hc]at hl;exact hl
 have HHE:Hid (∀W,Cb 53 #[.agg (dH c).toArray] W (.agg (iE c.UU c.inn c.UW).toArray)):=fun W=>nC c W
 have HV:Hid (cH x ⟨UU,UY,addr,port,peer,UV,VB⟩=if UY=true then (⟨UU,addr,port⟩,true) else (⟨c.UU,c.inn,c.UW⟩,(x.VC.find? (dE UU addr port)).isSome)):=by rw[hc];rfl
 generalize cH x ⟨UU,UY,addr,port,peer,UV,VB⟩=ans at *;generalize (x.VC.find? (dE UU addr port)).isSome=fd at *;clear hc he hbk;have hRw:w.heap.size≤w.heap.size+1+1:=by omega
 have hun:undef=Value.tuple #[]:=rfl;have HS0:=RD w (iF pa pc p ba ca bo cb x m1 m2) 139 (eO UU UY addr port peer UV VB) 89 (iE 0 ⟨#[]⟩ 0) 86 (by simp) (by simp) (by simp)
 skip;unfold CF qF;go_enter Tryz.func106,Tryz.ntmps106
 go_upto_region 1 with fail
 generalize World.alloc _ _=W at *;have HHt:=HS0.out.at eB;obtain⟨t0,t1,t2,t3,t4,t5,t6⟩:=HHt.c7;clear HHt;go_upto_region 2 with fail
 have S1:Hid _:=HS0.out.push (iE UU addr port) (by simp) 86;generalize hW1:W.alloc _=W1 at *;clear hW1 HS0 t0 t1 t2 t3 t4 t5 t6;generalize W.heap.size=Be at *
 cases UY with
 | true=>
  have HX:Hid (ans=(⟨UU,addr,port⟩,true)):=HV.out;clear HV;have HHt:=S1.out.at eX;have t1:=HHt.cell (j:=1) rfl;clear HHt;have HHn:=S1.out.at cO;obtain⟨n0,n1,n2⟩:=HHn.c3;clear HHn;have HHz:=S1.out.at iR;obtain⟨z0,z1,z2⟩:=HHz.c3;obtain⟨zf0,zf1,zf2⟩:=HHz.f3;go_wp2_with fail
  refine UQ (v:=.tuple #[.agg (iE UU addr port).toArray,.bool true]) (by simp[results,Tryz.results106,go_sem,z0,z1,z2]) rfl (And.intro (by rw[HX.out];rfl) ?_);exact(sCl (sCl (sCl S1.out.b hRw) hRw) hRw)
 | false=>
  have HX:Hid (ans=(⟨c.UU,c.inn,c.UW⟩,fd)):=HV.out;clear HV;have HHt:=S1.out.at eX;have t1:=HHt.cell (j:=1) rfl;clear HHt;have HHn:=S1.out.at cO;obtain⟨n0,n1,n2⟩:=HHn.c3;clear HHn;have HHk:=S1.out.at eB;have k13:=HHk.cell (j:=13) rfl;clear HHk;have LK:=HLK.out W1 S1.out.b;go_upto_region 5 with (at_lookup;refine iS rfl _ _ _ _ rfl rfl rfl LK ?_)
  have S2:Hid _:=S1.out.push (dH c) (by simp) 48;generalize hW2:W1.alloc _=W2 at *;clear hW2 S1 LK HLK n0 n1 n2 k13 t1;generalize W1.heap.size=Bc at *;have HHy:=S2.out.at cO;obtain⟨y0,y1,y2,y3,y4⟩:=HHy.c5;clear HHy;go_wp2_with fail
  refine(HHE.out _).mono ?_;rintro e W3 ⟨rfl,q3⟩;have S3:Hid _:=S2.out.kept q3;clear q3 S2 HHE y0 y1 y2 y3 y4;have HHz:=S3.out.at lX;obtain⟨z0,z1,z2⟩:=HHz.c3;obtain⟨zf0,zf1,zf2⟩:=HHz.f3;go_wp2_with fail
  refine UQ (v:=.tuple #[.agg (iE c.UU c.inn c.UW).toArray,.bool fd]) (by simp[results,Tryz.results106,go_sem,z0,z1,z2]) rfl (And.intro (by rw[HX.out];rfl) ?_);exact(sCl (sCl (sCl S3.out.b hRw) hRw) hRw)
theorem BU(q:Ss)(h:En)(s:BA)(B1 B2:Nat)(w:World)(hk0:aA w B1 (LC h))(hk1:aA w B2 [.string s]) :
  Cb 169 #[wR q,.pointer (some ⟨B1,0,none⟩),.pointer (some ⟨B2,0,none⟩)] w (.bool (vV h s q)):=by
 have HF:Hid (∀W,Cb 134 #[.agg (iB q).toArray] W (.agg (iW q.UU q.inn q.UW q.peer q.UV).toArray)):=fun W=>nG q W
 have HE:Hid (∀W,(binOp .eql 86 (.agg (iE q.UU q.inn q.UW).toArray) (.agg (iE h.UU h.addr h.port).toArray)).run Tryz.prog W=.ok (.bool (bU (gT q) h)) W):=fun W=>CN (gT q) h W
 have HFL:Hid (∀W,Sem.run Tryz.prog (Instr.field 147 (.agg (iW q.UU q.inn q.UW q.peer q.UV).toArray) 0) W=.ok (.agg (iE q.UU q.inn q.UW).toArray) W):=fun W=>by kernel_rfl
 have HV:Hid (vV h s q=(bU (gT q) h&&decide (q.peer.toList=s.toList))):=rfl;generalize vV h s q=ans at *;generalize bU (gT q) h=b at *;have HZ:Hid (Below w.heap.size w (w.alloc (.cells (iB q).toArray 59))):=bR.alloc lR _;have HQ:Hid (aA (w.alloc (.cells (iB q).toArray 59)) w.heap.size (iB q)):=aA.new w (iB q) 59;have HK0:Hid (aA (w.alloc (.cells (iB q).toArray 59)) B1 (iE h.UU h.addr h.port)):=aA.alloc (cs:=(iE h.UU h.addr h.port)) hk0 _;have HK1:Hid (aA (w.alloc (.cells (iB q).toArray 59)) B2 [.string s]):=hk1.alloc _;clear hk0 hk1;unfold wR;go_enter Tryz.func169,Tryz.ntmps169
 go_upto_region 1 with fail
 generalize (w.alloc (.cells (iB q).toArray 59))=W at *;go_cut [4] (fun v wx=>v=.bool ans∧Below w.heap.size w wx)
 case first=>
  rename_i J K2 hJ hK2;have HCP:Hid (∀wy,Below W.drew.heap.size W.drew wy→aA wy w.heap.size (iB q)∧aA wy B1 (iE h.UU h.addr h.port)∧aA wy B2 [.string s]):=fun wy hy=>⟨HQ.out.drew.kept (by simp) hy,HK0.out.drew.kept (by simp) hy,HK1.out.drew.kept (by simp) hy⟩
  cases b with
  | false=>
   have HX:Hid (ans=false):=HV.out;clear HV;refine bH [5,6,7,8,9,10,11,12,13,14,15,4] (by kernel_rfl) (by kernel_rfl) ?_;iterate 2 (apply cW.u rfl;(·intro K' a wy ho hd hb hK;simp[aS,aF,aD,Region.binds]at ho hd;obtain⟨hq,h0,h1⟩:=HCP.out wy hb;have kC:=hq.c7;have kC:=h0.c3;have m0:=h1.cell (j:=0) rfl;go_simp;first|((try go_bits);exact hK _ _ rfl bQ)|(refine(HF.out wy).mono ?_;rintro e wz ⟨rfl,hz⟩;exact hK _ _ rfl hz));dsimp only[nA,cA])
   (apply cW.u rfl;(·intro K' a wy ho hd hb hK;simp[aS,aF,aD,Region.binds]at ho hd;have hfl:=HFL.out wy;go_simp;(try go_bits);exact hK _ _ rfl bQ);dsimp only[nA,cA])
   (apply cW.u rfl;(·intro K' a wy ho hd hb hK;simp[aS,aF,aD,Region.binds]at ho hd;obtain⟨hq,h0,h1⟩:=HCP.out wy hb;have kC:=hq.c7;have kC:=h0.c3;have m0:=h1.cell (j:=0) rfl;go_simp;(try go_bits);exact hK _ _ rfl bQ);dsimp only[nA,cA])
   apply cW.v4
   ·rfl
   ·intro K' a wy ho hd hb hK kz;have q2:=hd ⟨2,.data⟩ (by simp) rfl;have q3:=hd ⟨3,.data⟩ (by simp) rfl;simp[aS,aF,aD]at q2 q3;clear hd ho;refine jH .eql 86 86 (.tmp 7) (.tmp 8) rfl (by simp[Act.eval,aD,q2]) (by simp[Act.eval,aD,q3]) (run_eqGuard_agg _ _ _ _ _ _ _ (by kernel_rfl)) (HE.out wy) ?_;exact kz _ rfl
   iterate 7 ((first|(refine cW.n rfl rfl rfl rfl rfl (by simp) ?_)|(apply cW.u rfl;(·intro K' a wy ho hd hb hK;simp[aS,aF,aD,Region.binds]at ho hd;go_simp;(try go_bits);exact hK _ _ rfl bQ)));dsimp only[nA,cA])
   intro X wz hR hz;simp only[UB,UC,eW,aF]at hR;simp only[aE,hR];clear hR;go_simp;try go_bits
   refine hK2 _ _ (hJ _ _ ?_);(repeat apply Exists.intro)
   refine⟨⟨by rw[HX.out],HZ.out.drew.trans (hz.mono HZ.out.size)⟩,rfl⟩
  | true=>
   have HX:Hid (ans=decide (q.peer.toList=s.toList)):=by unfold Hid;rw[HV.out];rfl
   clear HV;by_cases hs:q.peer.toList=s.toList
   case pos=>
    have hs2:(q.peer.toList==s.toList)=true:=by simp[hs]
    rw[TT hs]at HX;clear hs;refine bH [5,6,7,8,9,10,11,12,13,14,15,4] (by kernel_rfl) (by kernel_rfl) ?_;iterate 2 (apply cW.u rfl;(·intro K' a wy ho hd hb hK;simp[aS,aF,aD,Region.binds]at ho hd;obtain⟨hq,h0,h1⟩:=HCP.out wy hb;have kC:=hq.c7;have kC:=h0.c3;have m0:=h1.cell (j:=0) rfl;go_simp;first|((try go_bits);exact hK _ _ rfl bQ)|(refine(HF.out wy).mono ?_;rintro e wz ⟨rfl,hz⟩;exact hK _ _ rfl hz));dsimp only[nA,cA])
    (apply cW.u rfl;(·intro K' a wy ho hd hb hK;simp[aS,aF,aD,Region.binds]at ho hd;have hfl:=HFL.out wy;go_simp;(try go_bits);exact hK _ _ rfl bQ);dsimp only[nA,cA])
    (apply cW.u rfl;(·intro K' a wy ho hd hb hK;simp[aS,aF,aD,Region.binds]at ho hd;obtain⟨hq,h0,h1⟩:=HCP.out wy hb;have kC:=hq.c7;have kC:=h0.c3;have m0:=h1.cell (j:=0) rfl;go_simp;(try go_bits);exact hK _ _ rfl bQ);dsimp only[nA,cA])
    apply cW.v4
    ·rfl
    ·intro K' a wy ho hd hb hK kz;have q2:=hd ⟨2,.data⟩ (by simp) rfl;have q3:=hd ⟨3,.data⟩ (by simp) rfl;simp[aS,aF,aD]at q2 q3;clear hd ho;refine jH .eql 86 86 (.tmp 7) (.tmp 8) rfl (by simp[Act.eval,aD,q2]) (by simp[Act.eval,aD,q3]) (run_eqGuard_agg _ _ _ _ _ _ _ (by kernel_rfl)) (HE.out wy) ?_;exact kz _ rfl
    iterate 7 ((first|apply cW.u rfl|apply cW.g rfl rfl rfl rfl rfl (by simp));(·intro K' a wy ho hd hb hK;simp[aS,aF,aD,Region.binds]at ho hd;obtain⟨hq,h0,h1⟩:=HCP.out wy hb;have kC:=hq.c7;have kC:=h0.c3;have m0:=h1.cell (j:=0) rfl;go_simp;(try go_bits);exact hK _ _ rfl bQ);dsimp only[nA,cA])
    intro X wz hR hz;simp only[UB,UC,eW,aF]at hR;simp only[aE,hR];clear hR;go_simp;try go_bits
    refine hK2 _ _ (hJ _ _ ?_);(repeat apply Exists.intro)
    refine⟨⟨by rw[HX.out],HZ.out.drew.trans (hz.mono HZ.out.size)⟩,rfl⟩
   case neg=>
    have hs2:(q.peer.toList==s.toList)=false:=by simp[hs]
    rw[TR hs]at HX;clear hs;refine bH [5,6,7,8,9,10,11,12,13,14,15,4] (by kernel_rfl) (by kernel_rfl) ?_;iterate 2 (apply cW.u rfl;(·intro K' a wy ho hd hb hK;simp[aS,aF,aD,Region.binds]at ho hd;obtain⟨hq,h0,h1⟩:=HCP.out wy hb;have kC:=hq.c7;have kC:=h0.c3;have m0:=h1.cell (j:=0) rfl;go_simp;first|((try go_bits);exact hK _ _ rfl bQ)|(refine(HF.out wy).mono ?_;rintro e wz ⟨rfl,hz⟩;exact hK _ _ rfl hz));dsimp only[nA,cA])
    (apply cW.u rfl;(·intro K' a wy ho hd hb hK;simp[aS,aF,aD,Region.binds]at ho hd;have hfl:=HFL.out wy;go_simp;(try go_bits);exact hK _ _ rfl bQ);dsimp only[nA,cA])
    (apply cW.u rfl;(·intro K' a wy ho hd hb hK;simp[aS,aF,aD,Region.binds]at ho hd;obtain⟨hq,h0,h1⟩:=HCP.out wy hb;have kC:=hq.c7;have kC:=h0.c3;have m0:=h1.cell (j:=0) rfl;go_simp;(try go_bits);exact hK _ _ rfl bQ);dsimp only[nA,cA])
    apply cW.v4
    ·rfl
    ·intro K' a wy ho hd hb hK kz;have q2:=hd ⟨2,.data⟩ (by simp) rfl;have q3:=hd ⟨3,.data⟩ (by simp) rfl;simp[aS,aF,aD]at q2 q3;clear hd ho;refine jH .eql 86 86 (.tmp 7) (.tmp 8) rfl (by simp[Act.eval,aD,q2]) (by simp[Act.eval,aD,q3]) (run_eqGuard_agg _ _ _ _ _ _ _ (by kernel_rfl)) (HE.out wy) ?_;exact kz _ rfl
    iterate 7 ((first|apply cW.u rfl|apply cW.g rfl rfl rfl rfl rfl (by simp));(·intro K' a wy ho hd hb hK;simp[aS,aF,aD,Region.binds]at ho hd;obtain⟨hq,h0,h1⟩:=HCP.out wy hb;have kC:=hq.c7;have kC:=h0.c3;have m0:=h1.cell (j:=0) rfl;go_simp;(try go_bits);exact hK _ _ rfl bQ);dsimp only[nA,cA])
    intro X wz hR hz;simp only[UB,UC,eW,aF]at hR;simp only[aE,hR];clear hR;go_simp;try go_bits
    refine hK2 _ _ (hJ _ _ ?_);(repeat apply Exists.intro)
    refine⟨⟨by rw[HX.out],HZ.out.drew.trans (hz.mono HZ.out.size)⟩,rfl⟩
 case rest=>
  obtain⟨rfl,hb⟩:=hcut;have HB:Hid (Below w.heap.size w wc):=hb;clear hb;go_wp2_with fail
  go_ret;exact⟨rfl,HB.out⟩
theorem FI(pa:OA)(pc:Nat)(p:Pl)(ba bo:OA)(ca cb:Nat)(x:Bb)(m1 m2:Nat)(h:En)(s:BA)(w:World)(hl2:x.UZ.length≤1048576)(hx:dI w ba bo x) :
  Cb 140 #[CF pa pc p ba bo ca cb x m1 m2,qV h,.string s] w (.bool (kZ p x h s)):=by
 have HC:Hid (∀W B1 B2,Below w.heap.size w W→aA W B1 (LC h)→aA W B2 [.string s]→Cb 168 #[.slice bo x.UZ.length cb,.func (.func 169) #[] #[.pointer (some ⟨B1,0,none⟩),.pointer (some ⟨B2,0,none⟩)]] W (.bool (x.UZ.any (vV h s)))):=fun W B1 B2 hW h1 h2=>uA (vV h s) 169 (fun args W=>by kernel_rfl) #[.pointer (some ⟨B1,0,none⟩),.pointer (some ⟨B2,0,none⟩)] x.UZ bo cb W hl2 (hx.ss.below hW) (fun W' hW' q hq=>BU q h s B1 B2 W' (h1.kept (by simp[LC]) hW') (h2.kept (by simp) hW'))
 have HV:Hid (kZ p x h s=if p.filter=0 then true else if p.filter=1 then x.UZ.any (vV h s) else false):=rfl;generalize kZ p x h s=ans at *;generalize x.UZ.any (vV h s)=an at *;clear hx;have HS0:=RD w (iF pa pc p ba ca bo cb x m1 m2) 139 (iE h.UU h.addr h.port) 86 [.string s] 9 (by simp) (by simp) (by simp)
 skip;unfold CF qV;go_enter Tryz.func140,Tryz.ntmps140
 go_upto_region 1 with fail
 generalize World.alloc _ _=W at *;have HHk:=HS0.out.at cO;obtain⟨k0,k1,k2,k3,k4,k5,k6,k7,k8,k9,k10,k11,k12,k13⟩:=HHk.c14;clear HHk;by_cases h0:p.filter=0
 case pos=>
  have d0:(p.filter==0)=true:=by simp[h0]
  have HX:Hid (ans=true):=by unfold Hid;rw[HV.out,if_pos h0]
  clear h0 HV;go_wp2_with fail
  go_ret;exact⟨aB HX.out.symm,HS0.out.b⟩
 have d0:(p.filter==0)=false:=by simp[h0]
 by_cases h1:p.filter=1
 case neg=>
  have d1:(p.filter==1)=false:=by simp[h1]
  have HX:Hid (ans=false):=by unfold Hid;rw[HV.out,if_neg h0,if_neg h1]
  clear h0 h1 HV;go_wp2_with fail
  go_ret;exact⟨aB HX.out.symm,HS0.out.b⟩
 have d1:(p.filter==1)=true:=by simp[h1]
 have HX:Hid (ans=an):=by unfold Hid;rw[HV.out,if_neg h0,if_pos h1]
 clear h0 h1 HV;go_wp2_with fail
 refine(HC.out _ _ _ HS0.out.b (HS0.out.k _ eB) (HS0.out.k _ eX)).mono ?_;rintro e W1 ⟨rfl,q1⟩;have B1:Hid (Below w.heap.size w W1):=HS0.out.b.trans (q1.mono HS0.out.b.size);clear q1 HS0;go_wp2_with fail
 go_ret;exact⟨aB HX.out.symm,B1.out⟩
theorem qW(x:Bb)(ba bo:OA)(ca cb:Nat)(w:World)(hbl1:x.VC.length≤1048576)(hbl2:x.UZ.length≤1048576)(hgb:∀q∈x.VC,fJ q)(hgs:∀s∈x.UZ,iM s)(hx:dI w ba bo x) :
  Calls Tryz.prog 109 #[iQ ba bo ca cb x] w fun e w'=>oA w.heap.size x e w'∧Below w.heap.size w w':=by
 have HSX:Hid (dI w ba bo x):=hx;have HGB:Hid (∀q∈x.VC,fJ q):=hgb;have HGS:Hid (∀s∈x.UZ,iM s):=hgs;have hRw:w.heap.size≤w.heap.size+1:=by omega
 clear hx hgb hgs;have HS0:=SC w (bF ba ca bo cb x) 31 [.slice none 0 0,.slice none 0 0] 31 (by simp) (by simp)
 skip;have hun:undef=Value.tuple #[]:=rfl;unfold iQ;go_enter Tryz.func109,Tryz.ntmps109
 go_upto_region 1 with fail
 generalize World.alloc _ _=W at *;have hlt1:w.heap.size+1 < W.heap.size:=(HS0.out.lts _ eB).1;go_upto_region 2 with fail
 have HS1:Hid (gX w (W.alloc (.cells #[.slice none 0 0,.slice none 0 0] 31)).heap.size W.heap.size [(w.heap.size,(bF ba ca bo cb x)),(w.heap.size+1,[.slice none 0 0,.slice none 0 0])] (.slice none 0 0) (.slice none 0 0) [] [] (W.alloc (.cells #[.slice none 0 0,.slice none 0 0] 31))):=by
  have bn:Below W.heap.size W (W.alloc (.cells #[.slice none 0 0,.slice none 0 0] 31)):=bR.alloc lR _;have hn:=aA.new W [.slice none 0 0,.slice none 0 0] 31;refine gX.start [(w.heap.size,(bF ba ca bo cb x)),(w.heap.size+1,[.slice none 0 0,.slice none 0 0])] hn (HS0.out.kept bn).b (HS0.out.kept bn).k (by omega) (fun e he=>?_);simp only[TW,TV,or_false]at he;rcases he with rfl|rfl
  ·refine⟨by simp;omega,by show w.heap.size≠_;omega,by simp⟩
  ·refine⟨by simp;omega,by show w.heap.size+1≠_;omega,by simp⟩
 clear HS0;generalize (W.alloc (.cells #[.slice none 0 0,.slice none 0 0] 31))=W3 at *;generalize W3.heap.size=base at *;have hO:w.heap.size+1 < W.heap.size:=hlt1;clear hlt1;generalize W.heap.size=O at *;have c0:W3.cell? ⟨w.heap.size,0,none⟩=some (.slice ba x.VC.length ca):=(show aA W3 w.heap.size (bF ba ca bo cb x) from HS1.out.k _ (List.mem_cons_self ..)).cell rfl;go_wp2_with fail
 clear c0;go_loopw [11] (fun iv wr=>∃(i:Nat) (v:Value),i≤x.VC.length∧iv=iV i∧gX w base O [(w.heap.size,(bF ba ca bo cb x)),(w.heap.size+1,[.slice none 0 0,.slice none 0 0])] v (.slice none 0 0) (x.VC.take i) ([]) wr) (fun iv _=>x.VC.length-(intOf iv).toNat)
 case atStart=>exact⟨0,_,UR _,rfl,HS1.out⟩
 case round=>
  obtain⟨i,v,hi,rfl,hS⟩:=hrel;have S1:Hid _:=hS;clear hS HS1;generalize wr=w4 at *;by_cases hlt:i < x.VC.length
  case pos=>
   obtain⟨bb,off,rfl,hb,hat⟩:=HSX.out.bd.at hlt;have hA:=(hat.below hb S1.out.b) i hlt;have HTK:Hid (x.VC.take (i+1)=x.VC.take i++[x.VC[i]]):=List.take_succ_eq_append_getElem hlt;have hfl:(x.VC.take i).length≤1048576:=by rw[List.length_take];omega
   have hgd:=HGB.out x.VC[i] (TY hlt);obtain⟨q,hq⟩: ∃q,q=x.VC[i]:=⟨_,rfl⟩;rw[←hq]at hA HTK hgd;have HGD:Hid (fJ q):=hgd;have hltI:(i:Int) < (x.VC.length:Int):=by omega
   obtain⟨s0,s1,s2,s3,s4⟩:=NS hA;generalize x.VC.take i=zs at *;clear hA hat hq hgd hb;go_upto_region 5 with fail
   have bn:Below w4.heap.size w4 (w4.alloc (.cells (dH q).toArray 48)):=bR.alloc lR _;have HQ:Hid (aA (w4.alloc (.cells (dH q).toArray 48)) w4.heap.size (dH q)):=aA.new w4 (dH q) 48;have S2:Hid _:=S1.out.kept bn;generalize (w4.alloc (.cells (dH q).toArray 48))=W5 at *;clear bn S1 s0 s1 s2 s3 s4;generalize w4.heap.size=Bq at *;have HCY:Hid (∀W,Cb 82 #[.agg (dH q).toArray] W (.agg (dH q).toArray)):=fun W=>mA q W HGD.out.1 HGD.out.2.1
   have HCP:Hid (∀wy,Below W5.drew.heap.size W5.drew wy→gX w base O [(w.heap.size,(bF (some ⟨bb,off,none⟩) ca bo cb x)),(w.heap.size+1,[.slice none 0 0,.slice none 0 0])] v (.slice none 0 0) (zs) ([]) wy∧aA wy Bq (dH q)):=fun wy hy=>⟨S2.out.kept (bR.drew.trans hy),HQ.out.drew.kept (by simp) hy⟩
   clear hun;refine aN [15,16,17,18,19] (by kernel_rfl) (by kernel_rfl) ?_;iterate 4 (apply bC.u rfl;(·intro K' a wy ho hd hb hK;simp[aS,aF,aD,Region.binds]at ho hd;obtain⟨hst,hqq⟩:=HCP.out wy hb;have ko:wy.cell? ⟨O,0,none⟩=some v:=hst.o.cell rfl;have kC:=hqq.c5;go_simp;first|((try go_bits);exact hK _ _ rfl bQ)|(refine(HCY.out wy).mono ?_;rintro e wz ⟨rfl,hz⟩;exact hK _ _ rfl hz));dsimp only[nA,cA])
   refine bC.rel (n:=4) (jA (eG q)) (gB _ (by simp[eG])) [_,_,_,_,jA (eG q)] rfl rfl ?_ ?_
   ·intro K' a wy ho hd hb hK;rw[wN rfl];have q3:=hd ⟨3,.data⟩ (by simp) rfl;simp[aS,aF,aD]at q3;clear hd ho;go_simp;exact hK _ _ ⟨wy.heap.size,rfl,aA.new wy (eG q) _⟩ (bR.alloc lR _)
   intro X wz hR hz;obtain⟨x0,x1,x2,x3,x4,-⟩:=hR;simp only[aF]at x0 x1 x2 x3;simp only[aE,x0,x1,x2,x3,aE];clear x0 x1 x2 x3;obtain⟨g7,e7,r7⟩:=x4;have SZ:=(HCP.out wz hz).1;obtain⟨v6,w6,hrun,⟨gg,l6,c6,rfl⟩,hO6,S6⟩:=SZ.appB q g7 r7 hfl;have HRUN:Hid _:=hrun;have HS6:Hid _:=S6;have p1:w6.cell? ⟨O,0,none⟩=some v:=hO6.cell rfl;have p2:=hO6.free (j:=0) (by simp);clear hrun S6 hO6 SZ r7 hz HCP;simp only[e7];simp only[List.length_cons,List.length_nil,List.drop_succ_cons,List.drop_zero,TX,Nat.reduceAdd];intro K5 hK5;with_reducible refine dC (.tmp 16) (.tmp 19) _ rfl ?_ ?_ HRUN.out (hK5 _ _ ?_)
   ·simp[Act.eval,Act.put]
   ·simp[Act.eval,Act.put]
   intro K6 hK6;go_simp;refine hK6 _ _ ?_;intro K7 hK7;go_simp;refine hK7 _ _ ?_;simp only[fO];go_wp2_with fail
   go_roundw
   case rel=>
    first | exact⟨i+1,_,by omega,by go_num,by rw[HTK.out];exact HS6.out⟩ | ((repeat apply Exists.intro);exact⟨⟨i+1,_,by omega,by go_num,by rw[HTK.out];exact HS6.out⟩,rfl⟩)
   case measure=>simp[intOf]<;>omega
  case neg=>
   have hie:i=x.VC.length:=by omega
   rw[hie,List.take_length]at S1;have hge:¬(i:Int) < (x.VC.length:Int):=by omega
   clear hie hlt;obtain⟨sa,sc,hsv,hsc,hso⟩:=S1.out.shapes.1;subst hsv;clear hsc hso;have c1:w4.cell? ⟨w.heap.size,1,none⟩=some (.slice bo x.UZ.length cb):=(show aA w4 w.heap.size (bF ba ca bo cb x) from S1.out.k _ (List.mem_cons_self ..)).cell rfl;go_wp2_with fail
   clear c1 hge;have S9:Hid _:=S1.out;clear S1;generalize w4=V4 at *;go_loopw [26] (fun iv wr=>∃(i:Nat) (v:Value),i≤x.UZ.length∧iv=iV i∧gX w base O [(w.heap.size,(bF ba ca bo cb x)),(w.heap.size+1,[.slice none 0 0,.slice none 0 0])] (.slice sa x.VC.length sc) v (x.VC) (x.UZ.take i) wr) (fun iv _=>x.UZ.length-(intOf iv).toNat)
   case atStart=>exact⟨0,_,UR _,rfl,S9.out⟩
   case round=>
    obtain⟨i,v,hi,rfl,hS⟩:=hrel;have S1:Hid _:=hS;clear hS S9;generalize wr=w4 at *;by_cases hlt:i < x.UZ.length
    case pos=>
     obtain⟨bb,off,rfl,hb,hat⟩:=HSX.out.ss.at hlt;have hA:=(hat.below hb S1.out.b) i hlt;have HTK:Hid (x.UZ.take (i+1)=x.UZ.take i++[x.UZ[i]]):=List.take_succ_eq_append_getElem hlt;have hfl:(x.UZ.take i).length≤1048576:=by rw[List.length_take];omega
     have hgd:=HGS.out x.UZ[i] (TY hlt);obtain⟨q,hq⟩: ∃q,q=x.UZ[i]:=⟨_,rfl⟩;rw[←hq]at hA HTK hgd;have HGD:Hid (iM q):=hgd;have hltI:(i:Int) < (x.UZ.length:Int):=by omega
     obtain⟨s0,s1,s2,s3,s4,s5,s6⟩:=MX hA;generalize x.UZ.take i=zs at *;clear hA hat hq hgd hb;go_upto_region 10 with fail
     have bn:Below w4.heap.size w4 (w4.alloc (.cells (iB q).toArray 59)):=bR.alloc lR _;have HQ:Hid (aA (w4.alloc (.cells (iB q).toArray 59)) w4.heap.size (iB q)):=aA.new w4 (iB q) 59;have S2:Hid _:=S1.out.kept bn;generalize (w4.alloc (.cells (iB q).toArray 59))=W5 at *;clear bn S1 s0 s1 s2 s3 s4 s5 s6;generalize w4.heap.size=Bq at *;have HCY:Hid (∀W,Cb 142 #[.agg (iB q).toArray] W (.agg (iB q).toArray)):=fun W=>oU q W HGD.out.1 HGD.out.2.1
     have HCP:Hid (∀wy,Below W5.drew.heap.size W5.drew wy→gX w base O [(w.heap.size,(bF ba ca (some ⟨bb,off,none⟩) cb x)),(w.heap.size+1,[.slice none 0 0,.slice none 0 0])] (.slice sa x.VC.length sc) v (x.VC) (zs) wy∧aA wy Bq (iB q)):=fun wy hy=>⟨S2.out.kept (bR.drew.trans hy),HQ.out.drew.kept (by simp) hy⟩
     clear hun;refine aN [30,31,32,33,34] (by kernel_rfl) (by kernel_rfl) ?_;iterate 4 (apply bC.u rfl;(·intro K' a wy ho hd hb hK;simp[aS,aF,aD,Region.binds]at ho hd;obtain⟨hst,hqq⟩:=HCP.out wy hb;have ko:wy.cell? ⟨O,1,none⟩=some v:=hst.o.cell rfl;have kC:=hqq.c7;go_simp;first|((try go_bits);exact hK _ _ rfl bQ)|(refine(HCY.out wy).mono ?_;rintro e wz ⟨rfl,hz⟩;exact hK _ _ rfl hz));dsimp only[nA,cA])
     refine bC.rel (n:=4) (jA (fY q)) (gB _ (by simp[fY])) [_,_,_,_,jA (fY q)] rfl rfl ?_ ?_
     ·intro K' a wy ho hd hb hK;rw[wN rfl];have q3:=hd ⟨3,.data⟩ (by simp) rfl;simp[aS,aF,aD]at q3;clear hd ho;go_simp;exact hK _ _ ⟨wy.heap.size,rfl,aA.new wy (fY q) _⟩ (bR.alloc lR _)
     intro X wz hR hz;obtain⟨x0,x1,x2,x3,x4,-⟩:=hR;simp only[aF]at x0 x1 x2 x3;simp only[aE,x0,x1,x2,x3,aE];clear x0 x1 x2 x3;obtain⟨g7,e7,r7⟩:=x4;have SZ:=(HCP.out wz hz).1;obtain⟨v6,w6,hrun,⟨gg,l6,c6,rfl⟩,hO6,S6⟩:=SZ.appS q g7 r7 hfl;have HRUN:Hid _:=hrun;have HS6:Hid _:=S6;have p1:w6.cell? ⟨O,1,none⟩=some v:=hO6.cell rfl;have p2:=hO6.free (j:=1) (by simp);clear hrun S6 hO6 SZ r7 hz HCP;simp only[e7];simp only[List.length_cons,List.length_nil,List.drop_succ_cons,List.drop_zero,TX,Nat.reduceAdd];intro K5 hK5;with_reducible refine dC (.tmp 31) (.tmp 34) _ rfl ?_ ?_ HRUN.out (hK5 _ _ ?_)
     ·simp[Act.eval,Act.put]
     ·simp[Act.eval,Act.put]
     intro K6 hK6;go_simp;refine hK6 _ _ ?_;intro K7 hK7;go_simp;refine hK7 _ _ ?_;simp only[fO];go_wp2_with fail
     go_roundw
     case rel=>
      first | exact⟨i+1,_,by omega,by go_num,by rw[HTK.out];exact HS6.out⟩ | ((repeat apply Exists.intro);exact⟨⟨i+1,_,by omega,by go_num,by rw[HTK.out];exact HS6.out⟩,rfl⟩)
     case measure=>simp[intOf]<;>omega
    case neg=>
     have hie:i=x.UZ.length:=by omega
     rw[hie,List.take_length]at S1;have hge:¬(i:Int) < (x.UZ.length:Int):=by omega
     clear hie hlt;obtain⟨sb,cs1,hsv,_,_⟩:=S1.out.shapes.2;subst hsv;have HHz:=S1.out.at eB;obtain⟨z0,z1⟩:=HHz.c2;obtain⟨zf0,zf1⟩:=HHz.f2;have HRR:Hid (aA ((sW w4 (w.heap.size+1) 0 (.slice sa x.VC.length sc)).setCell ⟨w.heap.size+1,1,none⟩ (.slice sb x.UZ.length cs1)) (w.heap.size+1) (bF sa sc sb cs1 x)):=(HHz.set 0 (.slice sa x.VC.length sc)).set 1 (.slice sb x.UZ.length cs1);have RB:Hid (Below w.heap.size w ((sW w4 (w.heap.size+1) 0 (.slice sa x.VC.length sc)).setCell ⟨w.heap.size+1,1,none⟩ (.slice sb x.UZ.length cs1))):=(sCl S1.out.b hRw).setCell (p:=⟨w.heap.size+1,1,none⟩) hRw _;have hkb:w.heap.size+1 < base:=(S1.out.kb _ eB).1;have hwb:w.heap.size≤base:=by omega
     have O1:Hid (World.ownsRow ((sW w4 (w.heap.size+1) 0 (.slice sa x.VC.length sc)).setCell ⟨w.heap.size+1,1,none⟩ (.slice sb x.UZ.length cs1)) w.heap.size 48 5 (.slice sa x.VC.length sc) x.VC.length (dK eG x.VC)):=uZ (cE (cE S1.out.bo (dU S1.out.bo hkb)) (dU S1.out.bo hkb)) hwb;have O2:Hid (World.ownsRow ((sW w4 (w.heap.size+1) 0 (.slice sa x.VC.length sc)).setCell ⟨w.heap.size+1,1,none⟩ (.slice sb x.UZ.length cs1)) w.heap.size 59 7 (.slice sb x.UZ.length cs1) x.UZ.length (dK fY x.UZ)):=uZ (cE (cE S1.out.so (dU S1.out.so hkb)) (dU S1.out.so hkb)) hwb;obtain⟨p0,p1⟩:=S1.out.o.c2;clear HHz S1;go_wp2_with fail
     exact UQ (aG Tryz.results109 _ _ _ _ _ rfl HRR.out Tryz.underlying31 rfl (show (Tryz.prog.info? 31).map (·.size)=some 2 by kernel_rfl)) rfl (And.intro ⟨_,_,rfl,O1.out,O2.out⟩ RB.out)
theorem FM{p:Pl}{xs:List Bd}{h:En}(hps:∀s∈p.VA,s.size≤1048576)(hgb:∀q∈xs,fJ q)(he:qU h):(cJ p xs h).1.inn.size≤1048576∧(cJ p xs h).1.out.size≤1048576:=by
 unfold cJ;split
 ·cases hf:xs.find? (cD h.UU h.addr h.port) with
  | none=>exact⟨UR _,UR _⟩
  | some c=>exact⟨(hgb c (UP hf)).1,(hgb c (UP hf)).2.1⟩
 ·exact⟨he.1,DL hps hgb⟩
end Go.Proofs.YtdkepkaflielhaaGreatDoor
