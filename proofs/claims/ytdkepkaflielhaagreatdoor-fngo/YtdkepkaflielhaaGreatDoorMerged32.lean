import Derived.Test.YtdkepkaflielhaaGreatDoorINat5
set_option linter.unusedVariables false
set_option linter.unusedSimpArgs false
set_option maxRecDepth 100000
set_option maxHeartbeats 8000000
namespace Go.Proofs.YtdkepkaflielhaaGreatDoor
open Go.RowKit Go.PlainAid
theorem xO(pa:OA)(pc:Nat)(p:Pl)(ba bo:OA)(ca cb:Nat)(x:Bb)(q:P4)(now:Int)(w:World)(hT:sA w)(hlp:p.VA.length≤1048576)(hpc:p.VA.length≤pc)(hsz:∀s∈p.VA,s.size≤1048576)(hl1:x.VC.length≤1048576)(hl2:x.UZ.length≤1048576)(hgb:∀q∈x.VC,fJ q)(hgs:∀s∈x.UZ,iM s)(q1:q.src.size≤1048576)(q2:q.dst.size≤1048576)(q3:q.opts.size≤1048576)(q4:q.data.size≤1048576)(hp:bP bX 1 w pa p.VA)(hx:dI w ba bo x) :
  Calls Tryz.prog 7 #[jQ pa pc p,iQ ba bo ca cb x,mD q,iV now] w fun e w'=>mY w.heap.size (cX p x q now) e w'∧Below w.heap.size w w':=by
 have HIN:Hid (∀W,Below w.heap.size w W→Calls Tryz.prog 27 #[.iface 65 (.agg #[]),jQ pa pc p,iQ ba bo ca cb x,mD q,iV now] W fun e w'=>mY W.heap.size (cX p x q now) e w'∧Below W.heap.size W w'):=fun W hW=>AM pa pc p ba bo ca cb x q now W (hT.below hW) hlp hpc hsz hl1 hl2 hgb hgs q1 q2 q3 q4 (hp.below hW) (hx.below hW)
 generalize cX p x q now=nv at *;clear hT hlp hpc hsz hl1 hl2 hgb hgs hp hx q1 q2 q3 q4;unfold jQ iQ mD at *;have e0:aA ((aW (aW (aW w (bM pa pc p) 27) (bF ba ca bo cb x) 31) (dY q) 33).alloc (.cells cM.toArray 39)) (w.heap.size) (bM pa pc p):=by
  have h:=aA.new w (bM pa pc p) 27;try simp only[TQ]at h
  exact(((h.alloc _).alloc _).alloc _)
 have e1:aA ((aW (aW (aW w (bM pa pc p) 27) (bF ba ca bo cb x) 31) (dY q) 33).alloc (.cells cM.toArray 39)) (w.heap.size+1) (bF ba ca bo cb x):=by
  have h:=aA.new (w.alloc (.cells (bM pa pc p).toArray 27)) (bF ba ca bo cb x) 31;try simp only[TQ]at h
  exact((h.alloc _).alloc _)
 have e2:aA ((aW (aW (aW w (bM pa pc p) 27) (bF ba ca bo cb x) 31) (dY q) 33).alloc (.cells cM.toArray 39)) (w.heap.size+1+1) (dY q):=by
  have h:=aA.new ((aW w (bM pa pc p) 27).alloc (.cells (bF ba ca bo cb x).toArray 31)) (dY q) 33;try simp only[TQ]at h
  exact(h.alloc _)
 have e3:aA ((aW (aW (aW w (bM pa pc p) 27) (bF ba ca bo cb x) 31) (dY q) 33).alloc (.cells cM.toArray 39)) (w.heap.size+1+1+1) cM:=by
  have h:=aA.new ((aW (aW w (bM pa pc p) 27) (bF ba ca bo cb x) 31).alloc (.cells (dY q).toArray 33)) cM 39;try simp only[TQ]at h
  exact h
 have HS0:Hid (dX w [(w.heap.size,(bM pa pc p)),(w.heap.size+1,(bF ba ca bo cb x)),(w.heap.size+1+1,(dY q)),(w.heap.size+1+1+1,cM)] ((aW (aW (aW w (bM pa pc p) 27) (bF ba ca bo cb x) 31) (dY q) 33).alloc (.cells cM.toArray 39))):=by
  refine⟨fun e he=>?_,((((bR.alloc (by (try simp only[TQ]);omega) _).alloc (by (try simp only[TQ]);omega) _).alloc (by (try simp only[TQ]);omega) _).alloc (by (try simp only[TQ]);omega) _),fun e he=>?_⟩
  ·simp only[TW,TV,or_false]at he;rcases he with rfl|rfl|rfl|rfl
   ·exact e0
   ·exact e1
   ·exact e2
   ·exact e3
  ·simp only[TW,TV,or_false]at he;rcases he with rfl|rfl|rfl|rfl<;>simp
 clear e0 e1 e2 e3;have hRw:w.heap.size≤w.heap.size+1+1+1:=by omega
 go_enter Tryz.func7,Tryz.ntmps7
 go_upto_region 1 with fail
 generalize World.alloc _ _=W0 at *;have HHk:=HS0.out.at cO;obtain⟨k0,k1,k2,k3,k4,k5,k6,k7,k8,k9⟩:=HHk.c10;clear HHk;have HHl:=HS0.out.at eB;obtain⟨l0,l1⟩:=HHl.c2;clear HHl;have HHm:=HS0.out.at eX;obtain⟨m0,m1,m2,m3,m4,m5,m6,m7,m8,m9,m10⟩:=HHm.c11;clear HHm;have hR2:w.heap.size+1+1+1 < W0.heap.size:=(HS0.out.k _ iR).lt (by simp);have hw2:w.heap.size≤W0.heap.size:=HS0.out.b.size;go_wp2_with fail
 refine(HIN.out W0 HS0.out.b).mono ?_;rintro e W3 ⟨⟨a9,b9,c9,d9,rfl,hown⟩,r3⟩;have S3:Hid _:=HS0.out.kept r3;clear r3 HS0 HIN k0 k1 k2 k3 k4 k5 k6 k7 k8 k9 l0 l1 m0 m1 m2 m3 m4 m5 m6 m7 m8 m9 m10;obtain⟨HTH,HRR,RB⟩:=pF (show aA W3 (w.heap.size+1+1+1) (fW none none 0 0 (gW 0)) from S3.out.k _ iR) S3.out.b hRw a9 b9 c9 d9 nv;have HOW:Hid (dD w.heap.size (W3.setCells (w.heap.size+1+1+1) 0 (fW a9 b9 c9 d9 nv).toArray.toList) a9 b9 nv.bib):=(dD.mid hown hR2 _).lowN hw2;clear hown S3;unfold IY;go_wp2_with (refine wpList_store_mid (by rfl) 39 (.tmp 8) (.tmp 15) (by rfl) _ _ _ (by rfl) (by rfl) HTH.out bZ (fG _ _ _ _ _) ?_)
 exact UQ (aG Tryz.results7 _ _ _ _ _ rfl HRR.out Tryz.underlying39 rfl bZ) rfl (And.intro ⟨a9,b9,c9,d9,rfl,HOW.out⟩ RB.out)
theorem uV(pa:OA)(pc:Nat)(p:Pl)(ba bo:OA)(ca cb:Nat)(x:Bb)(q:P4)(now:Int)(w:World)(hT:sA w)(hlp:p.VA.length≤1048576)(hpc:p.VA.length≤pc)(hsz:∀s∈p.VA,s.size≤1048576)(hl1:x.VC.length≤1048576)(hl2:x.UZ.length≤1048576)(hgb:∀q∈x.VC,fJ q)(hgs:∀s∈x.UZ,iM s)(q1:q.src.size≤1048576)(q2:q.dst.size≤1048576)(q3:q.opts.size≤1048576)(q4:q.data.size≤1048576)(hp:bP bX 1 w pa p.VA)(hx:dI w ba bo x) :
  Calls Tryz.prog 17 #[jQ pa pc p,iQ ba bo ca cb x,mD q,iV now] w fun e w'=>mY w.heap.size (fB p x q now) e w'∧Below w.heap.size w w':=by
 have HIN:Hid (∀W,Below w.heap.size w W→Calls Tryz.prog 27 #[.iface 82 (.agg #[.slice pa p.VA.length pc]),jQ pa pc p,iQ ba bo ca cb x,mD q,iV now] W fun e w'=>mY W.heap.size (fB p x q now) e w'∧Below W.heap.size W w'):=fun W hW=>AK pa pc p ba bo ca cb x q now W (hT.below hW) hlp hpc hsz hl1 hl2 hgb hgs q1 q2 q3 q4 (hp.below hW) (hx.below hW)
 generalize fB p x q now=nv at *;clear hT hlp hpc hsz hl1 hl2 hgb hgs hp hx q1 q2 q3 q4;unfold jQ iQ mD at *;have e0:aA ((aW (aW (aW w (bM pa pc p) 27) (bF ba ca bo cb x) 31) (dY q) 33).alloc (.cells cM.toArray 39)) (w.heap.size) (bM pa pc p):=by
  have h:=aA.new w (bM pa pc p) 27;try simp only[TQ]at h
  exact(((h.alloc _).alloc _).alloc _)
 have e1:aA ((aW (aW (aW w (bM pa pc p) 27) (bF ba ca bo cb x) 31) (dY q) 33).alloc (.cells cM.toArray 39)) (w.heap.size+1) (bF ba ca bo cb x):=by
  have h:=aA.new (w.alloc (.cells (bM pa pc p).toArray 27)) (bF ba ca bo cb x) 31;try simp only[TQ]at h
  exact((h.alloc _).alloc _)
 have e2:aA ((aW (aW (aW w (bM pa pc p) 27) (bF ba ca bo cb x) 31) (dY q) 33).alloc (.cells cM.toArray 39)) (w.heap.size+1+1) (dY q):=by
  have h:=aA.new ((aW w (bM pa pc p) 27).alloc (.cells (bF ba ca bo cb x).toArray 31)) (dY q) 33;try simp only[TQ]at h
  exact(h.alloc _)
 have e3:aA ((aW (aW (aW w (bM pa pc p) 27) (bF ba ca bo cb x) 31) (dY q) 33).alloc (.cells cM.toArray 39)) (w.heap.size+1+1+1) cM:=by
  have h:=aA.new ((aW (aW w (bM pa pc p) 27) (bF ba ca bo cb x) 31).alloc (.cells (dY q).toArray 33)) cM 39;try simp only[TQ]at h
  exact h
 have HS0:Hid (dX w [(w.heap.size,(bM pa pc p)),(w.heap.size+1,(bF ba ca bo cb x)),(w.heap.size+1+1,(dY q)),(w.heap.size+1+1+1,cM)] ((aW (aW (aW w (bM pa pc p) 27) (bF ba ca bo cb x) 31) (dY q) 33).alloc (.cells cM.toArray 39))):=by
  refine⟨fun e he=>?_,((((bR.alloc (by (try simp only[TQ]);omega) _).alloc (by (try simp only[TQ]);omega) _).alloc (by (try simp only[TQ]);omega) _).alloc (by (try simp only[TQ]);omega) _),fun e he=>?_⟩
  ·simp only[TW,TV,or_false]at he;rcases he with rfl|rfl|rfl|rfl
   ·exact e0
   ·exact e1
   ·exact e2
   ·exact e3
  ·simp only[TW,TV,or_false]at he;rcases he with rfl|rfl|rfl|rfl<;>simp
 clear e0 e1 e2 e3;have hRw:w.heap.size≤w.heap.size+1+1+1:=by omega
 go_enter Tryz.func17,Tryz.ntmps17
 go_upto_region 1 with fail
 generalize World.alloc _ _=W0 at *;have HHk:=HS0.out.at cO;obtain⟨k0,k1,k2,k3,k4,k5,k6,k7,k8,k9⟩:=HHk.c10;clear HHk;have HHl:=HS0.out.at eB;obtain⟨l0,l1⟩:=HHl.c2;clear HHl;have HHm:=HS0.out.at eX;obtain⟨m0,m1,m2,m3,m4,m5,m6,m7,m8,m9,m10⟩:=HHm.c11;clear HHm;have hR2:w.heap.size+1+1+1 < W0.heap.size:=(HS0.out.k _ iR).lt (by simp);have hw2:w.heap.size≤W0.heap.size:=HS0.out.b.size;go_wp2_with fail
 refine(HIN.out W0 HS0.out.b).mono ?_;rintro e W3 ⟨⟨a9,b9,c9,d9,rfl,hown⟩,r3⟩;have S3:Hid _:=HS0.out.kept r3;clear r3 HS0 HIN k0 k1 k2 k3 k4 k5 k6 k7 k8 k9 l0 l1 m0 m1 m2 m3 m4 m5 m6 m7 m8 m9 m10;obtain⟨HTH,HRR,RB⟩:=pF (show aA W3 (w.heap.size+1+1+1) (fW none none 0 0 (gW 0)) from S3.out.k _ iR) S3.out.b hRw a9 b9 c9 d9 nv;have HOW:Hid (dD w.heap.size (W3.setCells (w.heap.size+1+1+1) 0 (fW a9 b9 c9 d9 nv).toArray.toList) a9 b9 nv.bib):=(dD.mid hown hR2 _).lowN hw2;clear hown S3;unfold IY;go_wp2_with (refine wpList_store_mid (by rfl) 39 (.tmp 8) (.tmp 17) (by rfl) _ _ _ (by rfl) (by rfl) HTH.out bZ (fG _ _ _ _ _) ?_)
 exact UQ (aG Tryz.results17 _ _ _ _ _ rfl HRR.out Tryz.underlying39 rfl bZ) rfl (And.intro ⟨a9,b9,c9,d9,rfl,HOW.out⟩ RB.out)
theorem GL{p:Pl}{x:Bb}{q:P4}{now:Int}(h:dP p x q now=0):fS p x=true∧iX q=true∧bS now=true:=by
 unfold dP at h;by_cases h1:(fS p x&&iX q&&bS now)=false
 ·rw[if_pos h1]at h;simp at h
 ·simpa using h1
theorem xX(pa:OA)(pc:Nat)(p:Pl)(ba bo:OA)(ca cb:Nat)(x:Bb)(q:P4)(now:Int)(w:World)(hlp:p.VA.length≤1048576)(hpc:p.VA.length≤pc)(hsz:∀s∈p.VA,s.size≤1048576)(hl1:x.VC.length≤1048576)(hl2:x.UZ.length≤1048576)(q1:q.src.size≤1048576)(q2:q.dst.size≤1048576)(q3:q.opts.size≤1048576)(q4:q.data.size≤1048576)(hp:bP bX 1 w pa p.VA)(hx:dI w ba bo x) :
  Calls Tryz.prog 8 #[jQ pa pc p,iQ ba bo ca cb x,mD q,iV now] w fun e w'=>mY w.heap.size (cX p x q now) e w'∧Below w.heap.size w w':=by
 have HOK:Hid (∀W,Below w.heap.size w W→Cb 28 #[jQ pa pc p,iQ ba bo ca cb x,mD q,iV now] W (iV (dP p x q now))):=fun W hW=>KN pa pc p ba bo ca cb x q now W hlp hpc hsz hl1 hl2 q1 q2 q3 q4 (hp.below hW) (hx.below hW)
 have HIL:Hid (∀c W,Cb 29 #[iV c] W (IY none none 0 0 (gW c))):=fun c W=>wL c W
 have HIN:Hid (dP p x q now=0→∀W,Below w.heap.size w W→Calls Tryz.prog 30 #[jQ pa pc p,iQ ba bo ca cb x,mD q,iV now] W fun e w'=>mY W.heap.size (dS p x q now) e w'∧Below W.heap.size W w'):=fun h W hW=>by
  obtain⟨h1,h2,h3⟩:=GL h;exact AZ pa pc p ba bo ca cb x q now W h1 h2 h3 hl1 hl2 (hp.below hW) (hx.below hW)
 have HV:Hid (cX p x q now=if dP p x q now≠0 then gW (dP p x q now) else dS p x q now):=rfl;generalize cX p x q now=ans at *;generalize dS p x q now=nv at *;generalize dP p x q now=ft at *;obtain⟨tos,id,whole,more,off,ttl,UU,src,dst,opts,data⟩:=q;clear hp hx hsz;unfold jQ iQ mD at *;dsimp only at *;have e0:aA ((aW (aW (aW w (bM pa pc p) 27) (bF ba ca bo cb x) 31) (fM tos id whole more off ttl UU src dst opts data) 33).alloc (.cells cM.toArray 39)) (w.heap.size) (bM pa pc p):=by
  have h:=aA.new w (bM pa pc p) 27;try simp only[TQ]at h
  exact(((h.alloc _).alloc _).alloc _)
 have e1:aA ((aW (aW (aW w (bM pa pc p) 27) (bF ba ca bo cb x) 31) (fM tos id whole more off ttl UU src dst opts data) 33).alloc (.cells cM.toArray 39)) (w.heap.size+1) (bF ba ca bo cb x):=by
  have h:=aA.new (w.alloc (.cells (bM pa pc p).toArray 27)) (bF ba ca bo cb x) 31;try simp only[TQ]at h
  exact((h.alloc _).alloc _)
 have e2:aA ((aW (aW (aW w (bM pa pc p) 27) (bF ba ca bo cb x) 31) (fM tos id whole more off ttl UU src dst opts data) 33).alloc (.cells cM.toArray 39)) (w.heap.size+1+1) (fM tos id whole more off ttl UU src dst opts data):=by
  have h:=aA.new ((aW w (bM pa pc p) 27).alloc (.cells (bF ba ca bo cb x).toArray 31)) (fM tos id whole more off ttl UU src dst opts data) 33;try simp only[TQ]at h
  exact(h.alloc _)
 have e3:aA ((aW (aW (aW w (bM pa pc p) 27) (bF ba ca bo cb x) 31) (fM tos id whole more off ttl UU src dst opts data) 33).alloc (.cells cM.toArray 39)) (w.heap.size+1+1+1) cM:=by
  have h:=aA.new ((aW (aW w (bM pa pc p) 27) (bF ba ca bo cb x) 31).alloc (.cells (fM tos id whole more off ttl UU src dst opts data).toArray 33)) cM 39;try simp only[TQ]at h
  exact h
 have HS0:Hid (dX w [(w.heap.size,(bM pa pc p)),(w.heap.size+1,(bF ba ca bo cb x)),(w.heap.size+1+1,(fM tos id whole more off ttl UU src dst opts data)),(w.heap.size+1+1+1,cM)] ((aW (aW (aW w (bM pa pc p) 27) (bF ba ca bo cb x) 31) (fM tos id whole more off ttl UU src dst opts data) 33).alloc (.cells cM.toArray 39))):=by
  refine⟨fun e he=>?_,((((bR.alloc (by (try simp only[TQ]);omega) _).alloc (by (try simp only[TQ]);omega) _).alloc (by (try simp only[TQ]);omega) _).alloc (by (try simp only[TQ]);omega) _),fun e he=>?_⟩
  ·simp only[TW,TV,or_false]at he;rcases he with rfl|rfl|rfl|rfl
   ·exact e0
   ·exact e1
   ·exact e2
   ·exact e3
  ·simp only[TW,TV,or_false]at he;rcases he with rfl|rfl|rfl|rfl<;>simp
 clear e0 e1 e2 e3;have hRw:w.heap.size≤w.heap.size+1+1+1:=by omega
 go_enter Tryz.func8,Tryz.ntmps8
 go_upto_region 1 with fail
 generalize World.alloc _ _=W0 at *;have HHk:=HS0.out.at cO;obtain⟨k0,k1,k2,k3,k4,k5,k6,k7,k8,k9⟩:=HHk.c10;clear HHk;have HHl:=HS0.out.at eB;obtain⟨l0,l1⟩:=HHl.c2;clear HHl;have HHm:=HS0.out.at eX;obtain⟨m0,m1,m2,m3,m4,m5,m6,m7,m8,m9,m10⟩:=HHm.c11;clear HHm;go_wp2_with fail
 refine(HOK.out _ HS0.out.b).mono ?_;rintro e W1 ⟨rfl,r1⟩;have S1:Hid _:=HS0.out.kept r1;clear r1 HS0 HOK k0 k1 k2 k3 k4 k5 k6 k7 k8 k9 l0 l1 m0 m1 m2 m3 m4 m5 m6 m7 m8 m9 m10;by_cases hc:ft=0
 case neg=>
  have d0:(ft != 0)=true:=by simp[hc]
  have HX:Hid (ans=gW ft):=by unfold Hid;rw[HV.out,if_pos hc]
  go_wp2_with fail
  refine(HIL.out ft _).mono ?_;rintro e W3 ⟨rfl,r3⟩;have S3:Hid _:=S1.out.kept r3;clear r3;obtain⟨HTH,HRR,RB⟩:=pF (show aA W3 (w.heap.size+1+1+1) (fW none none 0 0 (gW 0)) from S3.out.k _ iR) S3.out.b hRw none none 0 0 (gW ft);unfold IY;go_wp2_with (refine wpList_store_mid (by rfl) 39 (.tmp 8) (.tmp 18) (by rfl) _ _ _ (by rfl) (by rfl) HTH.out bZ (fG _ _ _ _ _) ?_)
  exact UQ (aG Tryz.results8 _ _ _ _ _ rfl HRR.out Tryz.underlying39 rfl bZ) rfl (And.intro (by rw[HX.out];exact gM _) RB.out)
 have d0:(ft != 0)=false:=by simp[hc]
 rw[if_neg (by simp[hc])]at HV;replace HIN:Hid _:=HIN.out hc;clear hc HIL;go_upto_region 4 with fail
 clear d0;have HHk:=S1.out.at cO;obtain⟨k0,k1,k2,k3,k4,k5,k6,k7,k8,k9⟩:=HHk.c10;clear HHk;have HHl:=S1.out.at eB;obtain⟨l0,l1⟩:=HHl.c2;clear HHl;have HHm:=S1.out.at eX;obtain⟨m0,m1,m2,m3,m4,m5,m6,m7,m8,m9,m10⟩:=HHm.c11;clear HHm;have hR2:w.heap.size+1+1+1 < W1.heap.size:=(S1.out.k _ iR).lt (by simp);have hw2:w.heap.size≤W1.heap.size:=S1.out.b.size;go_wp2_with fail
 refine(HIN.out _ S1.out.b).mono ?_;rintro e W3 ⟨⟨a9,b9,c9,d9,rfl,hown⟩,r3⟩;have S3:Hid _:=S1.out.kept r3;clear r3 S1 HIN k0 k1 k2 k3 k4 k5 k6 k7 k8 k9 l0 l1 m0 m1 m2 m3 m4 m5 m6 m7 m8 m9 m10;obtain⟨HTH,HRR,RB⟩:=pF (show aA W3 (w.heap.size+1+1+1) (fW none none 0 0 (gW 0)) from S3.out.k _ iR) S3.out.b hRw a9 b9 c9 d9 nv;have HOW:Hid (dD w.heap.size (W3.setCells (w.heap.size+1+1+1) 0 (fW a9 b9 c9 d9 nv).toArray.toList) a9 b9 nv.bib):=(dD.mid hown hR2 _).lowN hw2;clear hown S3;unfold IY;go_wp2_with (refine wpList_store_mid (by rfl) 39 (.tmp 8) (.tmp 23) (by rfl) _ _ _ (by rfl) (by rfl) HTH.out bZ (fG _ _ _ _ _) ?_)
 exact UQ (aG Tryz.results8 _ _ _ _ _ rfl HRR.out Tryz.underlying39 rfl bZ) rfl (And.intro (by rw[HV.out];exact⟨a9,b9,c9,d9,rfl,HOW.out⟩) RB.out)
def wE(q p:Bd):Bool:=(q.UU==p.UU)&&((q.inn.toList==p.inn.toList)&&((q.UW==p.UW)&&((q.out.toList==p.out.toList)&&((q.UX==p.UX)))))
theorem DR(q:Bd):wE q q=true:=by unfold wE;simp
theorem JS(D:Nat)(q p:Bd)(W:World):(Op.equalIn (D+2) 48 (.agg (dH q).toArray) (.agg (dH p).toArray)).run Tryz.prog W=.ok (wE q p) W:=by
 have h1:Tryz.prog.underlying 48=some (.struct (Tryz.prog.fieldsOf 48)):=by kernel_rfl
 have h2:Tryz.prog.stoodInHeld 48=false:=by kernel_rfl
 rw[run_equalIn_agg _ _ _ _ _ h1 h2];have h3:(Tryz.prog.fieldsOf 48).toList.length=5:=by kernel_rfl
 have h4 : ((Tryz.prog.fieldsOf 48).toList.map fun f => (f.type, f.offset, f.name == "_")) = [(2, 0, false), (9, 1, false), (2, 2, false), (9, 3, false), (2, 4, false)] := by kernel_rfl
 generalize (Tryz.prog.fieldsOf 48).toList=fs at *;match fs,h3 with
 | [f0,f1,f2,f3,f4],_=>
  simp only[List.map_cons,List.map_nil,List.cons.injEq,Prod.mk.injEq,and_true]at h4;obtain⟨⟨a0,b0,c0⟩,⟨a1,b1,c1⟩,⟨a2,b2,c2⟩,⟨a3,b3,c3⟩,⟨a4,b4,c4⟩⟩:=h4
  have d0 : (f0.name ≠ "_") = True := by simpa using c0
  have q0:∀W,(part 2 (dH q).toArray 0).run Tryz.prog W=.ok (iV q.UU) W:=fun W=>by kernel_rfl
  have p0:∀W,(part 2 (dH p).toArray 0).run Tryz.prog W=.ok (iV p.UU) W:=fun W=>by kernel_rfl
  have d1 : (f1.name ≠ "_") = True := by simpa using c1
  have q1:∀W,(part 9 (dH q).toArray 1).run Tryz.prog W=.ok (.string q.inn) W:=fun W=>by kernel_rfl
  have p1:∀W,(part 9 (dH p).toArray 1).run Tryz.prog W=.ok (.string p.inn) W:=fun W=>by kernel_rfl
  have d2 : (f2.name ≠ "_") = True := by simpa using c2
  have q2:∀W,(part 2 (dH q).toArray 2).run Tryz.prog W=.ok (iV q.UW) W:=fun W=>by kernel_rfl
  have p2:∀W,(part 2 (dH p).toArray 2).run Tryz.prog W=.ok (iV p.UW) W:=fun W=>by kernel_rfl
  have d3 : (f3.name ≠ "_") = True := by simpa using c3
  have q3:∀W,(part 9 (dH q).toArray 3).run Tryz.prog W=.ok (.string q.out) W:=fun W=>by kernel_rfl
  have p3:∀W,(part 9 (dH p).toArray 3).run Tryz.prog W=.ok (.string p.out) W:=fun W=>by kernel_rfl
  have d4 : (f4.name ≠ "_") = True := by simpa using c4
  have q4:∀W,(part 2 (dH q).toArray 4).run Tryz.prog W=.ok (iV q.UX) W:=fun W=>by kernel_rfl
  have p4:∀W,(part 2 (dH p).toArray 4).run Tryz.prog W=.ok (iV p.UX) W:=fun W=>by kernel_rfl
  unfold wE;simp only[Op.eqFields,a0,b0,d0,q0,p0,a1,b1,d1,q1,p1,a2,b2,d2,q2,p2,a3,b3,d3,q3,p3,a4,b4,d4,q4,p4,if_true,Sem.run_bind,Sem.run_ite,Sem.run_pure,Result.andThen_ok,run_equalIn_string _ _ _ _ _ Tryz.underlying9,run_equalIn_int _ _ _ _ _ _ _ Tryz.underlying2];generalize (q.UU==p.UU)=g0;generalize (q.inn.toList==p.inn.toList)=g1;generalize (q.UW==p.UW)=g2;generalize (q.out.toList==p.out.toList)=g3;generalize (q.UX==p.UX)=g4
  cases g0
  ·simp
  simp only[UL,UD,if_false,UE]
  cases g1
  ·simp
  simp only[UL,UD,if_false,UE]
  cases g2
  ·simp
  simp only[UL,UD,if_false,UE]
  cases g3
  ·simp
  simp only[UL,UD,if_false,UE]
  cases g4<;>simp
theorem KA(q p:Bd)(W:World):(binOp .neq 48 (.agg (dH q).toArray) (.agg (dH p).toArray)).run Tryz.prog W=.ok (.bool (!wE q p)) W:=by
 rw[run_neq_struct,JS 9998 q p W];rfl
def wG(q p:Ss):Bool:=(q.UU==p.UU)&&((q.inn.toList==p.inn.toList)&&((q.UW==p.UW)&&((q.peer.toList==p.peer.toList)&&((q.UV==p.UV)&&((q.state==p.state)&&((q.untl==p.untl)))))))
theorem DS(q:Ss):wG q q=true:=by unfold wG;simp
theorem JT(D:Nat)(q p:Ss)(W:World):(Op.equalIn (D+2) 59 (.agg (iB q).toArray) (.agg (iB p).toArray)).run Tryz.prog W=.ok (wG q p) W:=by
 have h1:Tryz.prog.underlying 59=some (.struct (Tryz.prog.fieldsOf 59)):=by kernel_rfl
 have h2:Tryz.prog.stoodInHeld 59=false:=by kernel_rfl
 rw[run_equalIn_agg _ _ _ _ _ h1 h2];have h3:(Tryz.prog.fieldsOf 59).toList.length=7:=by kernel_rfl
 have h4 : ((Tryz.prog.fieldsOf 59).toList.map fun f => (f.type, f.offset, f.name == "_")) = [(2, 0, false), (9, 1, false), (2, 2, false), (9, 3, false), (2, 4, false), (2, 5, false), (2, 6, false)] := by kernel_rfl
 generalize (Tryz.prog.fieldsOf 59).toList=fs at *;match fs,h3 with
 | [f0,f1,f2,f3,f4,f5,f6],_=>
  simp only[List.map_cons,List.map_nil,List.cons.injEq,Prod.mk.injEq,and_true]at h4;obtain⟨⟨a0,b0,c0⟩,⟨a1,b1,c1⟩,⟨a2,b2,c2⟩,⟨a3,b3,c3⟩,⟨a4,b4,c4⟩,⟨a5,b5,c5⟩,⟨a6,b6,c6⟩⟩:=h4
  have d0 : (f0.name ≠ "_") = True := by simpa using c0
  have q0:∀W,(part 2 (iB q).toArray 0).run Tryz.prog W=.ok (iV q.UU) W:=fun W=>by kernel_rfl
  have p0:∀W,(part 2 (iB p).toArray 0).run Tryz.prog W=.ok (iV p.UU) W:=fun W=>by kernel_rfl
  have d1 : (f1.name ≠ "_") = True := by simpa using c1
  have q1:∀W,(part 9 (iB q).toArray 1).run Tryz.prog W=.ok (.string q.inn) W:=fun W=>by kernel_rfl
  have p1:∀W,(part 9 (iB p).toArray 1).run Tryz.prog W=.ok (.string p.inn) W:=fun W=>by kernel_rfl
  have d2 : (f2.name ≠ "_") = True := by simpa using c2
  have q2:∀W,(part 2 (iB q).toArray 2).run Tryz.prog W=.ok (iV q.UW) W:=fun W=>by kernel_rfl
  have p2:∀W,(part 2 (iB p).toArray 2).run Tryz.prog W=.ok (iV p.UW) W:=fun W=>by kernel_rfl
  have d3 : (f3.name ≠ "_") = True := by simpa using c3
  have q3:∀W,(part 9 (iB q).toArray 3).run Tryz.prog W=.ok (.string q.peer) W:=fun W=>by kernel_rfl
  have p3:∀W,(part 9 (iB p).toArray 3).run Tryz.prog W=.ok (.string p.peer) W:=fun W=>by kernel_rfl
  have d4 : (f4.name ≠ "_") = True := by simpa using c4
  have q4:∀W,(part 2 (iB q).toArray 4).run Tryz.prog W=.ok (iV q.UV) W:=fun W=>by kernel_rfl
  have p4:∀W,(part 2 (iB p).toArray 4).run Tryz.prog W=.ok (iV p.UV) W:=fun W=>by kernel_rfl
  have d5 : (f5.name ≠ "_") = True := by simpa using c5
  have q5:∀W,(part 2 (iB q).toArray 5).run Tryz.prog W=.ok (iV q.state) W:=fun W=>by kernel_rfl
  have p5:∀W,(part 2 (iB p).toArray 5).run Tryz.prog W=.ok (iV p.state) W:=fun W=>by kernel_rfl
  have d6 : (f6.name ≠ "_") = True := by simpa using c6
  have q6:∀W,(part 2 (iB q).toArray 6).run Tryz.prog W=.ok (iV q.untl) W:=fun W=>by kernel_rfl
  have p6:∀W,(part 2 (iB p).toArray 6).run Tryz.prog W=.ok (iV p.untl) W:=fun W=>by kernel_rfl
  unfold wG;simp only[Op.eqFields,a0,b0,d0,q0,p0,a1,b1,d1,q1,p1,a2,b2,d2,q2,p2,a3,b3,d3,q3,p3,a4,b4,d4,q4,p4,a5,b5,d5,q5,p5,a6,b6,d6,q6,p6,if_true,Sem.run_bind,Sem.run_ite,Sem.run_pure,Result.andThen_ok,run_equalIn_string _ _ _ _ _ Tryz.underlying9,run_equalIn_int _ _ _ _ _ _ _ Tryz.underlying2];generalize (q.UU==p.UU)=g0;generalize (q.inn.toList==p.inn.toList)=g1;generalize (q.UW==p.UW)=g2;generalize (q.peer.toList==p.peer.toList)=g3;generalize (q.UV==p.UV)=g4;generalize (q.state==p.state)=g5;generalize (q.untl==p.untl)=g6
  cases g0
  ·simp
  simp only[UL,UD,if_false,UE]
  cases g1
  ·simp
  simp only[UL,UD,if_false,UE]
  cases g2
  ·simp
  simp only[UL,UD,if_false,UE]
  cases g3
  ·simp
  simp only[UL,UD,if_false,UE]
  cases g4
  ·simp
  simp only[UL,UD,if_false,UE]
  cases g5
  ·simp
  simp only[UL,UD,if_false,UE]
  cases g6<;>simp
theorem KC(q p:Ss)(W:World):(binOp .neq 59 (.agg (iB q).toArray) (.agg (iB p).toArray)).run Tryz.prog W=.ok (.bool (!wG q p)) W:=by
 rw[run_neq_struct,JT 9998 q p W];rfl
theorem DH(x:Bb)(a1 b1 a2 b2:OA)(ca1 cb1 ca2 cb2:Nat)(w:World)(hl1:x.VC.length≤1048576)(hl2:x.UZ.length≤1048576)(h1:dI w a1 b1 x)(h2:dI w a2 b2 x) :
  Cb 9 #[iQ a1 b1 ca1 cb1 x,iQ a2 b2 ca2 cb2 x] w (.bool true):=by
 have HB:Hid (Below w.heap.size w ((aW w (bF a1 ca1 b1 cb1 x) 31).alloc (.cells (bF a2 ca2 b2 cb2 x).toArray 31))):=(bR.alloc lR _).alloc (by simp) _;have H0:=(aA.new w (bF a1 ca1 b1 cb1 x) 31).alloc (.cells (bF a2 ca2 b2 cb2 x).toArray 31);have H1:=aA.new (w.alloc (.cells (bF a1 ca1 b1 cb1 x).toArray 31)) (bF a2 ca2 b2 cb2 x) 31;rw[TQ]at H1;have G0:Hid _:=H0;have G1:Hid _:=H1;have R1:Hid (dI w a1 b1 x):=h1;have R2:Hid (dI w a2 b2 x):=h2;unfold iQ;clear h1 h2 H0 H1;go_enter Tryz.func9,Tryz.ntmps9
 go_upto_region 1 with fail
 generalize World.alloc _ _=W2 at *;have HCL:Hid (∀wy,Below W2.heap.size W2 wy→wy.cell? ⟨w.heap.size,0,none⟩=some (.slice a1 x.VC.length ca1)∧wy.cell? ⟨w.heap.size,1,none⟩=some (.slice b1 x.UZ.length cb1)∧wy.cell? ⟨w.heap.size+1,0,none⟩=some (.slice a2 x.VC.length ca2)∧wy.cell? ⟨w.heap.size+1,1,none⟩=some (.slice b2 x.UZ.length cb2)) :=
  fun wy hy=>⟨(G0.out.kept (by simp) hy).cell rfl,(G0.out.kept (by simp) hy).cell rfl,(G1.out.kept (by simp) hy).cell rfl,(G1.out.kept (by simp) hy).cell rfl⟩
 obtain⟨k0,k1,k2,k3⟩:=HCL.out W2 bR;go_wp2_with fail
 go_loopw [5] (fun i wr=>∃k:Nat,k≤x.VC.length∧i=iV k∧Below W2.heap.size W2 wr) (fun i _=>x.VC.length-(intOf i).toNat)
 case atStart=>exact⟨0,UR _,rfl,Below.refl _ _⟩
 case round=>
  obtain⟨k,hk,rfl,hbel⟩:=hrel;have HL:Hid (Below W2.heap.size W2 wr):=hbel;clear hbel;obtain⟨k0,k1,k2,k3⟩:=HCL.out wr HL.out;by_cases hlt:k < x.VC.length
  ·obtain⟨c1,o1,rfl,hc1,hA⟩:=R1.out.bd.at hlt;obtain⟨c2,o2,rfl,hc2,hB⟩:=R2.out.bd.at hlt;have HW:Hid _:=HB.out.trans (HL.out.mono HB.out.size);obtain⟨q,hq⟩: ∃q,q=x.VC[k]:=⟨_,rfl⟩;have CA:Hid (∀wy,Below wr.heap.size wr wy→wy.cell? ⟨c1,o1+k*5,none⟩=some (iV q.UU)∧wy.cell? ⟨c1,o1+k*5+1,none⟩=some (.string q.inn)∧wy.cell? ⟨c1,o1+k*5+2,none⟩=some (iV q.UW)∧wy.cell? ⟨c1,o1+k*5+3,none⟩=some (.string q.out)∧wy.cell? ⟨c1,o1+k*5+4,none⟩=some (iV q.UX)):=fun wy hy=>by
    have h3:=(hA.below hc1 (HW.out.trans (hy.mono HW.out.size))) k hlt;rw[←hq]at h3;exact⟨h3 0 _ rfl,h3 1 _ rfl,h3 2 _ rfl,h3 3 _ rfl,h3 4 _ rfl⟩
   have CB:Hid (∀wy,Below wr.heap.size wr wy→wy.cell? ⟨c2,o2+k*5,none⟩=some (iV q.UU)∧wy.cell? ⟨c2,o2+k*5+1,none⟩=some (.string q.inn)∧wy.cell? ⟨c2,o2+k*5+2,none⟩=some (iV q.UW)∧wy.cell? ⟨c2,o2+k*5+3,none⟩=some (.string q.out)∧wy.cell? ⟨c2,o2+k*5+4,none⟩=some (iV q.UX)):=fun wy hy=>by
    have h3:=(hB.below hc2 (HW.out.trans (hy.mono HW.out.size))) k hlt;rw[←hq]at h3;exact⟨h3 0 _ rfl,h3 1 _ rfl,h3 2 _ rfl,h3 3 _ rfl,h3 4 _ rfl⟩
   have HNE:Hid (∀W,(binOp .neq 48 (.agg (dH q).toArray) (.agg (dH q).toArray)).run Tryz.prog W=.ok (.bool false) W):=fun W=>by rw[KA q q W,DR];rfl
   clear hq hA hB;have hk2:¬(x.VC.length:Int)≤(k:Int):=by omega
   go_upto_region 6 with fail
   go_cut [40] (fun v wx=>v=.bool false∧Below wr.heap.size wr wx)
   case first=>
    rename_i J K2 hJ hK2;refine bH [30,31,32,33,34,35,36,37,38,39,40] (by kernel_rfl) (by kernel_rfl) ?_;iterate 10 (apply cW.u rfl;(·intro K' a wy ho hd hb hK;simp[aS,aF,aD,Region.binds]at ho hd;have hb:=(Below.refl _ wr).drew.trans hb;have hld:=HCL.out wy (HL.out.trans (hb.mono HL.out.size));obtain⟨k0,k1,k2,k3⟩:=hld;have hca:=CA.out wy hb;have hcb:=CB.out wy hb;obtain⟨m0,m1,m2,m3,m4⟩:=hca;obtain⟨n0,n1,n2,n3,n4⟩:=hcb;go_simp;(try go_bits);exact hK _ _ rfl bQ);dsimp only[nA,cA])
    (apply cW.u rfl;(·intro K' a wy ho hd hb hK;simp[aS,aF,aD,Region.binds]at ho hd;have hne:=HNE.out wy;go_simp;(try go_bits);exact hK _ _ rfl bQ);dsimp only[nA,cA])
    intro X wz hR hz;simp only[UB,UC,eW,aF]at hR;simp only[aE,hR];clear hR;go_simp;refine hK2 _ _ (hJ _ _ ?_);(repeat apply Exists.intro)
    refine⟨⟨rfl,(Below.refl _ wr).drew.trans hz⟩,rfl⟩
   case rest=>
   obtain⟨rfl,hbd⟩:=hcut;have HL2:Hid _:=HL.out.trans (hbd.mono HL.out.size);clear hbd;go_wp2_with fail
   go_roundw
   case rel=>exact⟨k+1,by omega,by go_num,HL2.out⟩
   case measure=>simp[intOf];omega
  ·have hk2:(x.VC.length:Int)≤(k:Int):=by omega
   go_wp2_with fail
   go_loopw [6] (fun i wr=>∃k:Nat,k≤x.UZ.length∧i=iV k∧Below W2.heap.size W2 wr) (fun i _=>x.UZ.length-(intOf i).toNat)
   case atStart=>exact⟨0,UR _,rfl,HL.out⟩
   case round=>
    obtain⟨k,hk,rfl,hbel⟩:=hrel;have HL:Hid (Below W2.heap.size W2 wr):=hbel;clear hbel;obtain⟨k0,k1,k2,k3⟩:=HCL.out wr HL.out;by_cases hlt:k < x.UZ.length
    ·obtain⟨c1,o1,rfl,hc1,hA⟩:=R1.out.ss.at hlt;obtain⟨c2,o2,rfl,hc2,hB⟩:=R2.out.ss.at hlt;have HW:Hid _:=HB.out.trans (HL.out.mono HB.out.size);obtain⟨q,hq⟩: ∃q,q=x.UZ[k]:=⟨_,rfl⟩;have CA:Hid (∀wy,Below wr.heap.size wr wy→wy.cell? ⟨c1,o1+k*7,none⟩=some (iV q.UU)∧wy.cell? ⟨c1,o1+k*7+1,none⟩=some (.string q.inn)∧wy.cell? ⟨c1,o1+k*7+2,none⟩=some (iV q.UW)∧wy.cell? ⟨c1,o1+k*7+3,none⟩=some (.string q.peer)∧wy.cell? ⟨c1,o1+k*7+4,none⟩=some (iV q.UV)∧wy.cell? ⟨c1,o1+k*7+5,none⟩=some (iV q.state)∧wy.cell? ⟨c1,o1+k*7+6,none⟩=some (iV q.untl)):=fun wy hy=>by
      have h3:=(hA.below hc1 (HW.out.trans (hy.mono HW.out.size))) k hlt;rw[←hq]at h3;exact⟨h3 0 _ rfl,h3 1 _ rfl,h3 2 _ rfl,h3 3 _ rfl,h3 4 _ rfl,h3 5 _ rfl,h3 6 _ rfl⟩
     have CB:Hid (∀wy,Below wr.heap.size wr wy→wy.cell? ⟨c2,o2+k*7,none⟩=some (iV q.UU)∧wy.cell? ⟨c2,o2+k*7+1,none⟩=some (.string q.inn)∧wy.cell? ⟨c2,o2+k*7+2,none⟩=some (iV q.UW)∧wy.cell? ⟨c2,o2+k*7+3,none⟩=some (.string q.peer)∧wy.cell? ⟨c2,o2+k*7+4,none⟩=some (iV q.UV)∧wy.cell? ⟨c2,o2+k*7+5,none⟩=some (iV q.state)∧wy.cell? ⟨c2,o2+k*7+6,none⟩=some (iV q.untl)):=fun wy hy=>by
      have h3:=(hB.below hc2 (HW.out.trans (hy.mono HW.out.size))) k hlt;rw[←hq]at h3;exact⟨h3 0 _ rfl,h3 1 _ rfl,h3 2 _ rfl,h3 3 _ rfl,h3 4 _ rfl,h3 5 _ rfl,h3 6 _ rfl⟩
     have HNE:Hid (∀W,(binOp .neq 59 (.agg (iB q).toArray) (.agg (iB q).toArray)).run Tryz.prog W=.ok (.bool false) W):=fun W=>by rw[KC q q W,DS];rfl
     clear hq hA hB;have hk2:¬(x.UZ.length:Int)≤(k:Int):=by omega
     go_upto_region 11 with fail
     go_cut [58] (fun v wx=>v=.bool false∧Below wr.heap.size wr wx)
     case first=>
      rename_i J K2 hJ hK2;refine bH [48,49,50,51,52,53,54,55,56,57,58] (by kernel_rfl) (by kernel_rfl) ?_;iterate 10 (apply cW.u rfl;(·intro K' a wy ho hd hb hK;simp[aS,aF,aD,Region.binds]at ho hd;have hb:=(Below.refl _ wr).drew.trans hb;have hld:=HCL.out wy (HL.out.trans (hb.mono HL.out.size));obtain⟨k0,k1,k2,k3⟩:=hld;have hca:=CA.out wy hb;have hcb:=CB.out wy hb;obtain⟨m0,m1,m2,m3,m4,m5,m6⟩:=hca;obtain⟨n0,n1,n2,n3,n4,n5,n6⟩:=hcb;go_simp;(try go_bits);exact hK _ _ rfl bQ);dsimp only[nA,cA])
      (apply cW.u rfl;(·intro K' a wy ho hd hb hK;simp[aS,aF,aD,Region.binds]at ho hd;have hne:=HNE.out wy;go_simp;(try go_bits);exact hK _ _ rfl bQ);dsimp only[nA,cA])
      intro X wz hR hz;simp only[UB,UC,eW,aF]at hR;simp only[aE,hR];clear hR;go_simp;refine hK2 _ _ (hJ _ _ ?_);(repeat apply Exists.intro)
      refine⟨⟨rfl,(Below.refl _ wr).drew.trans hz⟩,rfl⟩
     case rest=>
     obtain⟨rfl,hbd⟩:=hcut;have HL2:Hid _:=HL.out.trans (hbd.mono HL.out.size);clear hbd;go_wp2_with fail
     go_roundw
     case rel=>exact⟨k+1,by omega,by go_num,HL2.out⟩
     case measure=>simp[intOf];omega
    ·have hk2:(x.UZ.length:Int)≤(k:Int):=by omega
     go_wp2_with fail
     go_ret;exact⟨rfl,HB.out.trans (HL.out.mono HB.out.size)⟩
theorem RQ(a b:BA):(a.toList==b.toList)=decide (a=b):=by
 by_cases h:a=b
 ·subst h;simp
 ·rw[TR h];have:a.toList≠b.toList:=fun e=>h (by
   rw[ByteArray.toList_eq,ByteArray.toList_eq]at e;apply ByteArray.ext;exact Array.toList_inj.1 e)
  simpa using this
def pX(q p:P4):Bool:=(q.tos==p.tos)&&((q.id==p.id)&&((q.whole==p.whole)&&((q.more==p.more)&&((q.off==p.off)&&((q.ttl==p.ttl)&&((q.UU==p.UU)&&((q.src.toList==p.src.toList)&&((q.dst.toList==p.dst.toList)&&((q.opts.toList==p.opts.toList)&&((q.data.toList==p.data.toList)))))))))))
theorem wH(q p:P4):pX q p=true↔q=p:=by
 unfold pX;simp only[RQ,TP,beq_iff_eq,TU];constructor
 ·intro h;obtain⟨h0,h1,h2,h3,h4,h5,h6,h7,h8,h9,h10⟩:=h
  cases q;cases p;simp_all
 ·rintro rfl;simp
theorem CP(D:Nat)(q p:P4)(W:World):(Op.equalIn (D+2) 33 (.agg (dY q).toArray) (.agg (dY p).toArray)).run Tryz.prog W=.ok (pX q p) W:=by
 have h1:Tryz.prog.underlying 33=some (.struct (Tryz.prog.fieldsOf 33)):=by kernel_rfl
 have h2:Tryz.prog.stoodInHeld 33=false:=by kernel_rfl
 rw[run_equalIn_agg _ _ _ _ _ h1 h2];have h3:(Tryz.prog.fieldsOf 33).toList.length=11:=by kernel_rfl
 have h4 : ((Tryz.prog.fieldsOf 33).toList.map fun f => (f.type, f.offset, f.name == "_")) = [(2, 0, false), (2, 1, false), (4, 2, false), (4, 3, false), (2, 4, false), (2, 5, false), (2, 6, false), (9, 7, false), (9, 8, false), (9, 9, false), (9, 10, false)] := by kernel_rfl
 generalize (Tryz.prog.fieldsOf 33).toList=fs at *;match fs,h3 with
 | [f0,f1,f2,f3,f4,f5,f6,f7,f8,f9,f10],_=>
  simp only[List.map_cons,List.map_nil,List.cons.injEq,Prod.mk.injEq,and_true]at h4;obtain⟨⟨a0,b0,c0⟩,⟨a1,b1,c1⟩,⟨a2,b2,c2⟩,⟨a3,b3,c3⟩,⟨a4,b4,c4⟩,⟨a5,b5,c5⟩,⟨a6,b6,c6⟩,⟨a7,b7,c7⟩,⟨a8,b8,c8⟩,⟨a9,b9,c9⟩,⟨a10,b10,c10⟩⟩:=h4
  have d0 : (f0.name ≠ "_") = True := by simpa using c0
  have q0:∀W,(part 2 (dY q).toArray 0).run Tryz.prog W=.ok (iV q.tos) W:=fun W=>by kernel_rfl
  have p0:∀W,(part 2 (dY p).toArray 0).run Tryz.prog W=.ok (iV p.tos) W:=fun W=>by kernel_rfl
  have d1 : (f1.name ≠ "_") = True := by simpa using c1
  have q1:∀W,(part 2 (dY q).toArray 1).run Tryz.prog W=.ok (iV q.id) W:=fun W=>by kernel_rfl
  have p1:∀W,(part 2 (dY p).toArray 1).run Tryz.prog W=.ok (iV p.id) W:=fun W=>by kernel_rfl
  have d2 : (f2.name ≠ "_") = True := by simpa using c2
  have q2:∀W,(part 4 (dY q).toArray 2).run Tryz.prog W=.ok (.bool q.whole) W:=fun W=>by kernel_rfl
  have p2:∀W,(part 4 (dY p).toArray 2).run Tryz.prog W=.ok (.bool p.whole) W:=fun W=>by kernel_rfl
  have d3 : (f3.name ≠ "_") = True := by simpa using c3
  have q3:∀W,(part 4 (dY q).toArray 3).run Tryz.prog W=.ok (.bool q.more) W:=fun W=>by kernel_rfl
  have p3:∀W,(part 4 (dY p).toArray 3).run Tryz.prog W=.ok (.bool p.more) W:=fun W=>by kernel_rfl
  have d4 : (f4.name ≠ "_") = True := by simpa using c4
  have q4:∀W,(part 2 (dY q).toArray 4).run Tryz.prog W=.ok (iV q.off) W:=fun W=>by kernel_rfl
  have p4:∀W,(part 2 (dY p).toArray 4).run Tryz.prog W=.ok (iV p.off) W:=fun W=>by kernel_rfl
  have d5 : (f5.name ≠ "_") = True := by simpa using c5
  have q5:∀W,(part 2 (dY q).toArray 5).run Tryz.prog W=.ok (iV q.ttl) W:=fun W=>by kernel_rfl
  have p5:∀W,(part 2 (dY p).toArray 5).run Tryz.prog W=.ok (iV p.ttl) W:=fun W=>by kernel_rfl
  have d6 : (f6.name ≠ "_") = True := by simpa using c6
  have q6:∀W,(part 2 (dY q).toArray 6).run Tryz.prog W=.ok (iV q.UU) W:=fun W=>by kernel_rfl
  have p6:∀W,(part 2 (dY p).toArray 6).run Tryz.prog W=.ok (iV p.UU) W:=fun W=>by kernel_rfl
  have d7 : (f7.name ≠ "_") = True := by simpa using c7
  have q7:∀W,(part 9 (dY q).toArray 7).run Tryz.prog W=.ok (.string q.src) W:=fun W=>by kernel_rfl
  have p7:∀W,(part 9 (dY p).toArray 7).run Tryz.prog W=.ok (.string p.src) W:=fun W=>by kernel_rfl
  have d8 : (f8.name ≠ "_") = True := by simpa using c8
  have q8:∀W,(part 9 (dY q).toArray 8).run Tryz.prog W=.ok (.string q.dst) W:=fun W=>by kernel_rfl
  have p8:∀W,(part 9 (dY p).toArray 8).run Tryz.prog W=.ok (.string p.dst) W:=fun W=>by kernel_rfl
  have d9 : (f9.name ≠ "_") = True := by simpa using c9
  have q9:∀W,(part 9 (dY q).toArray 9).run Tryz.prog W=.ok (.string q.opts) W:=fun W=>by kernel_rfl
  have p9:∀W,(part 9 (dY p).toArray 9).run Tryz.prog W=.ok (.string p.opts) W:=fun W=>by kernel_rfl
  have d10 : (f10.name ≠ "_") = True := by simpa using c10
  have q10:∀W,(part 9 (dY q).toArray 10).run Tryz.prog W=.ok (.string q.data) W:=fun W=>by kernel_rfl
  have p10:∀W,(part 9 (dY p).toArray 10).run Tryz.prog W=.ok (.string p.data) W:=fun W=>by kernel_rfl
  unfold pX;simp only[Op.eqFields,a0,b0,d0,q0,p0,a1,b1,d1,q1,p1,a2,b2,d2,q2,p2,a3,b3,d3,q3,p3,a4,b4,d4,q4,p4,a5,b5,d5,q5,p5,a6,b6,d6,q6,p6,a7,b7,d7,q7,p7,a8,b8,d8,q8,p8,a9,b9,d9,q9,p9,a10,b10,d10,q10,p10,if_true,Sem.run_bind,Sem.run_ite,Sem.run_pure,Result.andThen_ok,run_equalIn_string _ _ _ _ _ Tryz.underlying9,run_equalIn_int _ _ _ _ _ _ _ Tryz.underlying2,run_equalIn_bool' _ _ _ _ _ Tryz.underlying4];generalize (q.tos==p.tos)=g0;generalize (q.id==p.id)=g1;generalize (q.whole==p.whole)=g2;generalize (q.more==p.more)=g3;generalize (q.off==p.off)=g4;generalize (q.ttl==p.ttl)=g5;generalize (q.UU==p.UU)=g6;generalize (q.src.toList==p.src.toList)=g7;generalize (q.dst.toList==p.dst.toList)=g8;generalize (q.opts.toList==p.opts.toList)=g9;generalize (q.data.toList==p.data.toList)=g10
  cases g0
  ·simp
  simp only[UL,UD,if_false,UE]
  cases g1
  ·simp
  simp only[UL,UD,if_false,UE]
  cases g2
  ·simp
  simp only[UL,UD,if_false,UE]
  cases g3
  ·simp
  simp only[UL,UD,if_false,UE]
  cases g4
  ·simp
  simp only[UL,UD,if_false,UE]
  cases g5
  ·simp
  simp only[UL,UD,if_false,UE]
  cases g6
  ·simp
  simp only[UL,UD,if_false,UE]
  cases g7
  ·simp
  simp only[UL,UD,if_false,UE]
  cases g8
  ·simp
  simp only[UL,UD,if_false,UE]
  cases g9
  ·simp
  simp only[UL,UD,if_false,UE]
  cases g10<;>simp
theorem LY(q p:P4)(W:World):(binOp .eql 33 (.agg (dY q).toArray) (.agg (dY p).toArray)).run Tryz.prog W=.ok (.bool (pX q p)) W:=by
 rw[run_eql_struct,CP 9998 q p W];rfl
theorem MM(q p:P4)(W:World):(binOp .neq 33 (.agg (dY q).toArray) (.agg (dY p).toArray)).run Tryz.prog W=.ok (.bool (!pX q p)) W:=by
 rw[run_neq_struct,CP 9998 q p W];rfl
theorem yK(q:P4)(s d t:BA)(w:World) :
  Cb 12 #[.agg (fM q.tos q.id q.whole q.more q.off q.ttl q.UU s d q.opts t).toArray,.agg (dY q).toArray] w (.bool true):=by
 have HS0:=SC w (fM q.tos q.id q.whole q.more q.off q.ttl q.UU s d q.opts t) 33 (dY q) 33 (by simp) (by simp)
 skip;go_enter Tryz.func12,Tryz.ntmps12
 go_upto_region 1 with fail
 generalize World.alloc _ _=W0 at *;have HHk:aA W0 (w.heap.size) (fM q.tos q.id q.whole q.more q.off q.ttl q.UU s d q.opts t):=HS0.out.at cO;have HHl:aA W0 (w.heap.size+1) (dY q):=HS0.out.at eB;have hB0:=HS0.out.b;obtain⟨-,-,-,-,-,-,-,l7,l8,-,l10⟩:=HHl.c11;obtain⟨-,-,-,-,-,-,-,kf7,kf8,-,kf10⟩:=HHk.f11;obtain⟨-,-,-,-,-,-,-,k7,k8,-,k10⟩:=HHk.c11;have G0:Hid (aA ((sW (sW W0 w.heap.size 7 (.string q.src)) w.heap.size 8 (.string q.dst)).setCell ⟨w.heap.size,10,none⟩ (.string q.data)) (w.heap.size) (dY q)):=((HHk.set 7 (.string q.src)).set 8 (.string q.dst)).set 10 (.string q.data);have G1:Hid (aA ((sW (sW W0 w.heap.size 7 (.string q.src)) w.heap.size 8 (.string q.dst)).setCell ⟨w.heap.size,10,none⟩ (.string q.data)) (w.heap.size+1) (dY q)):=(eN (eN HHl)).setOther (by omega) _;have G2:Hid (Below w.heap.size w ((sW (sW W0 w.heap.size 7 (.string q.src)) w.heap.size 8 (.string q.dst)).setCell ⟨w.heap.size,10,none⟩ (.string q.data))):=(sCl (sCl hB0 lR) lR).setCell (p:=⟨w.heap.size,10,none⟩) lR _;clear HHk HHl hB0 HS0;go_upto_region 4 with fail
 generalize ((sW (sW W0 w.heap.size 7 (.string q.src)) w.heap.size 8 (.string q.dst)).setCell ⟨w.heap.size,10,none⟩ (.string q.data))=W1 at *;clear k7 k8 k10 kf7 kf8 kf10 l7 l8 l10;obtain⟨k0,k1,k2,k3,k4,k5,k6,k7,k8,k9,k10⟩:=G0.out.c11;obtain⟨l0,l1,l2,l3,l4,l5,l6,l7,l8,l9,l10⟩:=G1.out.c11;have hsq:pX q q=true:=(wH q q).2 rfl;have heq:(binOp .eql 33 (.agg (dY q).toArray) (.agg (dY q).toArray)).run Tryz.prog W1=.ok (.bool true) W1:=by rw[LY q q W1,hsq]
 clear hsq G0 G1;go_wp2_with fail
 go_ret;exact⟨rfl,G2.out⟩
open Go.ChangeShapes Go.WideShapes
section
variable {base lo hi B:Nat} {w W:World} {a b:OA} {x:Bb}
end
theorem wV{a b:BA}(h:a.toList=b.toList):a.size=b.size:=by rw[zG h]
theorem ON{n:Int}(h0:0≤n)(h1:n≤100000):gO n:=by unfold gO;omega
theorem yE{n a b:Int}(h:aM n a b=true)(ha:0≤a)(hb:b≤100000):gO n:=by
 have:=eD h;exact ON (by omega) (by omega)
theorem nO{p:Pl}{x:Bb}(h:nN p x)(hsz:∀s∈p.VA,s.size≤1048576):x.VC.length≤1048576∧x.UZ.length≤1048576∧(∀q∈x.VC,fJ q)∧(∀s∈x.UZ,iM s):=by
 have hp:=h.pool;unfold cT at hp;simp only[TP,TU]at hp;have hm:=eD hp.1.1.1.2;have hb:∀q∈x.VC,fJ q:=fun q hq=>by
  obtain⟨i,hi,rfl⟩:=UN hq;have h1:=h.bind i hi;unfold cG at h1;simp only[TP]at h1;obtain⟨⟨⟨⟨⟨a1,a2⟩,a3⟩,a4⟩,a5⟩,-⟩:=h1;have a2':x.VC[i].inn.size≤16:=by unfold cI at a2;simp at a2;omega
  unfold nL at a4;unfold jS at a3;obtain⟨s,hs,e⟩:=List.any_eq_true.1 a4;have hz:=wV (of_decide_eq_true e);have:=hsz s hs;unfold eP at a1;simp only[UK,TU]at a1;exact⟨by omega,by omega,by unfold gO;rcases a1 with (a|a)|a<;>omega,yE a3 (by omega) (by omega),yE a5 (by omega) (by omega)⟩
 refine⟨by have:=h.len;omega,by have:=h.most;omega,hb,fun s hs=>?_⟩;obtain⟨c,hc,ho⟩:=List.any_eq_true.1 (h.has s hs);have hcd:=hb c hc;have hv:=h.UZ s hs;unfold sR at hv;simp only[TP,TU]at hv;unfold cD at ho;simp only[TP,TU]at ho;have hi:=wV ho.1.2;exact⟨by have:=hcd.1;omega,by have:=hv.1.1.1.1;omega,ho.1.1 ▸ hcd.2.2.1,ho.2 ▸ hcd.2.2.2.1⟩
theorem KK{s d:BA}{p:Int}{t:BA}{g:Fl}(h:aU s.size p t=0):(jN (aR s d p t) g t).size≤t.size:=by
 have hpr:(aR s d p t).UU=p:=(gN (d:=d) h).1;have h8:8≤t.size∧(p=6→20≤t.size):=by
  unfold aU at h;split at h
  ·omega
  ·split at h
   ·omega
   ·rename_i _ h2;unfold gA at h2;simp only[UK,TP,TU,not_or,not_and]at h2;exact⟨by omega,fun e=>by have:=(h2.1 e);omega⟩
 unfold jN;split
 ·split
  ·exact UR _
  ·rw[kF h8.1];exact Nat.le_refl _
 ·rw[eQ,kF h8.1]
  ·exact Nat.le_refl _
  ·rw[kF h8.1,aP,hpr];unfold aY;split
   ·rename_i e;have:=h8.2 e;omega
   ·split<;>omega
structure SE(p:Pl)(x:Bb)(q:P4)(now:Int)(ans:No)(ft:Int)(nv:No):Prop where
 a1:ft≠0→ans=gW ft
 a2:ft=0→q.UU=1→ans=gW 11
 a3:ft=0→q.UU≠1→nv.code≠0→ans=nv
 a4:ft=0→q.UU≠1→nv.code=0→ans=fB p nv.bib nv.four now
 go:ft=0→cX p x q now=nv
 sm:ft=0→nv.code=0→(nv.bib.VC.length≤1048576∧nv.bib.UZ.length≤1048576∧(∀q∈nv.bib.VC,fJ q)∧(∀s∈nv.bib.UZ,iM s))∧nv.four.src.size≤1048576∧nv.four.dst.size≤1048576∧nv.four.opts.size≤1048576∧nv.four.data.size≤1048576
theorem NZ(p:Pl)(x:Bb)(q:P4)(now:Int)(hsz:∀s∈p.VA,s.size≤1048576):SE p x q now (sN p x q now) (dP p x q now) (dS p x q now):=by
 have hb:dP p x q now=0→sN p x q now=if q.UU=1 then gW 11 else if (dS p x q now).code≠0 then dS p x q now else fB p (dS p x q now).bib (dS p x q now).four now:=fun h=>by
  unfold sN;rw[if_neg (by simp[h])]
 refine⟨fun h=>by unfold sN;rw[if_pos h],fun h e=>by rw[hb h,if_pos e],fun h e c=>by rw[hb h,if_neg e,if_pos c],fun h e c=>by rw[hb h,if_neg e,if_neg (by simp[c])],fun h=>by unfold cX;rw[if_neg (by simp[h])],fun h c=>?_⟩;obtain⟨h1,h2,h3⟩:=mI h;obtain⟨s1,s2,s3,s4⟩:=jZ h2;unfold dS at c ⊢;split at c
 ·rename_i hc;exact absurd c hc
 ·rename_i hc;have hc0:aU q.src.size q.UU q.data=0:=by simpa using hc
  split at c
  ·rename_i hn;exact absurd c hn
  ·rename_i hn;rw[if_neg hc,if_neg hn];have hn0:(gF p x (kV (aR q.src q.dst q.UU q.data) q.dst q.data) now).code=0:=by simpa using hn
   have ht:=zW s1 s2 hc0;have hg:=sE (jB.1 h1) h3 ht hn0;have he:=nP h1 h3 ht hn0;refine⟨nO hg.1 hsz,?_,?_,?_,?_⟩
   ·dsimp only;have:=he.1;omega
   ·dsimp only;omega
   ·dsimp only;omega
   ·dsimp only;have:=KK (s:=q.src) (d:=q.dst) (g:=gP (aR q.src q.dst q.UU q.data) (gF p x (kV (aR q.src q.dst q.UU q.data) q.dst q.data) now).bind.out (gF p x (kV (aR q.src q.dst q.UU q.data) q.dst q.data) now).bind.UX q.dst) hc0;omega
section
variable {w W:World} {base:Nat} {a b:OA} {x:Bb}
end
end Go.Proofs.YtdkepkaflielhaaGreatDoor
