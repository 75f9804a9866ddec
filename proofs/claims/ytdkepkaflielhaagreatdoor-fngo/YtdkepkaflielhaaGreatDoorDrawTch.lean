import Derived.Test.YtdkepkaflielhaaGreatDoorMerged16
set_option linter.unusedVariables false
set_option linter.unusedSimpArgs false
set_option maxRecDepth 100000
set_option maxHeartbeats 8000000
namespace Go.Proofs.YtdkepkaflielhaaGreatDoor
open Go.RowKit Go.PlainAid
theorem LR{f:Bd→Bool}{xs:List Bd}{s:BA}(h:∀q∈xs,vG q):vG (vJ f xs s):=by
 have hz:vG lT:=⟨by decide,by decide,by unfold uY;decide,by unfold uY;decide,by unfold uY;decide⟩;unfold vJ;by_cases h1:20000 < s.size
 ·rw[if_pos h1];exact hz
 ·rw[if_neg h1]
  cases hf:xs.find? f with
  | none=>exact hz
  | some c=>exact h c (UP hf)
abbrev lZ(t:Tc):List Value:=(FF t)
abbrev K8(w:World)(pa:OA)(pc:Nat)(p:Pl)(ba bo:OA)(ca cb:Nat)(x:Bb):List (Nat × List Value):=[(w.heap.size,(bM pa pc p)),(w.heap.size+1,(bF ba ca bo cb x)),(w.heap.size+1+1,(eO 0 false ⟨#[]⟩ 0 ⟨#[]⟩ 0 0))]
def SL(n B:Nat)(ss:List Ss):Value→World→Prop:=fun v w=>∃s∈ss,v=wR s
theorem QX(n B:Nat)(ss:List Ss):cU (EB B) (SL n B ss):=fun _ _ _ h _=>h
def NX(B:Nat)(ss:List Ss):Value→World→Prop:=fun v w=>∃b o s,s∈ss∧v=.pointer (some ⟨b,o,none⟩)∧b≠B∧∀j u,(fY s)[j]?=some u→w.cell? ⟨b,o+j,none⟩=some u
theorem PA(B:Nat)(ss:List Ss):cU (EB B) (NX B ss):=fun v w w' ⟨b,o,s,h1,h2,h3,h4⟩ he=>⟨b,o,s,h1,h2,h3,fun j u hu=>he.cell (h4 j u hu) h3⟩
theorem lC(B:Nat)(sa:OA)(len cap:Nat)(size:Int)(pa:OA)(pc:Nat)(p:Pl)(ba bo:OA)(ca cb:Nat)(x:Bb)(w:World)(hl:len≤1048576)(hpd:pH p)(hbd:nM x)(hp:bP bX 1 w pa p.VA)(hx:dI w ba bo x)(hpB':∀g o,pa=some ⟨g,o,none⟩→g≠B)(hbB:x.VC=[]∨∀g o,ba=some ⟨g,o,none⟩→g≠B)(hsB:x.UZ=[]∨∀g o,bo=some ⟨g,o,none⟩→g≠B)(hs:iT w B sa len cap size) :
  Calls Tryz.prog 55 #[.pointer (some ⟨B,0,none⟩),jQ pa pc p,iQ ba bo ca cb x] w fun e w'=>∃t,e=.returned (qF t)∧pB t∧iT w' B sa len cap size∧w.grownBy w' (some B):=by
 have hBW:B < w.heap.size:=(Dr.start hs).hB;have HPX:Hid (∀W,w.grownBy W (some B)→bP bX 1 W pa p.VA):=fun W hW=>hp.grown hW (.inr hpB')
 have HBX:Hid (∀W,w.grownBy W (some B)→bP eG 5 W ba x.VC):=fun W hW=>hx.bd.grown hW hbB
 have HSX:Hid (∀W,w.grownBy W (some B)→bP fY 7 W bo x.UZ):=fun W hW=>hx.ss.grown hW hsB
 have HPD:Hid (pH p):=hpd;have HBD:Hid (nM x):=hbd;have hsl:x.UZ.length≤100:=hbd.2.1;have hbl:x.VC.length≤1048576:=by have:=hbd.1;omega
 have hpl1:1≤p.VA.length:=hpd.1;have hpl3:p.VA.length≤3:=hpd.2.1;have HB:Hid (∀(s:Ss) W,w.grownBy W (some B)→Calls Tryz.prog 11 #[.agg (bF ba ca bo cb x).toArray,iV s.UU,.string s.inn,iV s.UW] W fun e w'=>∃o,vG o∧e=.returned (.agg (dH o).toArray)∧Below W.heap.size W w'):=fun s W hW=>(qA x.VC s.UU s.inn s.UW ba ca _ W hbl (hx.bd.grown hW hbB)).mono fun e w' hh=>⟨_,LR hbd.2.2.1,hh.1,hh.2⟩
 have e0:aA ((aW (aW w (bM pa pc p) 27) (bF ba ca bo cb x) 31).alloc (.cells (eO 0 false ⟨#[]⟩ 0 ⟨#[]⟩ 0 0).toArray 89)) (w.heap.size) (bM pa pc p):=by
  have h:=aA.new w (bM pa pc p) 27;try simp only[TQ]at h
  exact((h.alloc _).alloc _)
 have e1:aA ((aW (aW w (bM pa pc p) 27) (bF ba ca bo cb x) 31).alloc (.cells (eO 0 false ⟨#[]⟩ 0 ⟨#[]⟩ 0 0).toArray 89)) (w.heap.size+1) (bF ba ca bo cb x):=by
  have h:=aA.new (w.alloc (.cells (bM pa pc p).toArray 27)) (bF ba ca bo cb x) 31;try simp only[TQ]at h
  exact(h.alloc _)
 have e2:aA ((aW (aW w (bM pa pc p) 27) (bF ba ca bo cb x) 31).alloc (.cells (eO 0 false ⟨#[]⟩ 0 ⟨#[]⟩ 0 0).toArray 89)) (w.heap.size+1+1) (eO 0 false ⟨#[]⟩ 0 ⟨#[]⟩ 0 0):=by
  have h:=aA.new ((aW w (bM pa pc p) 27).alloc (.cells (bF ba ca bo cb x).toArray 31)) (eO 0 false ⟨#[]⟩ 0 ⟨#[]⟩ 0 0) 89;try simp only[TQ]at h
  exact h
 have HS0:Hid (DB w B sa len cap size (K8 w pa pc p ba bo ca cb x) ((aW (aW w (bM pa pc p) 27) (bF ba ca bo cb x) 31).alloc (.cells (eO 0 false ⟨#[]⟩ 0 ⟨#[]⟩ 0 0).toArray 89))):=by
  refine⟨((((Dr.start hs).alloc _).alloc _).alloc _),fun e he=>?_,fun e he=>?_,fun e he=>?_⟩
  ·simp only[TW,TV,or_false]at he;rcases he with rfl|rfl|rfl
   ·exact e0
   ·exact e1
   ·exact e2
  ·simp only[TW,TV,or_false]at he;rcases he with rfl|rfl|rfl<;>simp
  ·simp only[TW,TV,or_false]at he;rcases he with rfl|rfl|rfl<;>simp<;>omega
 clear e0 e1 e2 hs hp hx hpd hbd;have hun:undef=Value.tuple #[]:=rfl;unfold jQ iQ;go_enter Tryz.func55,Tryz.ntmps55
 go_upto_region 1 with fail
 generalize World.alloc _ _=W0 at *;go_wp2_with fail
 refine(xK B sa len cap size _ hl HS0.out.dr.src).mono ?_;rintro e U1 ⟨pr,rfl,lpr,upr,hs,hg⟩;have T1:Hid (DB w B sa len cap size (K8 w pa pc p ba bo ca cb x) U1):=HS0.out.draw hs hg;clear hs hg HS0;go_wp2_with fail
 refine(bO 3 B sa len cap size _ (by omega) hl T1.out.dr.src).mono ?_;rintro e U2 ⟨c1,rfl,hs,hg⟩;have T2:Hid (DB w B sa len cap size (K8 w pa pc p ba bo ca cb x) U2):=T1.out.draw hs hg;clear hs hg T1;go_wp2_with fail
 refine(bO 4 B sa len cap size _ (by omega) hl T2.out.dr.src).mono ?_;rintro e U3 ⟨c2,rfl,hs,hg⟩;have T3:Hid (DB w B sa len cap size (K8 w pa pc p ba bo ca cb x) U3):=T2.out.draw hs hg;clear hs hg T2;go_wp2_with fail
 refine(mB c2 B sa len cap size _ hl T3.out.dr.src).mono ?_;rintro e U4 ⟨s1,rfl,hz1,hs,hg⟩;have T4:Hid (DB w B sa len cap size (K8 w pa pc p ba bo ca cb x) U4):=T3.out.draw hs hg;clear hs hg T3;go_wp2_with fail
 refine(aT 4 B sa len cap size _ (by omega) (by omega) hl T4.out.dr.src).mono ?_;rintro e U5 ⟨r1,rfl,lr1,ur1,hs,hg⟩;have T5:Hid (DB w B sa len cap size (K8 w pa pc p ba bo ca cb x) U5):=T4.out.draw hs hg;clear hs hg T4;go_wp2_with fail
 refine(mB false B sa len cap size _ hl T5.out.dr.src).mono ?_;rintro e U6 ⟨s2,rfl,hz2,hs,hg⟩;have T6:Hid (DB w B sa len cap size (K8 w pa pc p ba bo ca cb x) U6):=T5.out.draw hs hg;clear hs hg T5;go_wp2_with fail
 refine(aT 2 B sa len cap size _ (by omega) (by omega) hl T6.out.dr.src).mono ?_;rintro e U7 ⟨r2,rfl,lr2,ur2,hs,hg⟩;have T7:Hid (DB w B sa len cap size (K8 w pa pc p ba bo ca cb x) U7):=T6.out.draw hs hg;clear hs hg T6;go_wp2_with fail
 refine(xH B sa len cap size _ hl T7.out.dr.src).mono ?_;rintro e U8 ⟨fl,rfl,lfl,ufl,hs,hg⟩;have T8:Hid (DB w B sa len cap size (K8 w pa pc p ba bo ca cb x) U8):=T7.out.draw hs hg;clear hs hg T7;go_upto_region 2 with fail
 have S1:Hid _:=T8.out.push (eO pr (!c1) s1 (1000+r1) s2 (80+r2) fl) (by simp) 89;have hz1':s1.size≤1000:=by rw[hz1];split<;>omega
 have hz2':s2.size≤1000:=by rw[hz2];split<;>omega
 generalize hW1:U8.alloc _=W1 at *;have hne0:w.heap.size≠U8.heap.size∧w.heap.size+1≠U8.heap.size∧w.heap.size+1+1≠U8.heap.size:=by
  have h1:=T8.out.lts;exact⟨Nat.ne_of_lt (h1 (_,_) cO),Nat.ne_of_lt (h1 (_,_) eB),Nat.ne_of_lt (h1 (_,_) eX)⟩
 obtain⟨u0,ht0⟩: ∃t:Tc,t=⟨pr,!c1,s1,1000+r1,s2,80+r2,fl⟩:=⟨_,rfl⟩;have HT0:Hid (pB u0):=by unfold Hid;rw[ht0];exact⟨hz1',hz2',by show uY pr;unfold uY;omega⟩
 generalize hXX:U8.heap.size=PX at *;have HNE:Hid (∀e∈((K8 w pa pc p ba bo ca cb x):List (Nat × List Value)),e.1≠PX):=fun e he=>by
  simp only[TW,TV,or_false]at he;rcases he with rfl|rfl|rfl
  ·exact hne0.1
  ·exact hne0.2.1
  ·exact hne0.2.2
 have S2:Hid (DB w B sa len cap size ((PX,lZ u0)::K8 w pa pc p ba bo ca cb x) W1):=by unfold Hid;rw[ht0];exact S1.out
 clear S1 hW1 hXX ht0 hne0 hz1 hz2 hz1' hz2' lpr upr lr1 ur1 lr2 ur2 lfl ufl;have HHt:aA W1 PX (lZ u0):=S2.out.at cO;have y1:=HHt.cell (j:=1) rfl;have yf1:=HHt.free (j:=1) (by simp);clear HHt;obtain⟨ins,hin⟩: ∃b,b=u0.UY:=⟨_,rfl⟩;rw[←hin]at y1;clear hin;go_cut [35] (fun v wx=>(∃b,v=.bool b)∧DB w B sa len cap size ((PX,lZ u0)::K8 w pa pc p ba bo ca cb x) wx)
 case first=>
  cases ins with
  | false=>
   go_wp2_with fail
   go_meet;exact⟨⟨_,rfl⟩,S2.out⟩
  | true=>
   go_wp2_with fail
   refine(bO 2 B sa len cap size _ (by omega) hl S2.out.dr.src).mono ?_;rintro e U9 ⟨c9,rfl,hs,hg⟩;have S3:Hid (DB w B sa len cap size ((PX,lZ u0)::K8 w pa pc p ba bo ca cb x) U9):=S2.out.draw hs hg;clear hs hg;go_wp2_with fail
   go_meet;exact⟨⟨_,rfl⟩,S3.out⟩
 case rest=>
 obtain⟨⟨c3,rfl⟩,hS⟩:=hcut;have S4:Hid (DB w B sa len cap size ((PX,lZ u0)::K8 w pa pc p ba bo ca cb x) wc):=hS;clear hS S2 y1 yf1 ins;generalize wc=W4 at *;go_upto_if 35 with fail
 go_cut [] (fun wx=>∃u,pB u∧DB w B sa len cap size ((PX,lZ u)::K8 w pa pc p ba bo ca cb x) wx)
 case first=>
  cases c3 with
  | false=>
   go_wp2_with fail
   go_meet;exact⟨_,HT0.out,S4.out⟩
  | true=>
   have HHt:aA W4 PX (lZ u0):=S4.out.at cO;have y6:=HHt.cell (j:=6) rfl;have yf6:=HHt.free (j:=6) (by simp);clear HHt;have S5:Hid _:=S4.out.set 6 (iV 2) rfl HNE.out;go_wp2_with fail
   go_meet;exact⟨{ u0 with VB:=2 },HT0.out,S5.out⟩
 case rest=>
 obtain⟨u1,hu,hS⟩:=hcut;have Hu1:Hid (pB u1):=hu;have S6:Hid (DB w B sa len cap size ((PX,lZ u1)::K8 w pa pc p ba bo ca cb x) wc):=hS;clear hu hS S4 HT0;generalize wc=W6 at *;have HHt:aA W6 PX (lZ u1):=S6.out.at cO;have y1:=HHt.cell (j:=1) rfl;have yf1:=HHt.free (j:=1) (by simp);clear HHt;obtain⟨ins,hin⟩: ∃b,b=u1.UY:=⟨_,rfl⟩;rw[←hin]at y1;clear hin;have HHp:aA W6 (w.heap.size) (bM pa pc p):=S6.out.at eB;have p0:=HHp.cell (j:=0) rfl;clear HHp;have hpI:(0:Int) < (p.VA.length:Int):=by omega
 go_upto_region 4 with fail
 go_cut [45] (fun v wx=>v=.bool (!ins)∧DB w B sa len cap size ((PX,lZ u1)::K8 w pa pc p ba bo ca cb x) wx)
 case first=>
  cases ins;all_goals
   go_wp2_with fail
   go_meet;exact⟨by first | rfl | (simp;omega),S6.out⟩
 case rest=>
 obtain⟨rfl,hS⟩:=hcut;have S7:Hid (DB w B sa len cap size ((PX,lZ u1)::K8 w pa pc p ba bo ca cb x) wc):=hS;clear hS S6 y1 yf1 p0;generalize wc=W7 at *;go_upto_if 45 with fail
 go_cut [] (fun wx=>∃u,pB u∧DB w B sa len cap size ((PX,lZ u)::K8 w pa pc p ba bo ca cb x) wx)
 case first=>
  cases ins with
  | true=>
   go_wp2_with fail
   go_meet;exact⟨_,Hu1.out,S7.out⟩
  | false=>
   obtain⟨gp,op,hpa,hgp,-⟩:=(HPX.out w (World.grownBy.refl _ _)).at (k:=0) (by omega);subst hpa;go_upto_region 5 with fail
   clear hun;have hgB:gp≠B:=hpB' gp op rfl;refine eU (EB B) (fun wx=>DB w B sa len cap size ((PX,lZ u1)::K8 w (some ⟨gp,op,none⟩) pc p ba bo ca cb x) wx) [46,47,48,49,50,51,52,53,54,55] (by kernel_rfl) (by kernel_rfl) (S7.out.below bR.drew) ?_;iterate 6 (apply cP.u xQ rfl;(·intro K' a wy ho hd hI hK;simp[aS,aF,aD,Region.binds]at ho hd;have p0:wy.cell? ⟨w.heap.size,0,none⟩=some (.slice (some ⟨gp,op,none⟩) p.VA.length pc):=(show aA wy (w.heap.size) (bM (some ⟨gp,op,none⟩) pc p) from hI.at eB).cell rfl;go_simp;(try go_bits);exact hK _ rfl);dsimp only[nA,cA])
   refine cP.rel (n:=6) (QD p.VA.length) (NI) [_,_,_,_,_,_,QD p.VA.length] rfl rfl ?_ ?_
   ·intro K' a wy ho hd hI hK;rw[wN rfl];have q2:=hd ⟨2,.data⟩ (by simp) rfl;have q5:=hd ⟨5,.data⟩ (by simp) rfl;simp[aS,aF,aD]at q2 q5;clear hd ho;go_simp;refine(fE (p.VA.length:Int) B sa len cap size wy (by omega) hl hI.dr.src).mono ?_;rintro e wz ⟨r,rfl,h0,h1,hsz,hgz⟩;obtain⟨k,rfl⟩:=TZ h0;exact hK _ _ ⟨k,rfl,by omega⟩ hgz (hI.draw hsz hgz)
   refine cP.rel (n:=7) (QC B 4) (NF) [_,_,_,_,_,_,_,QC B 4] rfl rfl ?_ ?_
   ·intro K' a wy ho hd hI hK;rw[wN rfl];have q1:=hd ⟨1,.data⟩ (by simp) rfl;simp[aS,aF,aD]at q1;obtain⟨k6,e6,u6⟩: QD p.VA.length (aD a 52) wy:=hd ⟨6,.data⟩ (by simp) rfl;simp[aD]at e6;clear hd ho;have i0:(k6:Int) < (p.VA.length:Int):=by omega
    obtain⟨ss,hss,hzz⟩: ∃ss,wy.cell? ⟨gp,op+k6*1,none⟩=some (.string ss)∧ss.size≤4:=by
     obtain⟨g9,o9,e9,_,hat⟩:=(HPX.out wy hI.dr.grown).at u6;injection e9 with e9
     injection e9 with e91 e92
     subst e91 e92;exact⟨p.VA[k6],by have h:=hat k6 u6 0 _ rfl;simpa using h,HPD.out.2.2 _ (TY _)⟩
    have hss':wy.cell? ⟨gp,op+k6,none⟩=some (.string ss):=by simpa using hss
    go_simp;exact hK _ _ ⟨gp,_,ss,rfl,hgB,by first | exact hss | exact hss',hzz⟩ (EB.of bR) hI
   refine cP.rel (n:=8) (JH 4) (JC) [_,_,_,_,_,_,_,_,JH 4] rfl rfl ?_ ?_
   ·intro K' a wy ho hd hI hK;rw[wN rfl];obtain⟨b7,k7,s7,e7,nb7,c7,z7⟩: QC B 4 (aD a 53) wy:=hd ⟨7,.data⟩ (by simp) rfl;simp[aD]at e7;clear hd ho;have p0:wy.cell? ⟨w.heap.size,0,none⟩=some (.slice (some ⟨gp,op,none⟩) p.VA.length pc):=(show aA wy (w.heap.size) (bM (some ⟨gp,op,none⟩) pc p) from hI.at eB).cell rfl;go_simp;exact hK _ _ ⟨s7,rfl,z7⟩ (EB.of bR) hI
   (apply cP.u xQ rfl;(·intro K' a wy ho hd hI hK;simp[aS,aF,aD,Region.binds]at ho hd;go_simp;(try go_bits);exact hK _ rfl);dsimp only[nA,cA])
   intro X wz hR hI;obtain⟨x0,x1,x2,x3,x4,x5,x6,x7,x8,x9,-⟩:=hR;obtain⟨s8,e8,z8⟩:=x8;simp only[aF]at x0 x1 x2 x3 x4 x5 x9;simp only[aE,x0,x1,x2,x3,x4,x5,aE,aE,e8,x9];clear x0 x1 x2 x3 x4 x5 x9;have HHt:aA wz PX (lZ u1):=hI.at cO;have y2:=HHt.cell (j:=2) rfl;have yf2:=HHt.free (j:=2) (by simp);have S8:Hid _:=hI.set 2 (.string s8) rfl HNE.out;clear HHt hI;intro K5 hK5;go_simp;refine hK5 _ _ ?_;simp only[fO];go_wp2_with fail
   go_meet;exact⟨{ u1 with addr:=s8 },⟨by show s8.size≤1000;omega,Hu1.out.2⟩,S8.out⟩
 case rest=>
 obtain⟨u2,hu,hS⟩:=hcut;have Hu2:Hid (pB u2):=hu;have S9:Hid (DB w B sa len cap size ((PX,lZ u2)::K8 w pa pc p ba bo ca cb x) wc):=hS;clear hu hS S7 Hu1 hpI;generalize wc=W9 at *;have HHb:aA W9 (w.heap.size+1) (bF ba ca bo cb x):=S9.out.at eX;have b1:=HHb.cell (j:=1) rfl;clear HHb;go_upto_region 6 with fail
 go_cut [63] (fun v wx=>(∃b,v=.bool b∧(b=true→0 < x.UZ.length))∧DB w B sa len cap size ((PX,lZ u2)::K8 w pa pc p ba bo ca cb x) wx)
 case first=>
  by_cases hx0:0 < x.UZ.length
  case neg=>
   have hxI:¬(0:Int) < (x.UZ.length:Int):=by omega
   have HXL:Hid (x.UZ=[]):=List.length_eq_zero_iff.1 (by omega);clear hx0;go_wp2_with fail
   go_meet;exact⟨⟨false,by first | rfl | simp[HXL.out],fun h=>by cases h⟩,S9.out⟩
  have hxI:(0:Int) < (x.UZ.length:Int):=by omega
  go_wp2_with fail
  refine(bO 2 B sa len cap size _ (by omega) hl S9.out.dr.src).mono ?_;rintro e U9 ⟨c9,rfl,hs,hg⟩;have S10:Hid (DB w B sa len cap size ((PX,lZ u2)::K8 w pa pc p ba bo ca cb x) U9):=S9.out.draw hs hg;clear hs hg;go_wp2_with fail
  go_meet;exact⟨⟨c9,rfl,fun _=>hx0⟩,S10.out⟩
 case rest=>
 obtain⟨⟨c4,rfl,hc4⟩,hS⟩:=hcut;have S11:Hid (DB w B sa len cap size ((PX,lZ u2)::K8 w pa pc p ba bo ca cb x) wc):=hS;clear hS S9 b1;generalize wc=W11 at *;go_upto_if 63 with fail
 go_cut [] (fun wx=>∃u,pB u∧DB w B sa len cap size ((PX,lZ u)::K8 w pa pc p ba bo ca cb x) wx)
 case first=>
  cases c4 with
  | false=>
   go_wp2_with fail
   go_meet;exact⟨_,Hu2.out,S11.out⟩
  | true=>
   have hx0:0 < x.UZ.length:=hc4 rfl;obtain⟨gs,os,hpa,hgs,-⟩:=(HSX.out w (World.grownBy.refl _ _)).at (k:=0) hx0;subst hpa;have hgB:gs≠B:=hsB.elim (fun e=>by rw[e]at hx0;simp at hx0) (fun h=>h gs os rfl);clear hc4;go_upto_region 7 with fail
   try clear hun
   go_cut [8] (fun v wx=>∃g s,v=.pointer (some ⟨g,0,none⟩)∧s∈x.UZ∧g≠PX∧W11.heap.size≤g∧DB w B sa len cap size ((PX,lZ u2)::(g,(iB s))::K8 w pa pc p ba (some ⟨gs,os,none⟩) ca cb x) wx)
   case first=>
    rename_i J K2 hJ hK2;refine eU (EB B) (fun wx=>DB w B sa len cap size ((PX,lZ u2)::K8 w pa pc p ba (some ⟨gs,os,none⟩) ca cb x) wx∧W11.heap.size≤wx.heap.size) [64,65,66,67,68,69,70,71,72,8] (by kernel_rfl) (by kernel_rfl) (⟨S11.out.below bR.drew,Nat.le_refl _⟩) ?_;iterate 6 (apply cP.u xQ rfl;(·intro K' a wy ho hd hI hK;simp[aS,aF,aD,Region.binds]at ho hd;have b1:wy.cell? ⟨w.heap.size+1,1,none⟩=some (.slice (some ⟨gs,os,none⟩) x.UZ.length cb):=(show aA wy (w.heap.size+1) (bF ba ca (some ⟨gs,os,none⟩) cb x) from hI.1.at eX).cell rfl;go_simp;(try go_bits);exact hK _ rfl);dsimp only[nA,cA])
    refine cP.rel (n:=6) (QD x.UZ.length) (NI) [_,_,_,_,_,_,QD x.UZ.length] rfl rfl ?_ ?_
    ·intro K' a wy ho hd hI hK;rw[wN rfl];have q2:=hd ⟨2,.data⟩ (by simp) rfl;have q5:=hd ⟨5,.data⟩ (by simp) rfl;simp[aS,aF,aD]at q2 q5;clear hd ho;go_simp;refine(fE (x.UZ.length:Int) B sa len cap size wy (by omega) hl hI.1.dr.src).mono ?_;rintro e wz ⟨r,rfl,h0,h1,hsz,hgz⟩;obtain⟨k,rfl⟩:=TZ h0;exact hK _ _ ⟨k,rfl,by omega⟩ hgz ⟨hI.1.draw hsz hgz,UA hI.2 hgz.size⟩
    refine cP.rel (n:=7) (NX B x.UZ) (PA _ _) [_,_,_,_,_,_,_,NX B x.UZ] rfl rfl ?_ ?_
    ·intro K' a wy ho hd hI hK;rw[wN rfl];have q1:=hd ⟨1,.data⟩ (by simp) rfl;simp[aS,aF,aD]at q1;obtain⟨k6,e6,u6⟩: QD x.UZ.length (aD a 70) wy:=hd ⟨6,.data⟩ (by simp) rfl;simp[aD]at e6;clear hd ho;have i0:(k6:Int) < (x.UZ.length:Int):=by omega
     have hpt:∀j u,(fY x.UZ[k6])[j]?=some u→wy.cell? ⟨gs,os+k6*7+j,none⟩=some u:=by
      obtain⟨g9,o9,e9,_,hat⟩:=(HSX.out wy hI.1.dr.grown).at u6;injection e9 with e9
      injection e9 with e91 e92
      subst e91 e92;exact fun j u hu=>hat k6 u6 j u hu
     go_simp;exact hK _ _ ⟨gs,_,x.UZ[k6],TY _,rfl,hgB,hpt⟩ (EB.of bR) hI
    refine cP.rel (n:=8) (SL 0 B x.UZ) (QX _ _ _) [_,_,_,_,_,_,_,_,SL 0 B x.UZ] rfl rfl ?_ ?_
    ·intro K' a wy ho hd hI hK;rw[wN rfl];obtain⟨b7,o7,s7,m7,e7,nb7,c7⟩: NX B x.UZ (aD a 71) wy:=hd ⟨7,.data⟩ (by simp) rfl;simp[aD]at e7;clear hd ho;have b1:wy.cell? ⟨w.heap.size+1,1,none⟩=some (.slice (some ⟨gs,os,none⟩) x.UZ.length cb):=(show aA wy (w.heap.size+1) (bF ba ca (some ⟨gs,os,none⟩) cb x) from hI.1.at eX).cell rfl;obtain⟨d0,d1,d2,d3,d4,d5,d6⟩:=MX c7;go_simp;exact hK _ _ ⟨s7,m7,rfl⟩ (EB.of bR) hI
    refine cP.rel (n:=9) (FG W11.drew.heap.size B (rZ 0 ⟨#[]⟩ 0 ⟨#[]⟩ 0 0 0)) (BF (by simp)) [_,_,_,_,_,_,_,_,_,FG W11.drew.heap.size B (rZ 0 ⟨#[]⟩ 0 ⟨#[]⟩ 0 0 0)] rfl rfl ?_ ?_
    ·intro K' a wy ho hd hI hK;rw[wN rfl];clear hd ho;go_simp;exact hK _ _ ⟨wy.heap.size,rfl,hI.2,by have:=hI.1.dr.le;omega,aA.new wy (rZ 0 ⟨#[]⟩ 0 ⟨#[]⟩ 0 0 0) _⟩ (EB.of (bR.alloc lR _)) ⟨hI.1.below (bR.alloc lR _),by simp;omega⟩
    intro X wz hR hI;obtain⟨x0,x1,x2,x3,x4,x5,x6,x7,x8,x9,-⟩:=hR;obtain⟨s8,m8,e8⟩:=x8;obtain⟨g9,e9,n9,nb9,c9⟩:=x9;simp only[aF]at x0 x1 x2 x3 x4 x5;simp only[aE,x0,x1,x2,x3,x4,x5,aE,aE,e8,e9];clear x0 x1 x2 x3 x4 x5;have n9':W11.heap.size≤g9:=n9;have hle:w.heap.size≤W11.heap.size:=S11.out.dr.le;have hlt:=S11.out.lts;obtain⟨z0,z1,z2,z3,z4,z5,z6⟩:=c9.c7;obtain⟨zf0,zf1,zf2,zf3,zf4,zf5,zf6⟩:=c9.f7;have hD0:DB w B sa len cap size ((g9,(rZ 0 ⟨#[]⟩ 0 ⟨#[]⟩ 0 0 0))::((PX,lZ u2)::K8 w pa pc p ba (some ⟨gs,os,none⟩) ca cb x)) wz:=⟨hI.1.dr,fun e he=>(TW.1 he).elim (fun h=>by rw[h];exact c9) (hI.1.k e),fun e he=>(TW.1 he).elim (fun h=>by rw[h];simp) (hI.1.z e),fun e he=>(TW.1 he).elim (fun h=>by rw[h];show w.heap.size≤g9;omega) (hI.1.n e)⟩;have hne9:∀e∈(((PX,lZ u2)::K8 w pa pc p ba (some ⟨gs,os,none⟩) ca cb x):List (Nat × List Value)),e.1≠g9:=fun e he=>by have:=hlt e he;omega
    have hD1:=hD0.set (vs':=(rZ s8.UU ⟨#[]⟩ 0 ⟨#[]⟩ 0 0 0)) 0 (iV s8.UU) rfl hne9;have hD2:=hD1.set (vs':=(rZ s8.UU s8.inn 0 ⟨#[]⟩ 0 0 0)) 1 (.string s8.inn) rfl hne9;have hD3:=hD2.set (vs':=(rZ s8.UU s8.inn s8.UW ⟨#[]⟩ 0 0 0)) 2 (iV s8.UW) rfl hne9;have hD4:=hD3.set (vs':=(rZ s8.UU s8.inn s8.UW s8.peer 0 0 0)) 3 (.string s8.peer) rfl hne9;have hD5:=hD4.set (vs':=(rZ s8.UU s8.inn s8.UW s8.peer s8.UV 0 0)) 4 (iV s8.UV) rfl hne9;have hD6:=hD5.set (vs':=(rZ s8.UU s8.inn s8.UW s8.peer s8.UV s8.state 0)) 5 (iV s8.state) rfl hne9;have hD7:=hD6.set (vs':=(iB s8)) 6 (iV s8.untl) rfl hne9;have HD:Hid (DB w B sa len cap size ((PX,lZ u2)::(g9,(iB s8))::K8 w pa pc p ba (some ⟨gs,os,none⟩) ca cb x) ((sW (sW (sW (sW (sW (sW wz g9 0 (iV s8.UU)) g9 1 (.string s8.inn)) g9 2 (iV s8.UW)) g9 3 (.string s8.peer)) g9 4 (iV s8.UV)) g9 5 (iV s8.state)).setCell ⟨g9,6,none⟩ (iV s8.untl))):=hD7.swap;have hgX:g9≠PX:=fun e=>by have:=hlt _ (List.mem_cons_self ..);simp at this;omega
    clear hD1 hD2 hD3 hD4 hD5 hD6 hD7 hD0 hne9 c9 hI hlt;unfold wR;intro K5 hK5;go_simp;refine hK5 _ _ ?_;show Exit.then _ _ _ _ _;refine hK2 _ _ (hJ _ _ ?_);(repeat apply Exists.intro)
    exact⟨⟨g9,s8,rfl,m8,hgX,n9',HD.out⟩,rfl⟩
   case rest=>
   obtain⟨Bs,s,rfl,hsm,hBsX,-,hS⟩:=hcut;have S12:Hid (DB w B sa len cap size ((PX,lZ u2)::(Bs,(iB s))::K8 w pa pc p ba (some ⟨gs,os,none⟩) ca cb x) wc):=hS;clear hS S11;generalize wc=W12 at *;have HSD:Hid (LI s):=HBD.out.2.2.2 s hsm;clear hsm;have HHs:aA W12 Bs (iB s):=S12.out.at eB;obtain⟨s0,s1,s2,s3,s4,s5,s6⟩:=HHs.c7;clear HHs;have HHb:aA W12 (w.heap.size+1) (bF ba ca (some ⟨gs,os,none⟩) cb x):=S12.out.at iR;obtain⟨b0,b1⟩:=HHb.c2;clear HHb;have HB2:Hid _:=HB.out s W12 S12.out.dr.grown;go_wp2_with fail
   refine Calls.mono HB2.out ?_;rintro e W13 ⟨o,ho,rfl,q13⟩;have HOD:Hid (vG o):=ho;have S13:Hid (DB w B sa len cap size ((PX,lZ u2)::(Bs,(iB s))::K8 w pa pc p ba (some ⟨gs,os,none⟩) ca cb x) W13):=S12.out.below q13;clear ho q13 S12 HB2 b0 b1 s0 s1 s2 s3 s4 s5 s6;go_upto_region 9 with fail
   have hBo:PX≠W13.heap.size:=by have:=S13.out.lts _ (List.mem_cons_self ..);simp at this;omega
   have S14:Hid (DB w B sa len cap size ((PX,lZ u2)::(Bs,(iB s))::(W13.heap.size,(dH o))::K8 w pa pc p ba (some ⟨gs,os,none⟩) ca cb x) (W13.alloc (.cells (dH o).toArray 48))):=by
    have h:=S13.out.push (dH o) (by simp) 48;refine h.sub (fun e he=>?_);rcases TW.1 he with h1|he
    ·exact .tail _ (h1 ▸ .head _)
    rcases TW.1 he with h1|he
    ·exact .tail _ (.tail _ (h1 ▸ .head _))
    rcases TW.1 he with h1|he
    ·exact h1 ▸ .head _
    ·exact .tail _ (.tail _ (.tail _ he))
   generalize (W13.alloc (.cells (dH o).toArray 48))=W14 at *;generalize W13.heap.size=Bo at *;clear S13;have HNE2:Hid (∀e∈(((Bs,(iB s))::(Bo,(dH o))::K8 w pa pc p ba (some ⟨gs,os,none⟩) ca cb x):List (Nat × List Value)),e.1≠PX):=fun e he=>by
    rcases TW.1 he with h1|he
    ·rw[h1];exact hBsX
    rcases TW.1 he with h1|he
    ·rw[h1];exact hBo.symm
    ·exact HNE.out e he
   have HHs:aA W14 Bs (iB s):=S14.out.at eB;obtain⟨s0,s1,s2,s3,s4⟩:=HHs.c5;clear HHs;have HHt:aA W14 PX (lZ u2):=S14.out.at cO;obtain⟨y0,-,y2,y3,y4,y5⟩:=HHt.c6;obtain⟨yf0,-,yf2,yf3,yf4,yf5⟩:=HHt.f6;clear HHt;have hD0:=(S14.out).set (vs':=(eO s.UU u2.UY u2.addr u2.port u2.peer u2.UV u2.VB)) 0 (iV s.UU) rfl HNE2.out;have hD2:=(hD0).set (vs':=(eO s.UU u2.UY s.inn u2.port u2.peer u2.UV u2.VB)) 2 (.string s.inn) rfl HNE2.out;have hD3:=(hD2).set (vs':=(eO s.UU u2.UY s.inn s.UW u2.peer u2.UV u2.VB)) 3 (iV s.UW) rfl HNE2.out;have hD4:=(hD3).set (vs':=(eO s.UU u2.UY s.inn s.UW s.peer u2.UV u2.VB)) 4 (.string s.peer) rfl HNE2.out;have hD5:=(hD4).set (vs':=(eO s.UU u2.UY s.inn s.UW s.peer s.UV u2.VB)) 5 (iV s.UV) rfl HNE2.out;obtain⟨u3,hu3⟩: ∃u:Tc,u={ u2 with UU:=s.UU,addr:=s.inn,port:=s.UW,peer:=s.peer,UV:=s.UV }:=⟨_,rfl⟩;have S15:Hid (DB w B sa len cap size ((PX,lZ u3)::(Bs,(iB s))::(Bo,(dH o))::K8 w pa pc p ba (some ⟨gs,os,none⟩) ca cb x) ((sW (sW (sW (sW W14 PX 0 (iV s.UU)) PX 2 (.string s.inn)) PX 3 (iV s.UW)) PX 4 (.string s.peer)).setCell ⟨PX,5,none⟩ (iV s.UV))):=by unfold Hid;rw[hu3];exact hD5
   have Hu3:Hid (pB u3):=by unfold Hid;rw[hu3];exact⟨HSD.out.1,HSD.out.2.1,HSD.out.2.2.1⟩
   have hpp:u3.UV=s.UV:=by rw[hu3]
   have HPP:Hid (uY u3.UV):=by unfold Hid;rw[hpp];exact HSD.out.2.2.2.2
   clear hD0 hD2 hD3 hD4 hD5 hu3 hpp S14;go_upto_region 14 with fail
   generalize ((sW (sW (sW (sW W14 PX 0 (iV s.UU)) PX 2 (.string s.inn)) PX 3 (iV s.UW)) PX 4 (.string s.peer)).setCell ⟨PX,5,none⟩ (iV s.UV))=W15 at *;clear y0 yf0 y2 yf2 y3 yf3 y4 yf4 y5 yf5 s0 s1 s2 s3 s4 Hu2;have HHt:aA W15 PX (lZ u3):=S15.out.at cO;have y1:=HHt.cell (j:=1) rfl;have yf1:=HHt.free (j:=1) (by simp);clear HHt;obtain⟨ins,hin⟩: ∃b,b=u3.UY:=⟨_,rfl⟩;rw[←hin]at y1;clear hin
   cases ins with
   | true=>
    have S16:Hid (DB w B sa len cap size ((PX,lZ u3)::K8 w pa pc p ba (some ⟨gs,os,none⟩) ca cb x) W15):=S15.out.sub (fun e he=>by
     rcases TW.1 he with h1|he
     ·exact h1 ▸ .head _
     ·exact .tail _ (.tail _ (.tail _ he)))
    go_wp2_with fail
    go_meet;exact⟨u3,Hu3.out,S16.out⟩
   | false=>
    have HHo:aA W15 Bo (dH o):=S15.out.at eX;obtain⟨-,-,-,o3,o4⟩:=HHo.c5;clear HHo;have HHt:aA W15 PX (lZ u3):=S15.out.at cO;obtain⟨-,-,y2,y3⟩:=HHt.c4;obtain⟨-,-,yf2,yf3⟩:=HHt.f4;clear HHt;have hD2:=S15.out.set (vs':=(eO u3.UU u3.UY o.out u3.port u3.peer u3.UV u3.VB)) 2 (.string o.out) rfl HNE2.out;have hD3:=hD2.set (vs':=(eO u3.UU u3.UY o.out o.UX u3.peer u3.UV u3.VB)) 3 (iV o.UX) rfl HNE2.out;obtain⟨u4,hu4⟩: ∃u:Tc,u={ u3 with addr:=o.out,port:=o.UX }:=⟨_,rfl⟩;have S16:Hid (DB w B sa len cap size ((PX,lZ u4)::K8 w pa pc p ba (some ⟨gs,os,none⟩) ca cb x) ((sW W15 PX 2 (.string o.out)).setCell ⟨PX,3,none⟩ (iV o.UX))):=by unfold Hid;rw[hu4];exact hD3.sub (fun e he=>by
      rcases TW.1 he with h1|he
      ·exact h1 ▸ .head _
      ·exact .tail _ (.tail _ (.tail _ he)))
    have Hu4:Hid (pB u4):=by unfold Hid;rw[hu4];exact⟨HOD.out.2.1,Hu3.out.2⟩
    have hpp:u4.UV=u3.UV:=by rw[hu4]
    have HPQ:Hid (uY u4.UV):=by unfold Hid;rw[hpp];exact HPP.out
    clear hD2 hD3 hu4 hpp S15;go_upto_region 17 with fail
    generalize ((sW W15 PX 2 (.string o.out)).setCell ⟨PX,3,none⟩ (iV o.UX))=W16 at *;clear o3 o4 y2 yf2 y3 yf3;go_wp2_with fail
    refine(bO 3 B sa len cap size _ (by omega) hl S16.out.dr.src).mono ?_;rintro e U9 ⟨c9,rfl,hs,hg⟩;have S17:Hid (DB w B sa len cap size ((PX,lZ u4)::K8 w pa pc p ba (some ⟨gs,os,none⟩) ca cb x) U9):=S16.out.draw hs hg;clear hs hg S16
    cases c9 with
    | false=>
     go_wp2_with fail
     go_meet;exact⟨_,Hu4.out,S17.out⟩
    | true=>
     have HHt:aA U9 PX (lZ u4):=S17.out.at cO;have y5:=HHt.cell (j:=5) rfl;have yf5:=HHt.free (j:=5) (by simp);clear HHt;have hw:IntKind.i64.wrap (u4.UV+1)=u4.UV+1:=by have:=HPQ.out;unfold uY at this;rw[IntKind.wrap_i64];omega
     have S18:Hid _:=S17.out.set 5 (iV (u4.UV+1)) rfl HNE.out;go_wp2_with fail
     go_meet;exact⟨{ u4 with UV:=u4.UV+1 },Hu4.out,S18.out⟩
 case rest=>
 obtain⟨u5,hu,hS⟩:=hcut;have Hu5:Hid (pB u5):=hu;have S20:Hid (DB w B sa len cap size ((PX,lZ u5)::K8 w pa pc p ba bo ca cb x) wc):=hS;clear hu hS S11 Hu2 hc4;generalize wc=W20 at *;go_wp2_with fail
 refine(bO 25 B sa len cap size _ (by omega) hl S20.out.dr.src).mono ?_;rintro e W21 ⟨c21,rfl,hs,hg⟩;have S21:Hid (DB w B sa len cap size ((PX,lZ u5)::K8 w pa pc p ba bo ca cb x) W21):=S20.out.draw hs hg;clear hs hg S20;go_upto_if 112 with fail
 go_cut [] (fun wx=>∃u,pB u∧DB w B sa len cap size ((PX,lZ u)::K8 w pa pc p ba bo ca cb x) wx)
 case first=>
  cases c21 with
  | false=>
   go_wp2_with fail
   go_meet;exact⟨_,Hu5.out,S21.out⟩
  | true=>
   go_wp2_with fail
   refine(aT 4 B sa len cap size _ (by omega) (by omega) hl S21.out.dr.src).mono ?_;rintro e W22 ⟨r5,rfl,lo5,hi5,hs,hg⟩;have S22:Hid (DB w B sa len cap size ((PX,lZ u5)::K8 w pa pc p ba bo ca cb x) W22):=S21.out.draw hs hg;clear hs hg S21;by_cases d0:r5=0
   case pos=>
    subst d0;clear lo5 hi5;go_wp2_with fail
    refine(CK B sa len cap size _ hl S22.out.dr.src).mono ?_;rintro e W23 ⟨s9,rfl,hz9,hs,hg⟩;have S23:Hid (DB w B sa len cap size ((PX,lZ u5)::K8 w pa pc p ba bo ca cb x) W23):=S22.out.draw hs hg;clear hs hg;have HHt:aA W23 PX (lZ u5):=S23.out.at cO;have y2:=HHt.cell (j:=2) rfl;have yf2:=HHt.free (j:=2) (by simp);clear HHt;have S24:Hid _:=S23.out.set 2 (.string s9) rfl HNE.out;go_wp2_with fail
    go_meet;exact⟨{ u5 with addr:=s9 },⟨by show s9.size≤1000;omega,Hu5.out.2⟩,S24.out⟩
   have b0:(r5==0)=false:=by simp[d0]
   by_cases d1:r5=1
   case pos=>
    subst d1;clear lo5 hi5;go_wp2_with fail
    refine(tX B sa len cap size _ hl S22.out.dr.src).mono ?_;rintro e W23 ⟨r9,rfl,hs,hg⟩;have S23:Hid (DB w B sa len cap size ((PX,lZ u5)::K8 w pa pc p ba bo ca cb x) W23):=S22.out.draw hs hg;clear hs hg;have HHt:aA W23 PX (lZ u5):=S23.out.at cO;have y3:=HHt.cell (j:=3) rfl;have yf3:=HHt.free (j:=3) (by simp);clear HHt;have S24:Hid _:=S23.out.set 3 (iV r9) rfl HNE.out;go_wp2_with fail
    go_meet;exact⟨{ u5 with port:=r9 },Hu5.out,S24.out⟩
   have b1:(r5==1)=false:=by simp[d1]
   by_cases d2:r5=2
   case pos=>
    subst d2;clear lo5 hi5;go_wp2_with fail
    refine(mB true B sa len cap size _ hl S22.out.dr.src).mono ?_;rintro e W23 ⟨s9,rfl,hz9,hs,hg⟩;have S23:Hid (DB w B sa len cap size ((PX,lZ u5)::K8 w pa pc p ba bo ca cb x) W23):=S22.out.draw hs hg;clear hs hg;have HHt:aA W23 PX (lZ u5):=S23.out.at cO;have y4:=HHt.cell (j:=4) rfl;have yf4:=HHt.free (j:=4) (by simp);clear HHt;have S24:Hid _:=S23.out.set 4 (.string s9) rfl HNE.out;go_wp2_with fail
    go_meet;exact⟨{ u5 with peer:=s9 },⟨Hu5.out.1,by show s9.size≤1000;rw[hz9];decide,Hu5.out.2.2⟩,S24.out⟩
   have b2:(r5==2)=false:=by simp[d2]
   go_wp2_with fail
   refine(tX B sa len cap size _ hl S22.out.dr.src).mono ?_;rintro e W23 ⟨r9,rfl,hs,hg⟩;have S23:Hid (DB w B sa len cap size ((PX,lZ u5)::K8 w pa pc p ba bo ca cb x) W23):=S22.out.draw hs hg;clear hs hg;have HHt:aA W23 PX (lZ u5):=S23.out.at cO;have y5:=HHt.cell (j:=5) rfl;have yf5:=HHt.free (j:=5) (by simp);clear HHt;have S24:Hid _:=S23.out.set 5 (iV r9) rfl HNE.out;go_wp2_with fail
   go_meet;exact⟨{ u5 with UV:=r9 },Hu5.out,S24.out⟩
 case rest=>
 obtain⟨u6,hu,hS⟩:=hcut;have Hu6:Hid (pB u6):=hu;have S25:Hid (DB w B sa len cap size ((PX,lZ u6)::K8 w pa pc p ba bo ca cb x) wc):=hS;clear hu hS S21 Hu5;generalize wc=W25 at *;have HHt:aA W25 PX (lZ u6):=S25.out.at cO;obtain⟨y0,y1,y2,y3,y4,y5,y6⟩:=HHt.c7;obtain⟨yf0,yf1,yf2,yf3,yf4,yf5,yf6⟩:=HHt.f7;clear HHt;clear yf0 yf1 yf2 yf3 yf4 yf5 yf6;have HHz:aA W25 (w.heap.size+1+1) (eO 0 false ⟨#[]⟩ 0 ⟨#[]⟩ 0 0):=S25.out.at iR;obtain⟨z0,z1,z2,z3,z4,z5,z6⟩:=HHz.c7;obtain⟨zf0,zf1,zf2,zf3,zf4,zf5,zf6⟩:=HHz.f7;have HRR:Hid (aA ((sW (sW (sW (sW (sW (sW W25 (w.heap.size+1+1) 0 (iV u6.UU)) (w.heap.size+1+1) 1 (.bool u6.UY)) (w.heap.size+1+1) 2 (.string u6.addr)) (w.heap.size+1+1) 3 (iV u6.port)) (w.heap.size+1+1) 4 (.string u6.peer)) (w.heap.size+1+1) 5 (iV u6.UV)).setCell ⟨w.heap.size+1+1,6,none⟩ (iV u6.VB)) (w.heap.size+1+1) (lZ u6)):=(((((((HHz.set 0 (iV u6.UU)).set 1 (.bool u6.UY)).set 2 (.string u6.addr)).set 3 (iV u6.port)).set 4 (.string u6.peer)).set 5 (iV u6.UV)).set 6 (iV u6.VB));have DD:Hid (Dr w B sa len cap size ((sW (sW (sW (sW (sW (sW W25 (w.heap.size+1+1) 0 (iV u6.UU)) (w.heap.size+1+1) 1 (.bool u6.UY)) (w.heap.size+1+1) 2 (.string u6.addr)) (w.heap.size+1+1) 3 (iV u6.port)) (w.heap.size+1+1) 4 (.string u6.peer)) (w.heap.size+1+1) 5 (iV u6.UV)).setCell ⟨w.heap.size+1+1,6,none⟩ (iV u6.VB))):=(((((((S25.out.dr.set (w.heap.size+1+1) 0 (iV u6.UU) (by omega)).set (w.heap.size+1+1) 1 (.bool u6.UY) (by omega)).set (w.heap.size+1+1) 2 (.string u6.addr) (by omega)).set (w.heap.size+1+1) 3 (iV u6.port) (by omega)).set (w.heap.size+1+1) 4 (.string u6.peer) (by omega)).set (w.heap.size+1+1) 5 (iV u6.UV) (by omega)).set (w.heap.size+1+1) 6 (iV u6.VB) (by omega));clear HHz S25;go_wp2_with fail
 exact UQ (aG Tryz.results55 _ _ _ _ _ rfl HRR.out Tryz.underlying89 rfl (show (Tryz.prog.info? 89).map (·.size)=some 7 by kernel_rfl)) rfl ⟨u6,rfl,Hu6.out,DD.out.src,DD.out.grown⟩
end Go.Proofs.YtdkepkaflielhaaGreatDoor
