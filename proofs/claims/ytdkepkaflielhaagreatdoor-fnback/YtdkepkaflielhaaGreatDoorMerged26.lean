import Derived.Test.YtdkepkaflielhaaGreatDoorMerged22
import Derived.Test.YtdkepkaflielhaaGreatDoorICSet5
import Derived.Deep.RegionHeld
import Derived.Test.YtdkepkaflielhaaGreatDoorMerged24
set_option linter.unusedVariables false
set_option linter.unusedSimpArgs false
set_option maxRecDepth 100000
set_option maxHeartbeats 8000000
namespace Go.Proofs.YtdkepkaflielhaaGreatDoor
open Go.RowKit Go.PlainAid
theorem fP{s d:BA}{p:Int}{t:BA}(h:aS s.size p t=0):(aI s d p t).VF=p∧(aI s d p t).src=s∧(aI s d p t).dst=d∧(0≤(aI s d p t).sp∧(aI s d p t).sp≤65535)∧(0≤(aI s d p t).dp∧(aI s d p t).dp≤65535)∧(aL p=true→(aI s d p t).sp=(aI s d p t).dp):=by
 unfold aI;rw[if_pos h];have w0:=cW (bH t) 0;have w2:=cW (bH t) 2;have w4:=cW (bH t) 4;by_cases he:aL p=true
 ·rw[if_pos he];exact⟨rfl,rfl,rfl,w4,w4,fun _=>rfl⟩
 ·rw[if_neg he];exact⟨rfl,rfl,rfl,w0,w2,fun h=>absurd h he⟩
theorem jY{n:Nat}{p:Int}{t:BA}(h:aS n p t=0):cH p n=true:=by
 unfold aS at h;by_cases h3:cH p n=false
 ·rw[if_pos h3]at h;simp at h
 ·simpa using h3
theorem iC{p:Int}(h:cH p 4=true):p=6∨p=17∨p=1:=by
 unfold cH at h;simp only[UV,UB,UF]at h;omega
theorem nU{s d:BA}{p:Int}{t:BA}(h:aS s.size p t=0)(hp:eM s d=true):dR (aI s d p t)=true:=by
 obtain⟨h1,h2,h3,h4,h5,h6⟩:=fP (d:=d) h;unfold dR;rw[h1,h2,h3,hp,jY h,iG h4.1 h4.2,iG h5.1 h5.2];by_cases he:aL p=true
 ·simp[he,h6 he]
 ·simp[he]
theorem yS(p:Int)(t:BA):aO (fU p t) 0 255=true:=by
 unfold fU aO;have:=bH t 13;split<;>simp<;>omega
theorem zD{p n:Int}(h:0≤n∧n≤65535):jS (fF p n)=true:=by
 unfold fF;split
 ·decide
 ·exact iG h.1 h.2
theorem tE{s:BA}(h:s.size=4):cO s=true:=by unfold cO;simp[h]
theorem gG{s d:BA}(hs:s.size=4)(hd:d.size=4):eM s d=true:=by unfold eM;rw[tE hs];simp[hs,hd]
theorem lQ{p:Int}(h:p=6∨p=17∨p=1):eN p=true∧qB p=p:=by
 rcases h with rfl|rfl|rfl<;>decide
theorem AM{s d:BA}{p:Int}{t:BA}(hs:s.size=4)(hd:d.size=4)(h:aS s.size p t=0):cC (kW (aI s d p t) d t)=true:=by
 obtain⟨h1,h2,h3,h4,h5,h6⟩:=fP (d:=d) h;have hp:=iC (hs ▸ jY h);unfold cC kW;dsimp only;rw[h1,h2,(lQ hp).2,(lQ hp).1,tE hs,iG h4.1 h4.2,zD h5,yS];simp[hd]
theorem pN{s d:BA}{p:Int}{t:BA}(hs:s.size=4)(hd:d.size=4)(h:aS s.size p t=0):cC (cE (aI s d p t) t)=true:=by
 obtain⟨h1,h2,h3,h4,h5,h6⟩:=fP (d:=d) h;have hp:=iC (hs ▸ jY h);unfold cC cE;dsimp only;rw[h1,h2,h3,(lQ hp).1,tE hd,iG h5.1 h5.2,zD h4,yS];simp[hs,hd]
theorem mM{p:Pl}{x:Bb}{t:Tc}{now:Int}(h:fA p x=true)(hn:bT now=true)(ht:cC t=true)(hc:(dO p x t now).code=0) :
  (dO p x t now).bind.out.size=4∧(0≤(dO p x t now).bind.VI∧(dO p x t now).bind.VI≤65535)∧((dO p x t now).bind.inn.size=4∨(dO p x t now).bind.inn.size=16)∧(0≤(dO p x t now).bind.VH∧(dO p x t now).bind.VH≤65535)∧(t.VJ=true→(dO p x t now).bind.inn=t.addr):=by
 obtain⟨g1,g2,g3,g4,g5⟩:=mU (gI.1 h) hn ht hc;have hb:=(CM.1 g1.bind).1 _ g3;unfold IW at hb;simp only[UB]at hb;have hpl:=g1.pool;have hpo:1≤p.low∧p.high≤65535:=by
  unfold cU at hpl;simp only[UB,UF]at hpl;exact⟨hpl.1.1.1.1.1.1.2,hpl.1.1.1.1.2⟩
 have ho:=eK hb.2;have hw:0≤(dO p x t now).bind.VH∧(dO p x t now).bind.VH≤65535:=by simpa[jS] using hb.1.1.2
 have hsz:(dO p x t now).bind.out.size=4:=by
  unfold cU at hpl;simp only[UB]at hpl;have hu:=iA.1 hpl.2;have hs:=hb.1.2;unfold mW at hs;obtain⟨u,hu1,hu2⟩:=List.any_eq_true.1 hs;obtain⟨i,hi,rfl⟩:=UY hu1;have h1:=hu i hi;unfold eV at h1;simp only[UB,UF]at h1 hu2;have:p.VL[i].size=(dO p x t now).bind.out.size:=by
   have:=congrArg List.length hu2;simpa[ByteArray.toList_eq] using this
  omega
 exact⟨hsz,⟨by omega,by omega⟩,pM hb.1.1.1.2,hw,fun hi=>congrArg En.addr (g4 hi)⟩
theorem oP{f g:Fl}(hf:dR f=true)(hfs:f.src.size=4)(hgs:g.src.size=4)(hgd:g.dst.size=4)(hp:g.VF=f.VF)(h1:0≤g.sp∧g.sp≤65535)(h2:0≤g.dp∧g.dp≤65535):dR (lO f g)=true∧(lO f g).VF=f.VF∧(lO f g).src=g.src∧(lO f g).dst=g.dst:=by
 have hpo:cH f.VF 4=true:=by unfold dR at hf;simp only[UB]at hf;rw[hfs]at hf;exact hf.1.1.1.2
 unfold lO;by_cases he:aL f.VF=true
 ·rw[if_pos he];have e1:f.VF=1:=by
   have:=iC hpo;unfold aL at he;simp only[UV,UF]at he;omega
  rw[if_neg (by omega)];refine⟨?_,e1.symm,rfl,rfl⟩;unfold dR;dsimp only;rw[gG hgs hgd,iG h1.1 h1.2,hgs,show cH 1 4=true by decide];simp
 ·rw[if_neg he];refine⟨?_,hp,rfl,rfl⟩;unfold dR;rw[gG hgs hgd,hp,hgs,hpo,iG h1.1 h1.2,iG h2.1 h2.2];simp[he]
theorem zH{s d:BA}{p:Int}{t:BA}{g:Fl}(h:aS s.size p t=0)(hs:s.size=4)(hd:d.size=4)(ht:t.size≤20000)(hg:dR g=true)(hp:g.VF=p)(hgs:g.src.size=4):fJ (aI s d p t) g t=jI (aI s d p t) g t∧gO (aI s d p t) g t=0:=by
 obtain⟨h1,h2,h3,h4,h5,h6⟩:=fP (d:=d) h;have hin:kZ (aI s d p t) g t=true:=by
  unfold kZ;rw[nU h (gG hs hd),hg,h1,h2,h3,hp,h];simp
 have hc:gO (aI s d p t) g t=0:=by
  unfold gO;rw[if_neg (by omega),if_neg (by rw[hin];simp),if_neg];rintro⟨_,h16⟩;omega
 refine⟨?_,hc⟩;unfold fJ jI;rw[hc,if_pos rfl];by_cases hb:fQ (aI s d p t) t=true
 ·rw[if_pos hb,if_pos hb,if_neg (by omega)]
 ·rw[if_neg hb,if_neg hb]
theorem jN{p:Pl}{x:Bb}{q:P4}{now:Int}(h:cT p x q now=0):fA p x=true∧jB q=true∧bT now=true:=by
 unfold cT at h;split at h
 ·omega
 ·rename_i h2;simp only[Bool.not_eq_false,UB]at h2;exact⟨h2.1.1,h2.1.2,h2.2⟩
theorem iL{q:P4}(h:jB q=true):q.src.size=4∧q.dst.size=4∧q.opts.size≤40∧q.data.size≤1400:=by
 have hA:KZ q=true:=by unfold jB at h;simp only[UB]at h;exact h.1.1
 have hB:LI q=true:=by unfold jB at h;simp only[UB]at h;exact h.1.2
 have h1:=tT hA;have h2:=tU hB;exact⟨h1.2.2.2.2.2.1,h1.2.2.2.2.2.2,h2.1,h2.2.2.1⟩
theorem qP{q:P4}(h:jB q=true):aZ q.src q.dst q.VF q.data=aS q.src.size q.VF q.data∧(aS q.src.size q.VF q.data=0→bM q.src q.dst q.VF q.data=aI q.src q.dst q.VF q.data):=by
 obtain⟨h1,h2,h3,h4⟩:=iL h;have e:aZ q.src q.dst q.VF q.data=aS q.src.size q.VF q.data:=by
  unfold aZ;rw[if_neg (by omega),if_neg (by rw[gG h1 h2];simp)]
 exact⟨e,fun hc=>by unfold bM;rw[e,if_pos hc]⟩
theorem EO{n:Nat}{t:BA}(h:aS n 6 t=0):20≤t.size:=by
 unfold aS at h;split at h
 ·omega
 ·split at h
  ·omega
  ·rename_i _ h2;unfold gC at h2;simp at h2;omega
theorem EQ{p:Pl}{x:Bb}{t:Tc}{now:Int}(h:fA p x=true)(hn:bT now=true)(ht:cC t=true):dH p x t now=dO p x t now:=by
 unfold dH;rw[h,hn,ht];rfl
theorem NB{p:Pl}{x:Bb}{q:P4}{now:Int}(h:cT p x q now=0)(hc:aS q.src.size q.VF q.data=0)(F:Fl)(hF:F=aI q.src q.dst q.VF q.data)(Y:Bo)(hY:Y=dO p x (kW F q.dst q.data) now) :
  dH p x ⟨F.VF,true,F.src,F.sp,F.dst,fF F.VF F.dp,fU q.VF q.data⟩ now=Y∧F.src.size=4∧F.dst.size=4∧(Y.code=0→Y.bind.inn.size=4∧Y.bind.out.size=4∧∃G:Fl,(⟨F.VF,Y.bind.out,F.dst,Y.bind.VI,if aL F.VF=true then Y.bind.VI else F.dp⟩: Fl)=G∧G=gX F Y.bind.out Y.bind.VI q.dst∧fJ F G q.data=jI F G q.data∧G.src=Y.bind.out∧G.dst=q.dst):=by
 obtain⟨h1,h2,h3⟩:=jN h;obtain⟨s1,s2,s3,s4⟩:=iL h2;obtain⟨z1,z2,z3,z4,z5,z6⟩:=@fP q.src q.dst q.VF q.data hc;have hp:=jY hc;rw[s1]at hp;have hp4:=iC hp;obtain⟨b1,b2⟩:=lQ hp4;have ht:=AM s1 s2 hc;rw[←hF]at z1 z2 z3 z4 z5 z6 ht;have eT:(⟨F.VF,true,F.src,F.sp,F.dst,fF F.VF F.dp,fU q.VF q.data⟩: Tc)=kW F q.dst q.data:=by
  unfold kW;rw[z1,b2,z3]
 refine⟨by rw[eT,EQ h1 h3 ht,hY],by rw[z2];exact s1,by rw[z3];exact s2,fun y0=>?_⟩;rw[hY]at y0;obtain⟨e1,e2,e3,e4,e5⟩:=mM h1 h3 ht y0;rw[←hY]at e1 e2 e3 e4 e5;have e6:Y.bind.inn.size=4:=by rw[e5 rfl];show F.src.size=4;rw[z2];exact s1
 have hG:(⟨F.VF,Y.bind.out,F.dst,Y.bind.VI,if aL F.VF=true then Y.bind.VI else F.dp⟩: Fl)=gX F Y.bind.out Y.bind.VI q.dst:=by
  unfold gX lO;split
  ·rename_i he;rw[z1]at he;have:q.VF=1:=by
    rcases hp4 with h6|h6|h6
    ·rw[h6]at he;simp[aL]at he
    ·rw[h6]at he;simp[aL]at he
    ·exact h6
   dsimp only;rw[if_neg (by omega),z1,z3,this]
  ·rw[z3]
 refine⟨e6,e1,_,hG,rfl,?_,?_,?_⟩
 ·have hfo:=nU hc (gG s1 s2);rw[←hF]at hfo;obtain⟨k1,k2,k3,k4⟩:=oP (f:=F) (g:=⟨F.VF,Y.bind.out,q.dst,Y.bind.VI,F.dp⟩) hfo (by rw[z2];exact s1) e1 s2 rfl e2 z5;have:=(zH (g:=gX F Y.bind.out Y.bind.VI q.dst) hc s1 s2 (by omega) k1 (by rw[←z1];exact k2) (by show (lO _ _).src.size=4;rw[k3];exact e1)).1;rw[←hF]at this;exact this
 ·rw[←hG]
 ·rw[←hG];exact z3
theorem PD{p:Pl}{x:Bb}{q:P4}{now:Int}(h:cT p x q now=0)(hc:aS q.src.size q.VF q.data=0)(F:Fl)(hF:F=aI q.src q.dst q.VF q.data)(Y:Bo)(hY:Y=dO p x (cE F q.data) now) :
  dH p x ⟨F.VF,false,F.dst,F.dp,F.src,fF F.VF F.sp,fU q.VF q.data⟩ now=Y∧F.src.size=4∧F.dst.size=4∧(Y.code=0→Y.bind.inn.size≤16∧(Y.bind.inn.size=4→∃G:Fl,(⟨F.VF,F.src,Y.bind.inn,if aL F.VF=true then Y.bind.VH else F.sp,Y.bind.VH⟩: Fl)=G∧G=EP F q.src Y.bind.inn Y.bind.VH∧fJ F G q.data=jI F G q.data∧G.src=q.src∧G.dst=Y.bind.inn)):=by
 obtain⟨h1,h2,h3⟩:=jN h;obtain⟨s1,s2,s3,s4⟩:=iL h2;obtain⟨z1,z2,z3,z4,z5,z6⟩:=@fP q.src q.dst q.VF q.data hc;have hp:=jY hc;rw[s1]at hp;have hp4:=iC hp;have ht:=pN s1 s2 hc;rw[←hF]at z1 z2 z3 z4 z5 z6 ht;have eT:(⟨F.VF,false,F.dst,F.dp,F.src,fF F.VF F.sp,fU q.VF q.data⟩: Tc)=cE F q.data:=by
  unfold cE;rw[z1]
 refine⟨by rw[eT,EQ h1 h3 ht,hY],by rw[z2];exact s1,by rw[z3];exact s2,fun y0=>?_⟩;rw[hY]at y0;obtain⟨e1,e2,e3,e4,e5⟩:=mM h1 h3 ht y0;rw[←hY]at e1 e2 e3 e4 e5;refine⟨by omega,fun e6=>?_⟩;have hG:(⟨F.VF,F.src,Y.bind.inn,if aL F.VF=true then Y.bind.VH else F.sp,Y.bind.VH⟩: Fl)=EP F q.src Y.bind.inn Y.bind.VH:=by
  unfold EP lO;split
  ·rename_i he;have he2:=he;rw[z1]at he;have:q.VF=1:=by
    rcases hp4 with h6|h6|h6
    ·rw[h6]at he;simp[aL]at he
    ·rw[h6]at he;simp[aL]at he
    ·exact h6
   dsimp only;rw[if_neg (by omega),z1,z2,this]
  ·rw[z2]
 refine⟨_,hG,rfl,?_,?_,?_⟩
 ·have hfo:=nU hc (gG s1 s2);rw[←hF]at hfo;obtain⟨k1,k2,k3,k4⟩:=oP (f:=F) (g:=⟨F.VF,q.src,Y.bind.inn,if aL F.VF=true then Y.bind.VH else F.sp,Y.bind.VH⟩) hfo (by rw[z2];exact s1) s1 e6 rfl (by dsimp only;split<;>omega) e4;have:=(zH (g:=EP F q.src Y.bind.inn Y.bind.VH) hc s1 s2 (by omega) k1 (by rw[←z1];exact k2) (by show (lO _ _).src.size=4;rw[k3];exact s1)).1;rw[←hF]at this;exact this
 ·rw[←hG];exact z2
 ·rw[←hG]
theorem AD(p:P4)(w:World)(h1:p.src.size≤1048576)(h2:p.dst.size≤1048576)(h3:p.opts.size≤1048576)(h4:p.data.size≤1048576) :
  Cb 112 #[kL p] w (kL p):=by
 have H1:Hid (∀W,Cb 119 #[.string p.src] W (.string p.src)):=fun W=>jF _ W h1
 have H2:Hid (∀W,Cb 119 #[.string p.dst] W (.string p.dst)):=fun W=>jF _ W h2
 have H3:Hid (∀W,Cb 119 #[.string p.opts] W (.string p.opts)):=fun W=>jF _ W h3
 have H4:Hid (∀W,Cb 119 #[.string p.data] W (.string p.data)):=fun W=>jF _ W h4
 have S0:Hid (dD w [(w.heap.size+1,(eP 0 0 false false 0 0 0 ⟨#[]⟩ ⟨#[]⟩ ⟨#[]⟩ ⟨#[]⟩)),(w.heap.size,(dM p))] ((aW w (dM p) 33).alloc (.cells (eP 0 0 false false 0 0 0 ⟨#[]⟩ ⟨#[]⟩ ⟨#[]⟩ ⟨#[]⟩).toArray 33))):=by
  have h:=((⟨fun e he=>(by cases he),Below.refl _ _,fun e he=>(by cases he)⟩: dD w [] w).push (dM p) (by simp) 33).push (eP 0 0 false false 0 0 0 ⟨#[]⟩ ⟨#[]⟩ ⟨#[]⟩ ⟨#[]⟩) (by simp) 33;rw[UC]at h;exact h
 clear h1 h2 h3 h4;unfold kL;go_enter Tryz.func112,Tryz.ntmps112
 go_upto_region 1 with fail
 generalize World.alloc _ _=W0 at *;go_cut [3] (fun v wx=>dD w [(w.heap.size+1,(eP 0 0 false false 0 0 0 ⟨#[]⟩ ⟨#[]⟩ ⟨#[]⟩ ⟨#[]⟩)),(w.heap.size,(dM p))] wx)
 case first=>
  rename_i J K2 hJ hK2;have HCP:Hid (∀wy,Below W0.drew.heap.size W0.drew wy→_):=fun wy hy=>S0.out.kept (bR.drew.trans hy)
  refine aN [3,4,5,6,7,8,9] (by kernel_rfl) (by kernel_rfl) ?_;iterate 5 (apply bC.u rfl;(·intro K' a wy ho hd hb hK;simp[aU,aG,aD,Region.binds]at ho hd;have HHq:aA wy w.heap.size (dM p):=(HCP.out wy hb).k _ dZ;have kC:=HHq.c11;clear HHq;go_simp;first|((try go_bits);exact hK _ _ rfl bQ)|(refine(H1.out wy).mono ?_;rintro e wz ⟨rfl,hz⟩;exact hK _ _ rfl hz));dsimp only[nA,cA])
  iterate 2 (apply bC.u rfl;(·intro K' a wy ho hd hb hK;simp[aU,aG,aD,Region.binds]at ho hd;go_simp;first|((try go_bits);exact hK _ _ rfl bQ)|(refine(H2.out wy).mono ?_;rintro e wz ⟨rfl,hz⟩;exact hK _ _ rfl hz));dsimp only[nA,cA])
  intro X wz hR hz;simp only[UM,UN,eY,aG]at hR;simp only[aE,hR];clear hR;have hS:=HCP.out wz hz;have HHq:=hS.at dZ;obtain⟨-,-,-,-,-,-,-,fi,fj⟩:=HHq.f9;obtain⟨-,-,-,-,-,-,-,ki,kj⟩:=HHq.c9;have HS:Hid (dD w [(w.heap.size+1,(eP 0 0 false false 0 0 0 ⟨#[]⟩ ⟨#[]⟩ ⟨#[]⟩ ⟨#[]⟩)),(w.heap.size,(dM p))] wz):=hS;clear hS HHq;intro K10 hK10;go_simp;refine hK10 _ _ ?_;intro K11 hK11;go_simp;refine hK11 _ _ ?_;intro K12 hK12;go_simp;refine hK12 _ _ ?_;show Exit.then _ _ _ _ _;refine hK2 _ _ (hJ _ _ ?_);(repeat apply Exists.intro)
  refine⟨⟨fun e he=>?_,(sCl HS.out.b lR).setCell (p:=⟨w.heap.size,8,none⟩) lR _,HS.out.z⟩,rfl⟩;simp only[UH,UG,or_false]at he;rcases he with rfl|rfl
  ·exact((HS.out.k _ cM).setOther (by show w.heap.size+1≠w.heap.size;omega) _).setOther (by show w.heap.size+1≠w.heap.size;omega) _
  ·exact((HS.out.k _ dZ).set 7 (.string p.src)).set 8 (.string p.dst)
 case rest=>
 have S1:Hid (dD w [(w.heap.size+1,(eP 0 0 false false 0 0 0 ⟨#[]⟩ ⟨#[]⟩ ⟨#[]⟩ ⟨#[]⟩)),(w.heap.size,(dM p))] wc):=hcut;clear hcut S0;generalize wc=W1 at *;go_upto_region 2 with fail
 go_cut [11] (fun v wx=>dD w [(w.heap.size+1,(eP 0 0 false false 0 0 0 ⟨#[]⟩ ⟨#[]⟩ ⟨#[]⟩ ⟨#[]⟩)),(w.heap.size,(dM p))] wx)
 case first=>
  rename_i J K2 hJ hK2;have HCP:Hid (∀wy,Below W1.drew.heap.size W1.drew wy→_):=fun wy hy=>S1.out.kept (bR.drew.trans hy)
  refine aN [11,12,13,14,15,16,17] (by kernel_rfl) (by kernel_rfl) ?_;iterate 5 (apply bC.u rfl;(·intro K' a wy ho hd hb hK;simp[aU,aG,aD,Region.binds]at ho hd;have HHq:aA wy w.heap.size (dM p):=(HCP.out wy hb).k _ dZ;have kC:=HHq.c11;clear HHq;go_simp;first|((try go_bits);exact hK _ _ rfl bQ)|(refine(H3.out wy).mono ?_;rintro e wz ⟨rfl,hz⟩;exact hK _ _ rfl hz));dsimp only[nA,cA])
  iterate 2 (apply bC.u rfl;(·intro K' a wy ho hd hb hK;simp[aU,aG,aD,Region.binds]at ho hd;go_simp;first|((try go_bits);exact hK _ _ rfl bQ)|(refine(H4.out wy).mono ?_;rintro e wz ⟨rfl,hz⟩;exact hK _ _ rfl hz));dsimp only[nA,cA])
  intro X wz hR hz;simp only[UM,UN,eY,aG]at hR;simp only[aE,hR];clear hR;have hS:=HCP.out wz hz;have HHq:=hS.at dZ;obtain⟨-,-,-,-,-,-,-,-,-,fi,fj⟩:=HHq.f11;obtain⟨-,-,-,-,-,-,-,-,-,ki,kj⟩:=HHq.c11;have HS:Hid (dD w [(w.heap.size+1,(eP 0 0 false false 0 0 0 ⟨#[]⟩ ⟨#[]⟩ ⟨#[]⟩ ⟨#[]⟩)),(w.heap.size,(dM p))] wz):=hS;clear hS HHq;intro K10 hK10;go_simp;refine hK10 _ _ ?_;intro K11 hK11;go_simp;refine hK11 _ _ ?_;intro K12 hK12;go_simp;refine hK12 _ _ ?_;show Exit.then _ _ _ _ _;refine hK2 _ _ (hJ _ _ ?_);(repeat apply Exists.intro)
  refine⟨⟨fun e he=>?_,(sCl HS.out.b lR).setCell (p:=⟨w.heap.size,10,none⟩) lR _,HS.out.z⟩,rfl⟩;simp only[UH,UG,or_false]at he;rcases he with rfl|rfl
  ·exact((HS.out.k _ cM).setOther (by show w.heap.size+1≠w.heap.size;omega) _).setOther (by show w.heap.size+1≠w.heap.size;omega) _
  ·exact((HS.out.k _ dZ).set 9 (.string p.opts)).set 10 (.string p.data)
 case rest=>
 have S2:Hid (dD w [(w.heap.size+1,(eP 0 0 false false 0 0 0 ⟨#[]⟩ ⟨#[]⟩ ⟨#[]⟩ ⟨#[]⟩)),(w.heap.size,(dM p))] wc):=hcut;clear hcut S1;generalize wc=W2 at *;have HHq:=S2.out.at dZ;obtain⟨k0,k1,k2,k3,k4,k5,k6,k7,k8,k9,k10⟩:=HHq.c11;clear HHq;have HHq:=S2.out.at cM;obtain⟨z0,z1,z2,z3,z4,z5,z6,z7,z8,z9,z10⟩:=HHq.c11;obtain⟨zf0,zf1,zf2,zf3,zf4,zf5,zf6,zf7,zf8,zf9,zf10⟩:=HHq.f11;clear HHq;have HBE:Hid (Below w.heap.size w ((sW (sW (sW (sW (sW (sW (sW (sW (sW (sW W2 (w.heap.size+1) 0 (iV p.tos)) (w.heap.size+1) 1 (iV p.id)) (w.heap.size+1) 2 (.bool p.whole)) (w.heap.size+1) 3 (.bool p.more)) (w.heap.size+1) 4 (iV p.off)) (w.heap.size+1) 5 (iV p.ttl)) (w.heap.size+1) 6 (iV p.VF)) (w.heap.size+1) 7 (.string p.src)) (w.heap.size+1) 8 (.string p.dst)) (w.heap.size+1) 9 (.string p.opts)).setCell ⟨w.heap.size+1,10,none⟩ (.string p.data))):=(sCl (sCl (sCl (sCl (sCl (sCl (sCl (sCl (sCl (sCl (sCl S2.out.b (Nat.le_succ _)) (Nat.le_succ _)) (Nat.le_succ _)) (Nat.le_succ _)) (Nat.le_succ _)) (Nat.le_succ _)) (Nat.le_succ _)) (Nat.le_succ _)) (Nat.le_succ _)) (Nat.le_succ _)) (Nat.le_succ _));clear S2;go_wp2_with fail
 exact VB (v:=.agg (dM p).toArray) (by simp[results,Tryz.results112,go_sem,z0,z1,z2,z3,z4,z5,z6,z7,z8,z9,z10]) rfl ⟨rfl,HBE.out⟩
theorem vX(q:P4)(f g:Fl)(d:BA)(c:Int)(w:World)(h1:q.src.size≤1048576)(h2:q.dst.size≤1048576)(h3:q.opts.size≤1048576)(h4:q.data.size≤1048576)
  (HS:Hid (∀W,Cb 113 #[gF f,gF g,.string q.data] W (iS d c))) :
  Cb 61 #[kL q,gF f,gF g] w (kL { q with src:=g.src,dst:=g.dst,data:=d }):=by
 have HC:Hid (∀W,Cb 112 #[kL q] W (kL q)):=fun W=>AD q W h1 h2 h3 h4
 have S0:Hid (dD w [(w.heap.size+1+1+1,(eP 0 0 false false 0 0 0 ⟨#[]⟩ ⟨#[]⟩ ⟨#[]⟩ ⟨#[]⟩)),(w.heap.size+1+1,(gH g)),(w.heap.size+1,(gH f)),(w.heap.size,(dM q))] ((aW (aW (aW w (dM q) 33) (gH f) 43) (gH g) 43).alloc (.cells (eP 0 0 false false 0 0 0 ⟨#[]⟩ ⟨#[]⟩ ⟨#[]⟩ ⟨#[]⟩).toArray 33))):=by
  have h:=((((⟨fun e he=>(by cases he),Below.refl _ _,fun e he=>(by cases he)⟩: dD w [] w).push (dM q) (by simp) 33).push (gH f) (by simp) 43).push (gH g) (by simp) 43).push (eP 0 0 false false 0 0 0 ⟨#[]⟩ ⟨#[]⟩ ⟨#[]⟩ ⟨#[]⟩) (by simp) 33;simp only[UC]at h;exact h
 clear h1 h2 h3 h4;unfold kL gF iS at *;go_enter Tryz.func61,Tryz.ntmps61
 go_upto_region 1 with fail
 generalize World.alloc _ _=W0 at *;have HHq:=S0.out.at iF;obtain⟨k0,k1,k2,k3,k4,k5,k6,k7,k8,k9,k10⟩:=HHq.c11;clear HHq;go_wp2_with fail
 refine(HC.out W0).mono ?_;rintro e w1 ⟨rfl,qx⟩;have S1:Hid (dD w [(w1.heap.size,(dM q)),(w.heap.size+1+1+1,(eP 0 0 false false 0 0 0 ⟨#[]⟩ ⟨#[]⟩ ⟨#[]⟩ ⟨#[]⟩)),(w.heap.size+1+1,(gH g)),(w.heap.size+1,(gH f)),(w.heap.size,(dM q))] (w1.alloc (.cells (dM q).toArray 33))):=(S0.out.kept qx).push (dM q) (by simp) 33;have hn:w.heap.size+1+1+1 < w1.heap.size:=((S0.out.kept qx).k _ cM).lt (by simp);clear S0 qx HC k0 k1 k2 k3 k4 k5 k6 k7 k8 k9 k10;go_upto_region 2 with fail
 generalize (w1.alloc (.cells (dM q).toArray 33))=W1 at *;generalize w1.heap.size=Nb at *;go_cut [10] (fun v wx=>dD w [(Nb,(eP q.tos q.id q.whole q.more q.off q.ttl q.VF g.src g.dst q.opts d)),(w.heap.size+1+1+1,(eP 0 0 false false 0 0 0 ⟨#[]⟩ ⟨#[]⟩ ⟨#[]⟩ ⟨#[]⟩)),(w.heap.size+1+1,(gH g)),(w.heap.size+1,(gH f)),(w.heap.size,(dM q))] wx)
 case first=>
  have e0:w.heap.size≠Nb:=by omega
  have e1:w.heap.size+1≠Nb:=by omega
  have e2:w.heap.size+1+1≠Nb:=by omega
  have e3:Nb≠w.heap.size:=by omega
  have e4:Nb≠w.heap.size+1:=by omega
  have e5:Nb≠w.heap.size+1+1:=by omega
  have kq:W1.cell? ⟨w.heap.size,10,none⟩=some (.string q.data):=(S1.out.k _ nH:aA W1 (w.heap.size) (dM q)).cell rfl;have kf0:W1.cell? ⟨w.heap.size+1,0,none⟩=some (iV f.VF):=(S1.out.k _ iF:aA W1 (w.heap.size+1) (gH f)).cell rfl;have kf1:W1.cell? ⟨w.heap.size+1,1,none⟩=some (.string f.src):=(S1.out.k _ iF:aA W1 (w.heap.size+1) (gH f)).cell rfl;have kf2:W1.cell? ⟨w.heap.size+1,2,none⟩=some (.string f.dst):=(S1.out.k _ iF:aA W1 (w.heap.size+1) (gH f)).cell rfl;have kf3:W1.cell? ⟨w.heap.size+1,3,none⟩=some (iV f.sp):=(S1.out.k _ iF:aA W1 (w.heap.size+1) (gH f)).cell rfl;have kf4:W1.cell? ⟨w.heap.size+1,4,none⟩=some (iV f.dp):=(S1.out.k _ iF:aA W1 (w.heap.size+1) (gH f)).cell rfl;have kg0:W1.cell? ⟨w.heap.size+1+1,0,none⟩=some (iV g.VF):=(S1.out.k _ eL:aA W1 (w.heap.size+1+1) (gH g)).cell rfl;have kg1:W1.cell? ⟨w.heap.size+1+1,1,none⟩=some (.string g.src):=(S1.out.k _ eL:aA W1 (w.heap.size+1+1) (gH g)).cell rfl;have kg2:W1.cell? ⟨w.heap.size+1+1,2,none⟩=some (.string g.dst):=(S1.out.k _ eL:aA W1 (w.heap.size+1+1) (gH g)).cell rfl;have kg3:W1.cell? ⟨w.heap.size+1+1,3,none⟩=some (iV g.sp):=(S1.out.k _ eL:aA W1 (w.heap.size+1+1) (gH g)).cell rfl;have kg4:W1.cell? ⟨w.heap.size+1+1,4,none⟩=some (iV g.dp):=(S1.out.k _ eL:aA W1 (w.heap.size+1+1) (gH g)).cell rfl;have kn7:W1.cell? ⟨Nb,7,none⟩=some (.string q.src):=(S1.out.k _ cM:aA W1 Nb (dM q)).cell rfl;have km7:W1.frozen? ⟨Nb,7,none⟩=false:=(S1.out.k _ cM:aA W1 Nb (dM q)).free (j:=7) (by simp);have kn8:W1.cell? ⟨Nb,8,none⟩=some (.string q.dst):=(S1.out.k _ cM:aA W1 Nb (dM q)).cell rfl;have km8:W1.frozen? ⟨Nb,8,none⟩=false:=(S1.out.k _ cM:aA W1 Nb (dM q)).free (j:=8) (by simp);have kn10:W1.cell? ⟨Nb,10,none⟩=some (.string q.data):=(S1.out.k _ cM:aA W1 Nb (dM q)).cell rfl
  have km10:W1.frozen? ⟨Nb,10,none⟩=false:=(S1.out.k _ cM:aA W1 Nb (dM q)).free (j:=10) (by simp);have hfd:∀W,(Instr.field 55 (.agg #[.string d,iV c]) 0).run Tryz.prog W=.ok (.string d) W:=fun W=>by kernel_rfl
  go_region_held (fun wy=>wy.cell? ⟨w.heap.size,10,none⟩=some (.string q.data)∧wy.cell? ⟨w.heap.size+1,0,none⟩=some (iV f.VF)∧wy.cell? ⟨w.heap.size+1,1,none⟩=some (.string f.src)∧wy.cell? ⟨w.heap.size+1,2,none⟩=some (.string f.dst)∧wy.cell? ⟨w.heap.size+1,3,none⟩=some (iV f.sp)∧wy.cell? ⟨w.heap.size+1,4,none⟩=some (iV f.dp)∧wy.cell? ⟨w.heap.size+1+1,0,none⟩=some (iV g.VF)∧wy.cell? ⟨w.heap.size+1+1,1,none⟩=some (.string g.src)∧wy.cell? ⟨w.heap.size+1+1,2,none⟩=some (.string g.dst)∧wy.cell? ⟨w.heap.size+1+1,3,none⟩=some (iV g.sp)∧wy.cell? ⟨w.heap.size+1+1,4,none⟩=some (iV g.dp)) (go_keep) (first | (go_at_call 113;refine(HS.out _).mono ?_;rintro e w5 ⟨rfl,qx⟩;have S5:Hid _:=S1.out.kept (bR.drew.trans qx);clear qx;have lq:w5.cell? ⟨w.heap.size,10,none⟩=some (.string q.data):=(S5.out.k _ nH:aA w5 (w.heap.size) (dM q)).cell rfl;have lf0:w5.cell? ⟨w.heap.size+1,0,none⟩=some (iV f.VF):=(S5.out.k _ iF:aA w5 (w.heap.size+1) (gH f)).cell rfl;have lf1:w5.cell? ⟨w.heap.size+1,1,none⟩=some (.string f.src):=(S5.out.k _ iF:aA w5 (w.heap.size+1) (gH f)).cell rfl;have lf2:w5.cell? ⟨w.heap.size+1,2,none⟩=some (.string f.dst):=(S5.out.k _ iF:aA w5 (w.heap.size+1) (gH f)).cell rfl;have lf3:w5.cell? ⟨w.heap.size+1,3,none⟩=some (iV f.sp):=(S5.out.k _ iF:aA w5 (w.heap.size+1) (gH f)).cell rfl;have lf4:w5.cell? ⟨w.heap.size+1,4,none⟩=some (iV f.dp):=(S5.out.k _ iF:aA w5 (w.heap.size+1) (gH f)).cell rfl;have lg0:w5.cell? ⟨w.heap.size+1+1,0,none⟩=some (iV g.VF):=(S5.out.k _ eL:aA w5 (w.heap.size+1+1) (gH g)).cell rfl;have lg1:w5.cell? ⟨w.heap.size+1+1,1,none⟩=some (.string g.src):=(S5.out.k _ eL:aA w5 (w.heap.size+1+1) (gH g)).cell rfl;have lg2:w5.cell? ⟨w.heap.size+1+1,2,none⟩=some (.string g.dst):=(S5.out.k _ eL:aA w5 (w.heap.size+1+1) (gH g)).cell rfl;have lg3:w5.cell? ⟨w.heap.size+1+1,3,none⟩=some (iV g.sp):=(S5.out.k _ eL:aA w5 (w.heap.size+1+1) (gH g)).cell rfl;have lg4:w5.cell? ⟨w.heap.size+1+1,4,none⟩=some (iV g.dp):=(S5.out.k _ eL:aA w5 (w.heap.size+1+1) (gH g)).cell rfl;have ln7:w5.cell? ⟨Nb,7,none⟩=some (.string q.src):=(S5.out.k _ cM:aA w5 Nb (dM q)).cell rfl;have lm7:w5.frozen? ⟨Nb,7,none⟩=false:=(S5.out.k _ cM:aA w5 Nb (dM q)).free (j:=7) (by simp);have ln8:w5.cell? ⟨Nb,8,none⟩=some (.string q.dst):=(S5.out.k _ cM:aA w5 Nb (dM q)).cell rfl;have lm8:w5.frozen? ⟨Nb,8,none⟩=false:=(S5.out.k _ cM:aA w5 Nb (dM q)).free (j:=8) (by simp);have ln10:w5.cell? ⟨Nb,10,none⟩=some (.string q.data):=(S5.out.k _ cM:aA w5 Nb (dM q)).cell rfl;have lm10:w5.frozen? ⟨Nb,10,none⟩=false:=(S5.out.k _ cM:aA w5 Nb (dM q)).free (j:=10) (by simp);clear kq kf0 kf1 kf2 kf3 kf4 kg0 kg1 kg2 kg3 kg4 kn7 km7 kn8 km8 kn10 km10))
  have SX:Hid (dD w [(Nb,(eP q.tos q.id q.whole q.more q.off q.ttl q.VF g.src g.dst q.opts d)),(w.heap.size+1+1+1,(eP 0 0 false false 0 0 0 ⟨#[]⟩ ⟨#[]⟩ ⟨#[]⟩ ⟨#[]⟩)),(w.heap.size+1+1,(gH g)),(w.heap.size+1,(gH f)),(w.heap.size,(dM q))] ((sW (sW w5 Nb 7 (.string g.src)) Nb 8 (.string g.dst)).setCell ⟨Nb,10,none⟩ (.string d))):=⟨fun e he=>by
   simp only[UH,UG,or_false]at he;rcases he with rfl|rfl|rfl|rfl|rfl
   ·exact((((S5.out.k _ cM).set 7 (.string g.src)).set 8 (.string g.dst)).set 10 (.string d))
   ·exact((((S5.out.k _ dZ).setOther (by show w.heap.size+1+1+1≠Nb;omega) _).setOther (by show w.heap.size+1+1+1≠Nb;omega) _).setOther (by show w.heap.size+1+1+1≠Nb;omega) _)
   ·exact((((S5.out.k _ eL).setOther (by show w.heap.size+1+1≠Nb;omega) _).setOther (by show w.heap.size+1+1≠Nb;omega) _).setOther (by show w.heap.size+1+1≠Nb;omega) _)
   ·exact((((S5.out.k _ iF).setOther (by show w.heap.size+1≠Nb;omega) _).setOther (by show w.heap.size+1≠Nb;omega) _).setOther (by show w.heap.size+1≠Nb;omega) _)
   ·exact((((S5.out.k _ nH).setOther (by show w.heap.size≠Nb;omega) _).setOther (by show w.heap.size≠Nb;omega) _).setOther (by show w.heap.size≠Nb;omega) _),(sCl (sCl (sCl S5.out.b (show w.heap.size≤Nb by omega)) (show w.heap.size≤Nb by omega)) (show w.heap.size≤Nb by omega)),fun e he=>by
   simp only[UH,UG,or_false]at he;rcases he with rfl|rfl|rfl|rfl|rfl<;>simp⟩
  all_goals go_wp2_with fail
  all_goals go_meet
  all_goals exact SX.out
 case rest=>
 have S2:Hid (dD w [(Nb,(eP q.tos q.id q.whole q.more q.off q.ttl q.VF g.src g.dst q.opts d)),(w.heap.size+1+1+1,(eP 0 0 false false 0 0 0 ⟨#[]⟩ ⟨#[]⟩ ⟨#[]⟩ ⟨#[]⟩)),(w.heap.size+1+1,(gH g)),(w.heap.size+1,(gH f)),(w.heap.size,(dM q))] wc):=hcut;clear hcut S1 HS;generalize wc=W2 at *;have HHq:=S2.out.at cM;obtain⟨k0,k1,k2,k3,k4,k5,k6,k7,k8,k9,k10⟩:=HHq.c11;clear HHq;have HHq:=S2.out.at dZ;obtain⟨z0,z1,z2,z3,z4,z5,z6,z7,z8,z9,z10⟩:=HHq.c11;obtain⟨zf0,zf1,zf2,zf3,zf4,zf5,zf6,zf7,zf8,zf9,zf10⟩:=HHq.f11;clear HHq;have HBE:Hid (Below w.heap.size w ((sW (sW (sW (sW (sW (sW (sW (sW (sW (sW W2 (w.heap.size+1+1+1) 0 (iV q.tos)) (w.heap.size+1+1+1) 1 (iV q.id)) (w.heap.size+1+1+1) 2 (.bool q.whole)) (w.heap.size+1+1+1) 3 (.bool q.more)) (w.heap.size+1+1+1) 4 (iV q.off)) (w.heap.size+1+1+1) 5 (iV q.ttl)) (w.heap.size+1+1+1) 6 (iV q.VF)) (w.heap.size+1+1+1) 7 (.string g.src)) (w.heap.size+1+1+1) 8 (.string g.dst)) (w.heap.size+1+1+1) 9 (.string q.opts)).setCell ⟨w.heap.size+1+1+1,10,none⟩ (.string d))):=(sCl (sCl (sCl (sCl (sCl (sCl (sCl (sCl (sCl (sCl (sCl S2.out.b (show w.heap.size≤w.heap.size+1+1+1 by omega)) (show w.heap.size≤w.heap.size+1+1+1 by omega)) (show w.heap.size≤w.heap.size+1+1+1 by omega)) (show w.heap.size≤w.heap.size+1+1+1 by omega)) (show w.heap.size≤w.heap.size+1+1+1 by omega)) (show w.heap.size≤w.heap.size+1+1+1 by omega)) (show w.heap.size≤w.heap.size+1+1+1 by omega)) (show w.heap.size≤w.heap.size+1+1+1 by omega)) (show w.heap.size≤w.heap.size+1+1+1 by omega)) (show w.heap.size≤w.heap.size+1+1+1 by omega)) (show w.heap.size≤w.heap.size+1+1+1 by omega));clear S2;go_wp2_with fail
 exact VB (v:=.agg (eP q.tos q.id q.whole q.more q.off q.ttl q.VF g.src g.dst q.opts d).toArray) (by simp[results,Tryz.results61,go_sem,z0,z1,z2,z3,z4,z5,z6,z7,z8,z9,z10]) rfl ⟨rfl,HBE.out⟩
def kN(base:Nat)(o:No)(e:Ending)(w':World):Prop:=∃a b ca cb,e=.returned (vJ a b ca cb o)∧bV base w' a b o.bib
theorem dN{base:Nat}{w:World}(c:Int):kN base (eW c) (.returned (vJ none none 0 0 (eW c))) w:=⟨none,none,0,0,rfl,.inl rfl,.inl rfl,fun g h e1=>by simp at e1⟩
theorem aT:(Tryz.prog.info? 39).map (·.size)=some 25:=by kernel_rfl
theorem oU(c:Int)(w:World) :
  Cb 29 #[iV c] w (vJ none none 0 0 (eW c)):=by
 have H0:Hid (aA (w.alloc (.cells bK.toArray 39)) w.heap.size (fW none none 0 0 (eW 0))):=aA.new w bK 39;have B0:Hid (Below w.heap.size w (w.alloc (.cells bK.toArray 39))):=bR.alloc lR _;go_enter Tryz.func29,Tryz.ntmps29
 go_upto_region 1 with fail
 generalize (w.alloc (.cells bK.toArray 39))=W0 at *;have HTH:Hid (W0.there w.heap.size 0 (fW none none 0 0 (eW c)).toArray.size):=mP H0.out _ _ _ _ _;have HRR:Hid (aA (W0.setCells w.heap.size 0 (fW none none 0 0 (eW c)).toArray.toList) w.heap.size (fW none none 0 0 (eW c))):=H0.out.mid rfl;have RB:Hid (Below w.heap.size w (W0.setCells w.heap.size 0 (fW none none 0 0 (eW c)).toArray.toList)):=Below.mid B0.out lR _;clear H0 B0;go_wp2_with (refine wpList_store_mid (by rfl) 39 (.tmp 2) (.tmp 4) (by rfl) _ _ _ (by rfl) (by rfl) HTH.out aT (cN _ _ _ _ _) ?_)
 exact VB (aF Tryz.results29 _ _ _ _ _ rfl HRR.out Tryz.underlying39 rfl aT) rfl (And.intro rfl RB.out)
theorem BJ(pa:OA)(pc:Nat)(p:Pl)(ba bo:OA)(ca cb:Nat)(x:Bb)(q:P4)(now:Int)(w:World)(hbk:fA p x=true)(hq:jB q=true)(hnow:bT now=true)(hl1:x.VN.length≤1048576)(hl2:x.VK.length≤1048576)(hp:bP cB 1 w pa p.VL)(hx:dC w ba bo x) :
  Calls Tryz.prog 30 #[iK pa pc p,gP ba bo ca cb x,kL q,iV now] w fun e w'=>kN w.heap.size (bW p x q now) e w'∧Below w.heap.size w w':=by
 obtain⟨hA,hB⟩: KZ q=true∧LI q=true:=by unfold jB at hq;simp only[UB]at hq;exact hq.1
 obtain⟨-,-,hpr,-,-,hs,hd⟩:=tT hA;obtain⟨-,-,hdt,-,-⟩:=tU hB;have hpo:cU p=true:=(gI.1 hbk).pool;have HOF:Hid (∀W,Cb 32 #[.string q.src,.string q.dst,iV q.VF,.string q.data] W (.tuple #[gF (aI q.src q.dst q.VF q.data),iV (aS q.src.size q.VF q.data)])):=fun W=>xE _ _ _ _ W (by omega) (by omega)
 have HIL:Hid (∀c W,Cb 29 #[iV c] W (vJ none none 0 0 (eW c))):=fun c W=>oU c W
 have HGO:Hid (aS q.src.size q.VF q.data=0→∀W,Below w.heap.size w W→Calls Tryz.prog 63 #[iK pa pc p,gP ba bo ca cb x,gF (aI q.src q.dst q.VF q.data),.string q.dst,.string q.data,iV now] W fun e w'=>kX W.heap.size (dO p x (kW (aI q.src q.dst q.VF q.data) q.dst q.data) now) e w'∧Below W.heap.size W w'):=fun h W hW=>by
  obtain⟨z1,z2,z3,z4,z5,z6⟩:=fP (d:=q.dst) h;exact KT pa pc p ba bo ca cb x _ q.dst q.data now W hpo hnow (by rw[z2];omega) z4.1 z4.2 (by omega) (by rw[z1];exact(gY h).2) hl1 hl2 (hp.below hW) (hx.below hW)
 have HBE:Hid (aS q.src.size q.VF q.data=0→(dO p x (kW (aI q.src q.dst q.VF q.data) q.dst q.data) now).code=0→_):=fun h h2=>mM hbk hnow (AM hs hd h) h2
 have HFM:Hid (aS q.src.size q.VF q.data=0→(dO p x (kW (aI q.src q.dst q.VF q.data) q.dst q.data) now).code=0→∀W,Cb 64 #[gF (aI q.src q.dst q.VF q.data),.string (dO p x (kW (aI q.src q.dst q.VF q.data) q.dst q.data) now).bind.out,iV (dO p x (kW (aI q.src q.dst q.VF q.data) q.dst q.data) now).bind.VI,.string q.dst] W (gF (gX (aI q.src q.dst q.VF q.data) (dO p x (kW (aI q.src q.dst q.VF q.data) q.dst q.data) now).bind.out (dO p x (kW (aI q.src q.dst q.VF q.data) q.dst q.data) now).bind.VI q.dst))):=fun h h2 W=>EE _ _ _ _ W (by have:=(HBE.out h h2).1;omega)
 have HST:Hid (aS q.src.size q.VF q.data=0→(dO p x (kW (aI q.src q.dst q.VF q.data) q.dst q.data) now).code=0→∀W,Cb 45 #[gF (aI q.src q.dst q.VF q.data),gF (gX (aI q.src q.dst q.VF q.data) (dO p x (kW (aI q.src q.dst q.VF q.data) q.dst q.data) now).bind.out (dO p x (kW (aI q.src q.dst q.VF q.data) q.dst q.data) now).bind.VI q.dst),.string q.data] W (iS (jI (aI q.src q.dst q.VF q.data) (gX (aI q.src q.dst q.VF q.data) (dO p x (kW (aI q.src q.dst q.VF q.data) q.dst q.data) now).bind.out (dO p x (kW (aI q.src q.dst q.VF q.data) q.dst q.data) now).bind.VI q.dst) q.data) 0)):=fun h h2 W=>by
  obtain⟨z1,z2,z3,z4,z5,z6⟩:=fP (d:=q.dst) h;obtain⟨b1,b2,b3,b4,b5⟩:=HBE.out h h2;obtain⟨k1,k2,k3,k4⟩:=oP (f:=aI q.src q.dst q.VF q.data) (g:=⟨(aI q.src q.dst q.VF q.data).VF,(dO p x (kW (aI q.src q.dst q.VF q.data) q.dst q.data) now).bind.out,q.dst,(dO p x (kW (aI q.src q.dst q.VF q.data) q.dst q.data) now).bind.VI,(aI q.src q.dst q.VF q.data).dp⟩) (nU h (gG hs hd)) (by rw[z2];exact hs) b1 hd rfl b2 z5;obtain⟨m1,m2,m3⟩:=mF k1;have o:=gY h;refine(zJ _ (gX (aI q.src q.dst q.VF q.data) (dO p x (kW (aI q.src q.dst q.VF q.data) q.dst q.data) now).bind.out (dO p x (kW (aI q.src q.dst q.VF q.data) q.dst q.data) now).bind.VI q.dst) q.data W (by omega) o.1 (by rw[z1];exact o.2) ⟨by rw[z2];omega,by rw[z3];omega⟩ m1 (by rw[z1];exact hpr) m2 m3).mono ?_;rintro e w' ⟨rfl,hb⟩;refine⟨?_,hb⟩;unfold jI;have k5:(gX (aI q.src q.dst q.VF q.data) (dO p x (kW (aI q.src q.dst q.VF q.data) q.dst q.data) now).bind.out (dO p x (kW (aI q.src q.dst q.VF q.data) q.dst q.data) now).bind.VI q.dst).src.size=4:=by show (lO _ _).src.size=4;rw[k3];exact b1
  have k6:¬(gX (aI q.src q.dst q.VF q.data) (dO p x (kW (aI q.src q.dst q.VF q.data) q.dst q.data) now).bind.out (dO p x (kW (aI q.src q.dst q.VF q.data) q.dst q.data) now).bind.VI q.dst).src.size=16:=by omega
  simp only[if_neg k6];by_cases hbu:fQ (aI q.src q.dst q.VF q.data) q.data=true
  ·simp only[if_pos hbu]
  ·simp only[if_neg hbu]
 have HV:Hid (bW p x q now=if aS q.src.size q.VF q.data≠0 then eW (aS q.src.size q.VF q.data) else if (dO p x (kW (aI q.src q.dst q.VF q.data) q.dst q.data) now).code≠0 then eW (dO p x (kW (aI q.src q.dst q.VF q.data) q.dst q.data) now).code else ⟨(dO p x (kW (aI q.src q.dst q.VF q.data) q.dst q.data) now).bib,{ q with src:=(dO p x (kW (aI q.src q.dst q.VF q.data) q.dst q.data) now).bind.out,data:=jI (aI q.src q.dst q.VF q.data) (gX (aI q.src q.dst q.VF q.data) (dO p x (kW (aI q.src q.dst q.VF q.data) q.dst q.data) now).bind.out (dO p x (kW (aI q.src q.dst q.VF q.data) q.dst q.data) now).bind.VI q.dst) q.data },gK,0⟩):=rfl;clear HBE;generalize bW p x q now=ans at *;generalize jI (aI q.src q.dst q.VF q.data) (gX (aI q.src q.dst q.VF q.data) (dO p x (kW (aI q.src q.dst q.VF q.data) q.dst q.data) now).bind.out (dO p x (kW (aI q.src q.dst q.VF q.data) q.dst q.data) now).bind.VI q.dst) q.data=sd at *;generalize gX (aI q.src q.dst q.VF q.data) (dO p x (kW (aI q.src q.dst q.VF q.data) q.dst q.data) now).bind.out (dO p x (kW (aI q.src q.dst q.VF q.data) q.dst q.data) now).bind.VI q.dst=g at *;generalize dO p x (kW (aI q.src q.dst q.VF q.data) q.dst q.data) now=nv at *;generalize aI q.src q.dst q.VF q.data=fl at *;generalize aS q.src.size q.VF q.data=cd at *;obtain⟨tos,id,whole,more,off,ttl,VF,src,dst,opts,data⟩:=q;clear hp hx hpo hnow hbk hq hA hB;unfold iK gP kL at *;unfold gF iS at *;dsimp only at *;have e0:aA ((aW (aW (aW w (bG pa pc p) 27) (aX ba ca bo cb x) 31) (eP tos id whole more off ttl VF src dst opts data) 33).alloc (.cells bK.toArray 39)) (w.heap.size) (bG pa pc p):=by
  have h:=aA.new w (bG pa pc p) 27;try simp only[UC]at h
  exact(((h.alloc _).alloc _).alloc _)
 have e1:aA ((aW (aW (aW w (bG pa pc p) 27) (aX ba ca bo cb x) 31) (eP tos id whole more off ttl VF src dst opts data) 33).alloc (.cells bK.toArray 39)) (w.heap.size+1) (aX ba ca bo cb x):=by
  have h:=aA.new (w.alloc (.cells (bG pa pc p).toArray 27)) (aX ba ca bo cb x) 31;try simp only[UC]at h
  exact((h.alloc _).alloc _)
 have e2:aA ((aW (aW (aW w (bG pa pc p) 27) (aX ba ca bo cb x) 31) (eP tos id whole more off ttl VF src dst opts data) 33).alloc (.cells bK.toArray 39)) (w.heap.size+1+1) (eP tos id whole more off ttl VF src dst opts data):=by
  have h:=aA.new ((aW w (bG pa pc p) 27).alloc (.cells (aX ba ca bo cb x).toArray 31)) (eP tos id whole more off ttl VF src dst opts data) 33;try simp only[UC]at h
  exact(h.alloc _)
 have e3:aA ((aW (aW (aW w (bG pa pc p) 27) (aX ba ca bo cb x) 31) (eP tos id whole more off ttl VF src dst opts data) 33).alloc (.cells bK.toArray 39)) (w.heap.size+1+1+1) bK:=by
  have h:=aA.new ((aW (aW w (bG pa pc p) 27) (aX ba ca bo cb x) 31).alloc (.cells (eP tos id whole more off ttl VF src dst opts data).toArray 33)) bK 39;try simp only[UC]at h
  exact h
 have HS0:Hid (dD w [(w.heap.size,(bG pa pc p)),(w.heap.size+1,(aX ba ca bo cb x)),(w.heap.size+1+1,(eP tos id whole more off ttl VF src dst opts data)),(w.heap.size+1+1+1,bK)] ((aW (aW (aW w (bG pa pc p) 27) (aX ba ca bo cb x) 31) (eP tos id whole more off ttl VF src dst opts data) 33).alloc (.cells bK.toArray 39))):=by
  refine⟨fun e he=>?_,((((bR.alloc (by (try simp only[UC]);omega) _).alloc (by (try simp only[UC]);omega) _).alloc (by (try simp only[UC]);omega) _).alloc (by (try simp only[UC]);omega) _),fun e he=>?_⟩
  ·simp only[UH,UG,or_false]at he;rcases he with rfl|rfl|rfl|rfl
   ·exact e0
   ·exact e1
   ·exact e2
   ·exact e3
  ·simp only[UH,UG,or_false]at he;rcases he with rfl|rfl|rfl|rfl<;>simp
 clear e0 e1 e2 e3;have hRw:w.heap.size≤w.heap.size+1+1+1:=by omega
 go_enter Tryz.func30,Tryz.ntmps30
 go_upto_region 1 with fail
 generalize World.alloc _ _=W0 at *;have HHk:=HS0.out.at eL;obtain⟨k0,k1,k2,k3,k4,k5,k6,k7,k8,k9,k10⟩:=HHk.c11;clear HHk;go_wp2_with fail
 refine(HOF.out _).mono ?_;rintro e W1 ⟨rfl,r1⟩;have S2:Hid (dD w ((W1.heap.size,(gH fl))::[(w.heap.size,(bG pa pc p)),(w.heap.size+1,(aX ba ca bo cb x)),(w.heap.size+1+1,(eP tos id whole more off ttl VF src dst opts data)),(w.heap.size+1+1+1,bK)]) (W1.alloc (.cells (gH fl).toArray 43))):=(HS0.out.kept r1).push (gH fl) (by simp) _;clear r1 HS0 HOF k0 k1 k2 k3 k4 k5 k6 k7 k8 k9 k10;go_upto_region 2 with fail
 generalize (W1.alloc (.cells (gH fl).toArray 43))=W2 at *;generalize W1.heap.size=Fb at *;by_cases hc:cd=0
 case neg=>
  have d0:(cd != 0)=true:=by simp[hc]
  have HX:Hid (ans=eW cd):=by unfold Hid;rw[HV.out,if_pos hc]
  go_wp2_with fail
  refine(HIL.out cd _).mono ?_;rintro e W3 ⟨rfl,r3⟩;have S3:Hid _:=S2.out.kept r3;clear r3;obtain⟨HTH,HRR,RB⟩:=kD (show aA W3 (w.heap.size+1+1+1) (fW none none 0 0 (eW 0)) from S3.out.k _ nH) S3.out.b hRw none none 0 0 (eW cd);unfold vJ;go_wp2_with (refine wpList_store_mid (by rfl) 39 (.tmp 8) (.tmp 28) (by rfl) _ _ _ (by rfl) (by rfl) HTH.out aT (cN _ _ _ _ _) ?_)
  exact VB (aF Tryz.results30 _ _ _ _ _ rfl HRR.out Tryz.underlying39 rfl aT) rfl (And.intro (by rw[HX.out];exact dN _) RB.out)
 have d0:(cd != 0)=false:=by simp[hc]
 rw[if_neg (by simp[hc])]at HV;replace HGO:Hid _:=HGO.out hc;replace HFM:Hid _:=HFM.out hc;replace HST:Hid _:=HST.out hc;clear hc;go_upto_region 4 with fail
 clear d0;have HHk:=S2.out.at dZ;obtain⟨k0,k1,k2,k3,k4,k5,k6,k7,k8,k9⟩:=HHk.c10;clear HHk;have HHl:=S2.out.at eL;obtain⟨l0,l1⟩:=HHl.c2;clear HHl;have HHm:=S2.out.at cM;obtain⟨m0,m1,m2,m3,m4⟩:=HHm.c5;clear HHm;have HHn:=S2.out.at iF;obtain⟨n0,n1,n2,n3,n4,n5,n6,n7,n8,n9,n10⟩:=HHn.c11;clear HHn;have hR2:w.heap.size+1+1+1 < W2.heap.size:=(S2.out.k _ nH).lt (by simp);have hw2:w.heap.size≤W2.heap.size:=S2.out.b.size;go_wp2_with fail
 refine(HGO.out W2 S2.out.b).mono ?_;rintro e W3 ⟨⟨a9,b9,c9,d9,rfl,hown⟩,r3⟩;unfold EZ;have S4:Hid (dD w ((W3.heap.size,(qZ a9 c9 b9 d9 nv))::[(Fb,(gH fl)),(w.heap.size,(bG pa pc p)),(w.heap.size+1,(aX ba ca bo cb x)),(w.heap.size+1+1,(eP tos id whole more off ttl VF src dst opts data)),(w.heap.size+1+1+1,bK)]) (W3.alloc (.cells (qZ a9 c9 b9 d9 nv).toArray 104))):=(S2.out.kept r3).push (qZ a9 c9 b9 d9 nv) (by simp) _;have O4:Hid (bV W2.heap.size (W3.alloc (.cells (qZ a9 c9 b9 d9 nv).toArray 104)) a9 b9 nv.bib):=hown.kept (bR.alloc lR _);have hx4:W2.heap.size≤W3.heap.size:=r3.size;clear r3 hown S2 HGO k0 k1 k2 k3 k4 k5 k6 k7 k8 k9 l0 l1 m0 m1 m2 m3 m4 n0 n1 n2 n3 n4 n5 n6 n7 n8 n9 n10;go_upto_region 5 with fail
 generalize (W3.alloc (.cells (qZ a9 c9 b9 d9 nv).toArray 104))=W4 at *;generalize W3.heap.size=Xb at *;have HHk:=S4.out.at cM;obtain⟨k0,k1,k2,k3,k4,k5,k6,k7⟩:=HHk.c8;clear HHk;by_cases hn:nv.code=0
 case neg=>
  have d0:(nv.code != 0)=true:=by simp[hn]
  have HX:Hid (ans=eW nv.code):=by unfold Hid;rw[HV.out,if_pos hn]
  go_wp2_with fail
  refine(HIL.out nv.code _).mono ?_;rintro e W5 ⟨rfl,r5⟩;have S5:Hid _:=S4.out.kept r5;clear r5;obtain⟨HTH,HRR,RB⟩:=kD (show aA W5 (w.heap.size+1+1+1) (fW none none 0 0 (eW 0)) from S5.out.k _ CD) S5.out.b hRw none none 0 0 (eW nv.code);unfold vJ;go_wp2_with (refine wpList_store_mid (by rfl) 39 (.tmp 8) (.tmp 43) (by rfl) _ _ _ (by rfl) (by rfl) HTH.out aT (cN _ _ _ _ _) ?_)
  exact VB (aF Tryz.results30 _ _ _ _ _ rfl HRR.out Tryz.underlying39 rfl aT) rfl (And.intro (by rw[HX.out];exact dN _) RB.out)
 have d0:(nv.code != 0)=false:=by simp[hn]
 rw[if_neg (by simp[hn])]at HV;replace HFM:Hid _:=HFM.out hn;replace HST:Hid _:=HST.out hn;clear hn HIL;go_upto_region 7 with fail
 clear d0 k0 k1 k2 k3 k4 k5 k6 k7;go_cut [12] (fun v wx=>∃g8,v=.pointer (some ⟨g8,0,none⟩)∧aA wx g8 [.string sd,iV 0]∧dD w [(Xb,(qZ a9 c9 b9 d9 nv)),(Fb,(gH fl)),(w.heap.size,(bG pa pc p)),(w.heap.size+1,(aX ba ca bo cb x)),(w.heap.size+1+1,(eP tos id whole more off ttl VF src dst opts data)),(w.heap.size+1+1+1,bK)] wx∧bV W2.heap.size wx a9 b9 nv.bib)
 case first=>
  rename_i J K2 hJ hK2;have HCP:Hid (∀wy,Below W4.drew.heap.size W4.drew wy→_):=fun wy hy=>S4.out.kept (bR.drew.trans hy)
  have HOP:Hid (∀wy,Below W4.drew.heap.size W4.drew wy→bV W2.heap.size wy a9 b9 nv.bib):=fun wy hy=>O4.out.kept (bR.drew.trans hy)
  have HLT:Hid (∀e∈([(Xb,(qZ a9 c9 b9 d9 nv)),(Fb,(gH fl)),(w.heap.size,(bG pa pc p)),(w.heap.size+1,(aX ba ca bo cb x)),(w.heap.size+1+1,(eP tos id whole more off ttl VF src dst opts data)),(w.heap.size+1+1+1,bK)]:List (Nat × List Value)),e.1 < W4.drew.heap.size):=fun e he=>(S4.out.lts e he).1
  have hww:w.heap.size≤W4.drew.heap.size:=S4.out.b.size;clear S4 O4 HV;refine aN [44,45,46,47,48,49,50,51,52,53,54,55,56,57,12] (by kernel_rfl) (by kernel_rfl) ?_;iterate 13 (apply bC.u rfl;(·intro K' a wy ho hd hb hK;simp[aU,aG,aD,Region.binds]at ho hd;have hst:=HCP.out wy hb;have kC:=(hst.at dZ).c5;have kC:=(hst.at cM).c8;have kC:=(hst.at nH).c11;clear hst;go_simp;first|((try go_bits);exact hK _ _ rfl bQ)|(refine(HFM.out wy).mono ?_;rintro e wz ⟨rfl,hz⟩;exact hK _ _ rfl hz));dsimp only[nA,cA])
  (apply bC.u rfl;(·intro K' a wy ho hd hb hK;simp[aU,aG,aD,Region.binds]at ho hd;go_simp;refine(HST.out wy).mono ?_;rintro e wz ⟨rfl,hz⟩;exact hK _ _ rfl hz);dsimp only[nA,cA])
  refine bC.rel (n:=14) (LO W4.drew.heap.size [eS,iV 0]) (uT _ _ (by simp)) [_,_,_,_,_,_,_,_,_,_,_,_,_,_,LO W4.drew.heap.size [eS,iV 0]] rfl rfl ?_ ?_
  ·intro K' a wy ho hd hb hK;rw[wN rfl];clear hd ho;go_simp;exact hK _ _ ⟨wy.heap.size,rfl,hb.size,aA.new wy [eS,iV 0] 55⟩ (bR.alloc lR _)
  intro X wz hR hz;obtain⟨x0,x1,x2,x3,x4,x5,x6,x7,x8,x9,x10,x11,x12,x13,x14,-⟩:=hR;obtain⟨g8,e8,b8,y8⟩:=x14;simp only[aG]at x0 x1 x2 x3 x4 x5 x6 x7 x8 x9 x10 x11 x12 x13;simp only[aE,x0,x1,x2,x3,x4,x5,x6,x7,x8,x9,x10,x11,x12,x13,e8];clear x0 x1 x2 x3 x4 x5 x6 x7 x8 x9 x10 x11 x12 x13;have HF1:Hid (aA (stor g8 wz 0 [.string sd,iV 0]) g8 [.string sd,iV 0]):=y8.stor [.string sd,iV 0] rfl;have HF2:Hid (dD w [(Xb,(qZ a9 c9 b9 d9 nv)),(Fb,(gH fl)),(w.heap.size,(bG pa pc p)),(w.heap.size+1,(aX ba ca bo cb x)),(w.heap.size+1+1,(eP tos id whole more off ttl VF src dst opts data)),(w.heap.size+1+1+1,bK)] (stor g8 wz 0 [.string sd,iV 0])):=(HCP.out wz hz).stor (by omega) (fun e he=>by have:=HLT.out e he;omega) _;have HF3:Hid (bV W2.heap.size (stor g8 wz 0 [.string sd,iV 0]) a9 b9 nv.bib):=HOP.out _ (Below.stor b8 _ hz);obtain⟨y0,y1⟩:=y8.c2;obtain⟨yf0,yf1⟩:=y8.f2;simp only[stor,Nat.reduceAdd]at HF1 HF2 HF3;clear hz HCP HOP HLT y8;intro K10 hK10;go_simp;refine hK10 _ _ ?_;show Exit.then _ _ _ _ _;refine hK2 _ _ (hJ _ _ ?_);(repeat apply Exists.intro)
  exact⟨⟨g8,rfl,HF1.out,HF2.out,HF3.out⟩,rfl⟩
 case rest=>
 obtain⟨g8,rfl,hD,hS,hO⟩:=hcut;have D5:Hid _:=hD;have S5:Hid (dD w [(Xb,(qZ a9 c9 b9 d9 nv)),(Fb,(gH fl)),(w.heap.size,(bG pa pc p)),(w.heap.size+1,(aX ba ca bo cb x)),(w.heap.size+1+1,(eP tos id whole more off ttl VF src dst opts data)),(w.heap.size+1+1+1,bK)] wc):=hS;have O5:Hid _:=hO;have hg8:g8 < wc.heap.size:=hD.lt (by simp);clear hD hS hO S4 O4 HFM HST;generalize wc=W5 at *;have HHk:=S5.out.at cM;obtain⟨k0,k1,k2,k3,k4,k5,k6,k7⟩:=HHk.c8;clear HHk;have HHn:=S5.out.at nH;obtain⟨n0,n1,n2,n3,n4,n5,n6,n7,n8,n9,n10⟩:=HHn.c11;obtain⟨-,-,-,-,-,-,-,nf7,-,-,nf10⟩:=HHn.f11;have dd0:=D5.out.cell (j:=0) rfl;have hxq:Xb≠w.heap.size+1+1:=by omega
 have S6:Hid (dD w [(w.heap.size+1+1,(eP tos id whole more off ttl VF nv.bind.out dst opts sd)),(Xb,(qZ a9 c9 b9 d9 nv)),(w.heap.size+1+1+1,bK)] ((sW W5 (w.heap.size+1+1) 7 (.string nv.bind.out)).setCell ⟨w.heap.size+1+1,10,none⟩ (.string sd))):=⟨fun e he=>by
  simp only[UH,UG,or_false]at he;rcases he with rfl|rfl|rfl
  ·exact(HHn.set 7 (.string nv.bind.out)).set 10 (.string sd)
  ·exact aA.setOther (aA.setOther (S5.out.k _ cM) hxq _) hxq _
  ·exact aA.setOther (aA.setOther (S5.out.k _ CD) (by show w.heap.size+1+1+1≠w.heap.size+1+1;omega) _) (by show w.heap.size+1+1+1≠w.heap.size+1+1;omega) _,(sCl S5.out.b (by show w.heap.size≤w.heap.size+1+1;omega)).setCell (p:=⟨w.heap.size+1+1,10,none⟩) (by show w.heap.size≤w.heap.size+1+1;omega) _,fun e he=>by
  simp only[UH,UG,or_false]at he;rcases he with rfl|rfl|rfl<;>simp⟩
 have O6:Hid (bV W2.heap.size ((sW W5 (w.heap.size+1+1) 7 (.string nv.bind.out)).setCell ⟨w.heap.size+1+1,10,none⟩ (.string sd)) a9 b9 nv.bib):=⟨O5.out.bd.grown (aB (aB (World.grownBy.refl _ _) _) _) (by omega),O5.out.ss.grown (aB (aB (World.grownBy.refl _ _) _) _) (by omega),O5.out.ne⟩;clear HHn;go_upto_region 10 with fail
 generalize ((sW W5 (w.heap.size+1+1) 7 (.string nv.bind.out)).setCell ⟨w.heap.size+1+1,10,none⟩ (.string sd))=W6 at *;clear S5 O5 D5 dd0 nf7 nf10 hg8 k0 k1 k2 k3 k4 k5 k6 k7 n0 n1 n2 n3 n4 n5 n6 n7 n8 n9 n10;have HHn:=S6.out.at cM;obtain⟨n0,n1,n2,n3,n4,n5,n6,n7,n8,n9,n10⟩:=HHn.c11;clear HHn;have HHk:=S6.out.at dZ;obtain⟨k0,k1,k2,k3,k4,k5,k6,k7⟩:=HHk.c8;clear HHk;obtain⟨HTH,HRR,RB⟩:=kD (show aA W6 (w.heap.size+1+1+1) (fW none none 0 0 (eW 0)) from S6.out.k _ eL) S6.out.b hRw a9 b9 c9 d9 ⟨nv.bib,⟨tos,id,whole,more,off,ttl,VF,nv.bind.out,dst,opts,sd⟩,gK,0⟩;have HOW:Hid (bV w.heap.size (W6.setCells (w.heap.size+1+1+1) 0 (fW a9 b9 c9 d9 ⟨nv.bib,⟨tos,id,whole,more,off,ttl,VF,nv.bind.out,dst,opts,sd⟩,gK,0⟩).toArray.toList) a9 b9 nv.bib):=(bV.mid O6.out hR2 _).lowN hw2;clear O6 S6;go_wp2_with (refine wpList_store_mid (by rfl) 39 (.tmp 8) (.tmp 68) (by rfl) _ _ _ (by rfl) (by rfl) HTH.out aT (cN _ _ _ _ _) ?_)
 exact VB (aF Tryz.results30 _ _ _ _ _ rfl HRR.out Tryz.underlying39 rfl aT) rfl (And.intro (by rw[HV.out];exact⟨a9,b9,c9,d9,rfl,HOW.out⟩) RB.out)
end Go.Proofs.YtdkepkaflielhaaGreatDoor
