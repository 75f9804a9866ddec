import Derived.Test.YtdkepkaflielhaaGreatDoorMerged26
import Derived.Test.YtdkepkaflielhaaGreatDoorMerged23
import Derived.Test.YtdkepkaflielhaaGreatDoorMerged25
set_option linter.unusedVariables false
set_option linter.unusedSimpArgs false
set_option maxRecDepth 100000
set_option maxHeartbeats 8000000
namespace Go.Proofs.YtdkepkaflielhaaGreatDoor
open Go.RowKit Go.PlainAid
theorem xP{a b:BA}(h:a.toList=b.toList):a.size=b.size:=by rw[zV h]
theorem OX{n:Int}(h0:0≤n)(h1:n≤100000):gV n:=by unfold gV;omega
theorem yU{n a b:Int}(h:aO n a b=true)(ha:0≤a)(hb:b≤100000):gV n:=by
 have:=eK h;exact OX (by omega) (by omega)
theorem tG{p:Pl}{x:Bb}(h:oD p x)(hsz:∀s∈p.VL,s.size≤1048576):x.VN.length≤1048576∧x.VK.length≤1048576∧(∀q∈x.VN,fG q)∧(∀s∈x.VK,iI s):=by
 have hp:=h.pool;unfold cU at hp;simp only[UB,UF]at hp;have hm:=eK hp.1.1.1.2;have hb:∀q∈x.VN,fG q:=fun q hq=>by
  obtain⟨i,hi,rfl⟩:=UY hq;have h1:=h.bind i hi;unfold cK at h1;simp only[UB]at h1;obtain⟨⟨⟨⟨⟨a1,a2⟩,a3⟩,a4⟩,a5⟩,-⟩:=h1;have a2':x.VN[i].inn.size≤16:=by unfold cO at a2;simp at a2;omega
  unfold mW at a4;unfold jS at a3;obtain⟨s,hs,e⟩:=List.any_eq_true.1 a4;have hz:=xP (of_decide_eq_true e);have:=hsz s hs;unfold eN at a1;simp only[UV,UF]at a1;exact⟨by omega,by omega,by unfold gV;rcases a1 with (a|a)|a<;>omega,yU a3 (by omega) (by omega),yU a5 (by omega) (by omega)⟩
 refine⟨by have:=h.len;omega,by have:=h.most;omega,hb,fun s hs=>?_⟩;obtain⟨c,hc,ho⟩:=List.any_eq_true.1 (h.has s hs);have hcd:=hb c hc;have hv:=h.VK s hs;unfold sQ at hv;simp only[UB,UF]at hv;unfold cD at ho;simp only[UB,UF]at ho;have hi:=xP ho.1.2;exact⟨by have:=hcd.1;omega,by have:=hv.1.1.1.1;omega,ho.1.1 ▸ hcd.2.2.1,ho.2 ▸ hcd.2.2.2.1⟩
theorem KP{s d:BA}{p:Int}{t:BA}{g:Fl}(h:aS s.size p t=0):(jI (aI s d p t) g t).size≤t.size:=by
 have hpr:(aI s d p t).VF=p:=(fP (d:=d) h).1;have h8:8≤t.size∧(p=6→20≤t.size):=by
  unfold aS at h;split at h
  ·omega
  ·split at h
   ·omega
   ·rename_i _ h2;unfold gC at h2;simp only[UV,UB,UF,not_or,not_and]at h2;exact⟨by omega,fun e=>by have:=(h2.1 e);omega⟩
 unfold jI;split
 ·split
  ·exact VC _
  ·rw[kH h8.1];exact Nat.le_refl _
 ·rw[eR,kH h8.1]
  ·exact Nat.le_refl _
  ·rw[kH h8.1,aP,hpr];unfold bI;split
   ·rename_i e;have:=h8.2 e;omega
   ·split<;>omega
structure SO(p:Pl)(x:Bb)(q:P4)(now:Int)(ans:No)(ft:Int)(nv:No):Prop where
 a1:ft≠0→ans=eW ft
 a2:ft=0→q.VF=1→ans=eW 11
 a3:ft=0→q.VF≠1→nv.code≠0→ans=nv
 a4:ft=0→q.VF≠1→nv.code=0→ans=cJ p nv.bib nv.four now
 go:ft=0→jA p x q now=nv
 sm:ft=0→nv.code=0→(nv.bib.VN.length≤1048576∧nv.bib.VK.length≤1048576∧(∀q∈nv.bib.VN,fG q)∧(∀s∈nv.bib.VK,iI s))∧nv.four.src.size≤1048576∧nv.four.dst.size≤1048576∧nv.four.opts.size≤1048576∧nv.four.data.size≤1048576
theorem zW(p:Pl)(x:Bb)(q:P4)(now:Int)(hsz:∀s∈p.VL,s.size≤1048576):SO p x q now (cI p x q now) (cT p x q now) (bW p x q now):=by
 have hb:cT p x q now=0→cI p x q now=if q.VF=1 then eW 11 else if (bW p x q now).code≠0 then bW p x q now else cJ p (bW p x q now).bib (bW p x q now).four now:=fun h=>by
  unfold cI;rw[if_neg (by simp[h])]
 refine⟨fun h=>by unfold cI;rw[if_pos h],fun h e=>by rw[hb h,if_pos e],fun h e c=>by rw[hb h,if_neg e,if_pos c],fun h e c=>by rw[hb h,if_neg e,if_neg (by simp[c])],fun h=>by unfold jA;rw[if_neg (by simp[h])],fun h c=>?_⟩;obtain⟨h1,h2,h3⟩:=jN h;obtain⟨s1,s2,s3,s4⟩:=iL h2;unfold bW at c ⊢;split at c
 ·rename_i hc;exact absurd c hc
 ·rename_i hc;have hc0:aS q.src.size q.VF q.data=0:=by simpa using hc
  split at c
  ·rename_i hn;exact absurd c hn
  ·rename_i hn;rw[if_neg hc,if_neg hn];have hn0:(dO p x (kW (aI q.src q.dst q.VF q.data) q.dst q.data) now).code=0:=by simpa using hn
   have ht:=AM s1 s2 hc0;have hg:=mU (gI.1 h1) h3 ht hn0;have he:=mM h1 h3 ht hn0;refine⟨tG hg.1 hsz,?_,?_,?_,?_⟩
   ·dsimp only;have:=he.1;omega
   ·dsimp only;omega
   ·dsimp only;omega
   ·dsimp only;have:=KP (s:=q.src) (d:=q.dst) (g:=gX (aI q.src q.dst q.VF q.data) (dO p x (kW (aI q.src q.dst q.VF q.data) q.dst q.data) now).bind.out (dO p x (kW (aI q.src q.dst q.VF q.data) q.dst q.data) now).bind.VI q.dst) hc0;omega
section
variable {w W:World} {base:Nat} {a b:OA} {x:Bb}
theorem bV.fresh(h:bV base w a b x):∀g o,(x.VN≠[]∧a=some ⟨g,o,none⟩)∨(x.VK≠[]∧b=some ⟨g,o,none⟩)→g≠w.heap.size:=by
 rintro g o (⟨h1,h2⟩|⟨h1,h2⟩)
 ·rcases h.bd with e | ⟨g',e,_,hl⟩
  ·exact absurd e h1
  ·rw[h2]at e;injection e with e;injection e with e _;have:=hl.blk;omega
 ·rcases h.ss with e | ⟨g',e,_,hl⟩
  ·exact absurd e h1
  ·rw[h2]at e;injection e with e;injection e with e _;have:=hl.blk;omega
theorem bV.midNe{X:Nat}(h:bV base w a b x)(hn:∀g o,(x.VN≠[]∧a=some ⟨g,o,none⟩)∨(x.VK≠[]∧b=some ⟨g,o,none⟩)→g≠X)(vs:List Value):bV base (w.setCells X 0 vs.toArray.toList) a b x:=by
 rw[List.toList_toArray,←lG];exact h.grownNe (oN vs (World.grownBy.refl _ _)) hn
theorem dD.mid{ks:List (Nat × List Value)}{X:Nat}(h:dD w ks W)(hb:w.heap.size≤X)(hks:∀e∈ks,e.1≠X)(vs:List Value):dD w ks (W.setCells X 0 vs.toArray.toList):=by
 rw[List.toList_toArray,←lG];exact h.stor hb hks vs
end
structure PO(p:Pl)(x:Bb)(q:P4)(now:Int)(ans:No)(ft cd:Int)(ld:Bool)(fl:Fl)(nv:Bo)(gg:Fl):Prop where
 a1:ft≠0→ans=eW ft
 a2:ft=0→ld=false→ans=eW 6
 a3:ft=0→ld=true→cd≠0→ans=eW cd
 tc:ft=0→cd=0→q.VF=6→20≤q.data.size
 sz:ft=0→q.data.size≤20000
 tb:ft=0→cd=0→dH p x ⟨fl.VF,true,fl.src,fl.sp,fl.dst,fF fl.VF fl.dp,fU q.VF q.data⟩ now=nv
 fs:ft=0→cd=0→fl.src.size=4∧fl.dst.size=4
 a4:ft=0→ld=true→cd=0→nv.code≠0→ans=eW nv.code
 a5:ft=0→ld=true→cd=0→nv.code=0→nv.bind.inn.size≠4→ans=eW 11
 ns:ft=0→cd=0→nv.code=0→nv.bind.inn.size≤16
 gs:ft=0→cd=0→nv.code=0→nv.bind.inn.size=4→gg.src.size=4∧gg.dst.size=4
 a6:ft=0→ld=true→cd=0→nv.code=0→nv.bind.inn.size=4→ans=⟨nv.bib,{ q with src:=gg.src,dst:=gg.dst,data:=fJ fl gg q.data },gK,0⟩
theorem NA(p:Pl)(x:Bb)(q:P4)(now:Int):∃nv gg,PO p x q now (jA p x q now) (cT p x q now) (aZ q.src q.dst q.VF q.data) true (bM q.src q.dst q.VF q.data) nv gg∧gg=⟨(bM q.src q.dst q.VF q.data).VF,nv.bind.out,(bM q.src q.dst q.VF q.data).dst,nv.bind.VI,if aL (bM q.src q.dst q.VF q.data).VF=true then nv.bind.VI else (bM q.src q.dst q.VF q.data).dp⟩:=by
 obtain⟨nv,hnv⟩: ∃nv,nv=dO p x (kW (aI q.src q.dst q.VF q.data) q.dst q.data) now:=⟨_,rfl⟩;refine⟨nv,_,?_,rfl⟩;have hv:cT p x q now=0→jA p x q now=bW p x q now:=fun h=>by unfold jA;rw[if_neg (by simp[h])]
 have hft:cT p x q now=0→jB q=true:=fun h=>(jN h).2.1
 have hcd:cT p x q now=0→aZ q.src q.dst q.VF q.data=aS q.src.size q.VF q.data:=fun h=>(qP (hft h)).1
 have hfl:cT p x q now=0→aZ q.src q.dst q.VF q.data=0→bM q.src q.dst q.VF q.data=aI q.src q.dst q.VF q.data:=fun h h2=>(qP (hft h)).2 (by rw[←hcd h];exact h2)
 have hpass:=fun (h:cT p x q now=0) (h2:aZ q.src q.dst q.VF q.data=0)=>NB (p:=p) (x:=x) (q:=q) (now:=now) h (by rw[←hcd h];exact h2) (bM q.src q.dst q.VF q.data) (hfl h h2) nv (by rw[hfl h h2];exact hnv)
 refine⟨fun h=>?_,fun h hl=>?_,fun h hl c=>?_,fun h c hp=>?_,fun h=>?_,fun h c=>(hpass h c).1,fun h c=>⟨(hpass h c).2.1,(hpass h c).2.2.1⟩,fun h hl c n=>?_,fun h hl c n i=>?_,fun h c n=>?_,fun h c n i=>?_,fun h hl c n i=>?_⟩
 ·unfold jA;rw[if_pos h]
 ·cases hl
 ·rw[hv h];unfold bW;rw[if_pos (by rw[←hcd h];exact c),hcd h]
 ·have c2:aS q.src.size q.VF q.data=0:=by rw[←hcd h];exact c
  rw[hp]at c2;exact EO c2
 ·have:=(iL (hft h)).2.2.2;omega
 ·rw[hv h];unfold bW;rw[if_neg (by rw[←hcd h];simp[c]),←hnv,if_pos n]
 ·exact absurd ((hpass h c).2.2.2 n).1 i
 ·have:=((hpass h c).2.2.2 n).1;omega
 ·obtain⟨-,e2,G,hG,-,-,e4,e5⟩:=(hpass h c).2.2.2 n;rw[hG,e4,e5];exact⟨e2,(iL (hft h)).2.1⟩
 ·obtain⟨-,-,G,hG,hG2,hS,e4,e5⟩:=(hpass h c).2.2.2 n;rw[hv h,hG,hS,e4,e5];unfold bW;rw[if_neg (by rw[←hcd h];simp[c]),←hnv,if_neg (by simp[n]),hG2,hfl h c]
theorem BD(pa:OA)(pc:Nat)(p:Pl)(ba bo:OA)(ca cb:Nat)(x:Bb)(q:P4)(now:Int)(w:World)(hT:rJ w)(hlp:p.VL.length≤1048576)(hpc:p.VL.length≤pc)(hsz:∀s∈p.VL,s.size≤1048576)(hl1:x.VN.length≤1048576)(hl2:x.VK.length≤1048576)(hgb:∀q∈x.VN,fG q)(hgs:∀s∈x.VK,iI s)(q1:q.src.size≤1048576)(q2:q.dst.size≤1048576)(q3:q.opts.size≤1048576)(q4:q.data.size≤1048576)(hp:bP cB 1 w pa p.VL)(hx:dC w ba bo x) :
  Calls Tryz.prog 27 #[.iface 65 (.agg #[]),iK pa pc p,gP ba bo ca cb x,kL q,iV now] w fun e w'=>kN w.heap.size (jA p x q now) e w'∧Below w.heap.size w w':=by
 obtain⟨nv,gg,HPS,hgg⟩:=NA p x q now;have CFT:Hid (∀W,Below w.heap.size w W→Cb 52 #[iK pa pc p,gP ba bo ca cb x,kL q,iV now] W (iV (cT p x q now))):=fun W hW=>tL pa pc p ba bo ca cb x q now W hlp hpc hsz hl1 hl2 hgb hgs q1 q2 q3 q4 (hp.below hW) (hx.below hW)
 have CLD:Hid (∀W,Below w.heap.size w W→Cb 57 #[.iface 65 (.agg #[]),.string q.dst] W (.bool true)):=fun W hW=>GL q.dst W
 have CFO:Hid (∀W,Cb 58 #[.string q.src,.string q.dst,iV q.VF,.string q.data] W (nV (bM q.src q.dst q.VF q.data) (aZ q.src q.dst q.VF q.data))):=fun W=>mV _ _ _ _ W q1 q2 q4
 generalize bM q.src q.dst q.VF q.data=fl at *;generalize aZ q.src q.dst q.VF q.data=cd at *;generalize cT p x q now=ft at *;generalize jA p x q now=ans at *;have CTO:Hid (∀W,Cb 202 #[.agg #[],gF fl] W (pJ ⟨fl.VF,true,fl.src,fl.sp,fl.dst,fF fl.VF fl.dp,0⟩)):=fun W=>AX fl W
 have CFL:Hid (ft=0→cd=0→∀W,Cb 59 #[iV q.VF,.string q.data] W (iV (fU q.VF q.data))):=fun h c W=>uD _ _ W (HPS.sz h) (HPS.tc h c)
 have CBT:Hid (ft=0→cd=0→∀W,Below w.heap.size w W→Calls Tryz.prog 60 #[iK pa pc p,gP ba bo ca cb x,pJ ⟨fl.VF,true,fl.src,fl.sp,fl.dst,fF fl.VF fl.dp,(fU q.VF q.data)⟩,iV now] W fun e w'=>kX W.heap.size nv e w'∧Below W.heap.size W w'):=fun h c W hW=>by
  have:=nW pa pc p ba bo ca cb x ⟨fl.VF,true,fl.src,fl.sp,fl.dst,fF fl.VF fl.dp,(fU q.VF q.data)⟩ now W (hT.below hW) (by dsimp only;have:=HPS.fs h c;omega) (by dsimp only;have:=HPS.fs h c;omega) hlp hpc hsz hl1 hl2 hgb hgs (hp.below hW) (hx.below hW);rw[HPS.tb h c]at this;exact this
 have CTU:Hid (∀W,Cb 203 #[.agg #[],gF fl,gW nv.bind] W (gF gg)):=fun W=>by rw[hgg];exact DK fl nv.bind W
 have CAS:Hid (ft=0→cd=0→nv.code=0→nv.bind.inn.size=4→∀W,Cb 61 #[kL q,gF fl,gF gg] W (kL { q with src:=gg.src,dst:=gg.dst,data:=fJ fl gg q.data })):=fun h c n i W=>by
  have hf:=HPS.fs h c;have hg:=HPS.gs h c n i;exact vX q fl gg _ _ W q1 q2 q3 q4 (fun W=>nX fl gg q.data W (by omega) (by omega) (by omega) (by omega) q4 (by omega))
 have HPS:Hid (PO p x q now ans ft cd true fl nv gg):=HPS;clear hgg hT hlp hpc hsz hl1 hl2 hgb hgs hp hx q1 q2 q3
 have hmtouch : ∀ W, (method 319 65 (.agg #[]) "loop.example/g00314/impl.touch").run Tryz.prog W = .ok (202, .agg #[]) W := fun W => by kernel_rfl
 have hmturn : ∀ W, (method 319 65 (.agg #[]) "loop.example/g00314/impl.turn").run Tryz.prog W = .ok (203, .agg #[]) W := fun W => by kernel_rfl
 unfold iK gP kL gF nV pJ gW at *;dsimp only at *;generalize fF fl.VF fl.dp=pe at *;generalize hsd:fJ fl gg q.data=sd at *;have HSD:Hid (fJ fl gg q.data=sd):=hsd;clear hsd;generalize fU q.VF q.data=fg at *;have e0:aA ((aW (aW (aW w (bG pa pc p) 27) (aX ba ca bo cb x) 31) (dM q) 33).alloc (.cells bK.toArray 39)) (w.heap.size) (bG pa pc p):=by
  have h:=aA.new w (bG pa pc p) 27;try simp only[UC]at h
  exact(((h.alloc _).alloc _).alloc _)
 have e1:aA ((aW (aW (aW w (bG pa pc p) 27) (aX ba ca bo cb x) 31) (dM q) 33).alloc (.cells bK.toArray 39)) (w.heap.size+1) (aX ba ca bo cb x):=by
  have h:=aA.new (w.alloc (.cells (bG pa pc p).toArray 27)) (aX ba ca bo cb x) 31;try simp only[UC]at h
  exact((h.alloc _).alloc _)
 have e2:aA ((aW (aW (aW w (bG pa pc p) 27) (aX ba ca bo cb x) 31) (dM q) 33).alloc (.cells bK.toArray 39)) (w.heap.size+1+1) (dM q):=by
  have h:=aA.new ((aW w (bG pa pc p) 27).alloc (.cells (aX ba ca bo cb x).toArray 31)) (dM q) 33;try simp only[UC]at h
  exact(h.alloc _)
 have e3:aA ((aW (aW (aW w (bG pa pc p) 27) (aX ba ca bo cb x) 31) (dM q) 33).alloc (.cells bK.toArray 39)) (w.heap.size+1+1+1) bK:=by
  have h:=aA.new ((aW (aW w (bG pa pc p) 27) (aX ba ca bo cb x) 31).alloc (.cells (dM q).toArray 33)) bK 39;try simp only[UC]at h
  exact h
 have HS0:Hid (dD w [(w.heap.size,(bG pa pc p)),(w.heap.size+1,(aX ba ca bo cb x)),(w.heap.size+1+1,(dM q)),(w.heap.size+1+1+1,bK)] ((aW (aW (aW w (bG pa pc p) 27) (aX ba ca bo cb x) 31) (dM q) 33).alloc (.cells bK.toArray 39))):=by
  refine⟨fun e he=>?_,((((bR.alloc (by (try simp only[UC]);omega) _).alloc (by (try simp only[UC]);omega) _).alloc (by (try simp only[UC]);omega) _).alloc (by (try simp only[UC]);omega) _),fun e he=>?_⟩
  ·simp only[UH,UG,or_false]at he;rcases he with rfl|rfl|rfl|rfl
   ·exact e0
   ·exact e1
   ·exact e2
   ·exact e3
  ·simp only[UH,UG,or_false]at he;rcases he with rfl|rfl|rfl|rfl<;>simp
 clear e0 e1 e2 e3;have hRw:w.heap.size≤w.heap.size+1+1+1:=by omega
 go_enter Tryz.func27,Tryz.ntmps27
 go_upto_region 1 with fail
 generalize World.alloc _ _=W0 at *;have HHk:=HS0.out.at cM;obtain⟨k0,k1,k2,k3,k4,k5,k6,k7,k8,k9⟩:=HHk.c10;clear HHk;have HHl:=HS0.out.at dZ;obtain⟨l0,l1⟩:=HHl.c2;clear HHl;have HHm:=HS0.out.at eL;obtain⟨m0,m1,m2,m3,m4,m5,m6,m7,m8,m9,m10⟩:=HHm.c11;clear HHm;go_wp2_with fail
 refine(CFT.out W0 HS0.out.b).mono ?_;rintro e W1 ⟨rfl,r1⟩;have S1:Hid _:=HS0.out.kept r1;clear r1 HS0 CFT k0 k1 k2 k3 k4 k5 k6 k7 k8 k9 l0 l1 m0 m1 m2 m3 m4 m5 m6 m7 m8 m9 m10;by_cases hft:ft=0
 case neg=>
  have d0:(ft != 0)=true:=by simp[hft]
  have HX:Hid (ans=eW (ft)):=HPS.out.a1 hft;obtain⟨HTH,HRR,RB⟩:=kD (show aA W1 (w.heap.size+1+1+1) (fW none none 0 0 (eW 0)) from S1.out.k _ iF) S1.out.b hRw none none 0 0 (eW (ft));go_wp2_with (refine wpList_store_mid (by rfl) 39 (.tmp 10) (.tmp 24) (by rfl) _ _ _ (by rfl) (by rfl) HTH.out aT (cN _ _ _ _ _) ?_)
  exact VB (aF Tryz.results27 _ _ _ _ _ rfl HRR.out Tryz.underlying39 rfl aT) rfl (And.intro (by rw[HX.out];exact dN _) RB.out)
 have d0:(ft != 0)=false:=by simp[hft]
 go_upto_region 4 with fail
 clear d0;have HHm:=S1.out.at eL;obtain⟨m0,m1,m2,m3,m4,m5,m6,m7,m8,m9,m10⟩:=HHm.c11;clear HHm;go_wp2_with fail
 refine(CLD.out W1 S1.out.b).mono ?_;rintro e W2 ⟨rfl,r1⟩;have S2:Hid _:=S1.out.kept r1;clear r1 S1 CLD m0 m1 m2 m3 m4 m5 m6 m7 m8 m9 m10;go_upto_region 6 with fail
 have HHm:=S2.out.at eL;obtain⟨m0,m1,m2,m3,m4,m5,m6,m7,m8,m9,m10⟩:=HHm.c11;clear HHm;go_wp2_with fail
 refine(CFO.out W2).mono ?_;rintro e W3 ⟨rfl,r1⟩;have S4:Hid (dD w ((W3.heap.size,[iV fl.VF,.string fl.src,.string fl.dst,iV fl.sp,iV fl.dp,iV cd])::[(w.heap.size,(bG pa pc p)),(w.heap.size+1,(aX ba ca bo cb x)),(w.heap.size+1+1,(dM q)),(w.heap.size+1+1+1,bK)]) (W3.alloc (.cells #[iV fl.VF,.string fl.src,.string fl.dst,iV fl.sp,iV fl.dp,iV cd] 45))):=(S2.out.kept r1).push [iV fl.VF,.string fl.src,.string fl.dst,iV fl.sp,iV fl.dp,iV cd] (by simp) _;have hFb:w.heap.size+1+1+1 < W3.heap.size:=((S2.out.kept r1).k _ iF).lt (by simp);clear r1 S2 CFO m0 m1 m2 m3 m4 m5 m6 m7 m8 m9 m10;go_upto_region 7 with fail
 generalize (W3.alloc (.cells #[iV fl.VF,.string fl.src,.string fl.dst,iV fl.sp,iV fl.dp,iV cd] 45))=W4 at *;generalize W3.heap.size=Fb at *;have HHk:=S4.out.at cM;obtain⟨k0,k1,k2,k3,k4,k5⟩:=HHk.c6;clear HHk;by_cases hcd:cd=0
 case neg=>
  have d0:(cd != 0)=true:=by simp[hcd]
  have HX:Hid (ans=eW (cd)):=HPS.out.a3 hft rfl hcd;obtain⟨HTH,HRR,RB⟩:=kD (show aA W4 (w.heap.size+1+1+1) (fW none none 0 0 (eW 0)) from S4.out.k _ nH) S4.out.b hRw none none 0 0 (eW (cd));go_wp2_with (refine wpList_store_mid (by rfl) 39 (.tmp 10) (.tmp 45) (by rfl) _ _ _ (by rfl) (by rfl) HTH.out aT (cN _ _ _ _ _) ?_)
  exact VB (aF Tryz.results27 _ _ _ _ _ rfl HRR.out Tryz.underlying39 rfl aT) rfl (And.intro (by rw[HX.out];exact dN _) RB.out)
 have d0:(cd != 0)=false:=by simp[hcd]
 replace CFL:Hid _:=CFL.out hft hcd;replace CBT:Hid _:=CBT.out hft hcd;replace CAS:Hid _:=CAS.out hft hcd;go_upto_region 9 with fail
 clear d0;go_wp2_with fail
 refine(CTO.out W4).mono ?_;rintro e W5 ⟨rfl,r1⟩;have S6:Hid (dD w ((W5.heap.size,(eH fl.VF true fl.src fl.sp fl.dst pe 0))::[(Fb,[iV fl.VF,.string fl.src,.string fl.dst,iV fl.sp,iV fl.dp,iV cd]),(w.heap.size,(bG pa pc p)),(w.heap.size+1,(aX ba ca bo cb x)),(w.heap.size+1+1,(dM q)),(w.heap.size+1+1+1,bK)]) (W5.alloc (.cells (eH fl.VF true fl.src fl.sp fl.dst pe 0).toArray 89))):=(S4.out.kept r1).push (eH fl.VF true fl.src fl.sp fl.dst pe 0) (by simp) _;have hTb:Fb < W5.heap.size:=((S4.out.kept r1).k _ cM).lt (by simp);clear r1 S4 CTO hmtouch k0 k1 k2 k3 k4 k5;go_upto_region 10 with fail
 generalize (W5.alloc (.cells (eH fl.VF true fl.src fl.sp fl.dst pe 0).toArray 89))=W6 at *;generalize W5.heap.size=Tb at *;have HHm:=S6.out.at nH;obtain⟨m0,m1,m2,m3,m4,m5,m6,m7,m8,m9,m10⟩:=HHm.c11;clear HHm;go_wp2_with fail
 refine(CFL.out W6).mono ?_;rintro e W7 ⟨rfl,r1⟩;have S7:Hid _:=S6.out.kept r1;clear r1 S6 CFL m0 m1 m2 m3 m4 m5 m6 m7 m8 m9 m10;have HHt:=S7.out.at cM;have tc6:=HHt.cell (j:=6) rfl;have tf6:=HHt.free (j:=6) (by simp);clear HHt;have S8:Hid (dD w [(Tb,(eH fl.VF true fl.src fl.sp fl.dst pe fg)),(Fb,[iV fl.VF,.string fl.src,.string fl.dst,iV fl.sp,iV fl.dp,iV cd]),(w.heap.size,(bG pa pc p)),(w.heap.size+1,(aX ba ca bo cb x)),(w.heap.size+1+1,(dM q)),(w.heap.size+1+1+1,bK)] (W7.setCell ⟨Tb,6,none⟩ (iV fg))):=⟨fun e he=>by
  simp only[UH,UG,or_false]at he;rcases he with rfl|rfl|rfl|rfl|rfl|rfl
  ·exact(S7.out.k _ cM).set 6 (iV fg)
  ·exact(S7.out.k _ dZ).setOther (by show Fb≠Tb;omega) _
  ·exact(S7.out.k _ eL).setOther (by omega) _
  ·exact(S7.out.k _ iF).setOther (by omega) _
  ·exact(S7.out.k _ nH).setOther (by omega) _
  ·exact(S7.out.k _ CD).setOther (by omega) _,S7.out.b.setCell (p:=⟨Tb,6,none⟩) (show w.heap.size≤Tb by omega) _,fun e he=>by
  simp only[UH,UG,or_false]at he;rcases he with rfl|rfl|rfl|rfl|rfl|rfl<;>simp⟩
 clear S7;go_upto_region 11 with fail
 generalize (W7.setCell ⟨Tb,6,none⟩ (iV fg))=W8 at *;clear tc6 tf6;have HHk:=S8.out.at eL;obtain⟨k0,k1,k2,k3,k4,k5,k6,k7,k8,k9⟩:=HHk.c10;clear HHk;have HHl:=S8.out.at iF;obtain⟨l0,l1⟩:=HHl.c2;clear HHl;have HHm:=S8.out.at cM;obtain⟨m0,m1,m2,m3,m4,m5,m6⟩:=HHm.c7;clear HHm;have hR8:w.heap.size+1+1+1 < W8.heap.size:=(S8.out.k _ CD).lt (by simp);have hw8:w.heap.size≤W8.heap.size:=S8.out.b.size;go_wp2_with fail
 refine(CBT.out W8 S8.out.b).mono ?_;rintro e W9 ⟨⟨a9,b9,c9,d9,rfl,hown⟩,r3⟩;unfold EZ;have S10:Hid (dD w ((W9.heap.size,(qZ a9 c9 b9 d9 nv))::[(Tb,(eH fl.VF true fl.src fl.sp fl.dst pe fg)),(Fb,[iV fl.VF,.string fl.src,.string fl.dst,iV fl.sp,iV fl.dp,iV cd]),(w.heap.size,(bG pa pc p)),(w.heap.size+1,(aX ba ca bo cb x)),(w.heap.size+1+1,(dM q)),(w.heap.size+1+1+1,bK)]) (W9.alloc (.cells (qZ a9 c9 b9 d9 nv).toArray 104))):=(S8.out.kept r3).push (qZ a9 c9 b9 d9 nv) (by simp) _;have O10:Hid (bV W8.heap.size (W9.alloc (.cells (qZ a9 c9 b9 d9 nv).toArray 104)) a9 b9 nv.bib):=hown.kept (bR.alloc lR _);have hx9:W8.heap.size≤W9.heap.size:=r3.size;clear r3 hown S8 CBT k0 k1 k2 k3 k4 k5 k6 k7 k8 k9 l0 l1 m0 m1 m2 m3 m4 m5 m6;go_upto_region 12 with fail
 generalize (W9.alloc (.cells (qZ a9 c9 b9 d9 nv).toArray 104))=W10 at *;generalize W9.heap.size=Xb at *;have HHk:=S10.out.at cM;obtain⟨k0,k1,k2,k3,k4,k5,k6,k7⟩:=HHk.c8;clear HHk;by_cases hn:nv.code=0
 case neg=>
  have d0:(nv.code != 0)=true:=by simp[hn]
  have HX:Hid (ans=eW (nv.code)):=HPS.out.a4 hft rfl hcd hn;obtain⟨HTH,HRR,RB⟩:=kD (show aA W10 (w.heap.size+1+1+1) (fW none none 0 0 (eW 0)) from S10.out.k _ QV) S10.out.b hRw none none 0 0 (eW (nv.code));go_wp2_with (refine wpList_store_mid (by rfl) 39 (.tmp 10) (.tmp 66) (by rfl) _ _ _ (by rfl) (by rfl) HTH.out aT (cN _ _ _ _ _) ?_)
  exact VB (aF Tryz.results27 _ _ _ _ _ rfl HRR.out Tryz.underlying39 rfl aT) rfl (And.intro (by rw[HX.out];exact dN _) RB.out)
 have d0:(nv.code != 0)=false:=by simp[hn]
 have hi16:nv.bind.inn.size≤16:=HPS.out.ns hft hcd hn;by_cases hi:nv.bind.inn.size=4
 case neg=>
  have d1:((nv.bind.inn.size:Int) != 4)=true:=by rw[bne_iff_ne];omega
  have HX:Hid (ans=eW (11)):=HPS.out.a5 hft rfl hcd hn hi;obtain⟨HTH,HRR,RB⟩:=kD (show aA W10 (w.heap.size+1+1+1) (fW none none 0 0 (eW 0)) from S10.out.k _ QV) S10.out.b hRw none none 0 0 (eW (11));go_wp2_with (refine wpList_store_mid (by rfl) 39 (.tmp 10) (.tmp 72) (by rfl) _ _ _ (by rfl) (by rfl) HTH.out aT (cN _ _ _ _ _) ?_)
  exact VB (aF Tryz.results27 _ _ _ _ _ rfl HRR.out Tryz.underlying39 rfl aT) rfl (And.intro (by rw[HX.out];exact dN _) RB.out)
 have d1:((nv.bind.inn.size:Int) != 4)=false:=by rw[bne_eq_false_iff_eq];omega
 have HX:Hid _:=HPS.out.a6 hft rfl hcd hn hi;replace CAS:Hid _:=CAS.out hn hi;clear HPS;go_upto_region 16 with fail
 clear d0 d1;have HHm:=S10.out.at eL;obtain⟨m0,m1,m2,m3,m4,m5⟩:=HHm.c6;clear HHm;go_wp2_with fail
 refine(CTU.out W10).mono ?_;rintro e W11 ⟨rfl,r1⟩;have S12:Hid (dD w ((W11.heap.size,(gH gg))::[(Xb,(qZ a9 c9 b9 d9 nv)),(Tb,(eH fl.VF true fl.src fl.sp fl.dst pe fg)),(Fb,[iV fl.VF,.string fl.src,.string fl.dst,iV fl.sp,iV fl.dp,iV cd]),(w.heap.size,(bG pa pc p)),(w.heap.size+1,(aX ba ca bo cb x)),(w.heap.size+1+1,(dM q)),(w.heap.size+1+1+1,bK)]) (W11.alloc (.cells (gH gg).toArray 43))):=(S10.out.kept r1).push (gH gg) (by simp) _;have O12:Hid (bV W8.heap.size (W11.alloc (.cells (gH gg).toArray 43)) a9 b9 nv.bib):=(O10.out.kept r1).kept (bR.alloc lR _);clear r1 S10 O10 CTU hmturn m0 m1 m2 m3 m4 m5 k0 k1 k2 k3 k4 k5 k6 k7;go_upto_region 17 with fail
 generalize (W11.alloc (.cells (gH gg).toArray 43))=W12 at *;generalize W11.heap.size=Gb at *;have HCP:Hid (∀wy,Below W12.drew.heap.size W12.drew wy→_):=fun wy hy=>S12.out.kept (bR.drew.trans hy)
 have HOP:Hid (∀wy,Below W12.drew.heap.size W12.drew wy→bV W8.heap.size wy a9 b9 nv.bib):=fun wy hy=>O12.out.kept (bR.drew.trans hy)
 clear S12 O12;refine aN [79,80,81,82,83,84,85,86] (by kernel_rfl) (by kernel_rfl) ?_;iterate 8 (apply bC.u rfl;(·intro K' a wy ho hd hb hK;simp[aU,aG,aD,Region.binds]at ho hd;have hst:=HCP.out wy hb;have kC:=(hst.at QV).c11;have kC:=(hst.at dZ).c8;have kC:=(hst.at iF).c6;have kC:=(hst.at cM).c5;clear hst;go_simp;first|((try go_bits);exact hK _ _ rfl bQ)|(refine(CAS.out wy).mono ?_;rintro e wz ⟨rfl,hz⟩;exact hK _ _ rfl hz));dsimp only[nA,cA])
 intro X wz hR hz;simp only[UM,UN,eY,aG]at hR;simp only[aE,hR];clear hR;have hS:=HCP.out wz hz;have hO:=HOP.out wz hz;have hrb:aA wz (w.heap.size+1+1+1) (fW none none 0 0 (eW 0)):=hS.k _ TN;obtain⟨HTH,HRR,RB⟩:=kD hrb hS.b hRw a9 b9 c9 d9 ⟨nv.bib,⟨q.tos,q.id,q.whole,q.more,q.off,q.ttl,q.VF,gg.src,gg.dst,q.opts,sd⟩,gK,0⟩;have HOW:Hid (bV w.heap.size (wz.setCells (w.heap.size+1+1+1) 0 (fW a9 b9 c9 d9 ⟨nv.bib,⟨q.tos,q.id,q.whole,q.more,q.off,q.ttl,q.VF,gg.src,gg.dst,q.opts,sd⟩,gK,0⟩).toArray.toList) a9 b9 nv.bib):=(bV.mid hO hR8 _).lowN hw8;clear hS hO hrb HCP HOP;simp only[List.length_cons,List.length_nil,List.drop_succ_cons,List.drop_zero,UI,Nat.reduceAdd];with_reducible refine uX 39 (.tmp 10) (.tmp 86) rfl (w.heap.size+1+1+1) 0 (fW a9 b9 c9 d9 ⟨nv.bib,⟨q.tos,q.id,q.whole,q.more,q.off,q.ttl,q.VF,gg.src,gg.dst,q.opts,sd⟩,gK,0⟩).toArray ?_ ?_ ?_ ?_ ?_ ?_
 ·simp[Act.eval,Act.put]
 ·simp[Act.eval,Act.put,fW,gK]
 ·exact HTH.out
 ·exact aT
 ·exact cN _ _ _ _ _
 generalize wz.setCells (w.heap.size+1+1+1) 0 (fW a9 b9 c9 d9 ⟨nv.bib,⟨q.tos,q.id,q.whole,q.more,q.off,q.ttl,q.VF,gg.src,gg.dst,q.opts,sd⟩,gK,0⟩).toArray.toList=WE at *;go_wp2_with fail
 with_reducible refine VB (v:=.agg (fW a9 b9 c9 d9 ⟨nv.bib,⟨q.tos,q.id,q.whole,q.more,q.off,q.ttl,q.VF,gg.src,gg.dst,q.opts,sd⟩,gK,0⟩).toArray) ?_ ?_ ?_
 ·refine aF Tryz.results27 _ _ _ _ _ ?_ HRR.out Tryz.underlying39 rfl aT;simp[Act.put]
 ·simp[Act.put]
 ·exact And.intro (by rw[HX.out,HSD.out];exact⟨a9,b9,c9,d9,rfl,HOW.out⟩) RB.out
structure PN(p:Pl)(x:Bb)(q:P4)(now:Int)(ans:No)(ft cd:Int)(ld:Bool)(fl:Fl)(nv:Bo)(gg:Fl):Prop where
 a1:ft≠0→ans=eW ft
 a2:ft=0→ld=false→ans=eW 6
 a3:ft=0→ld=true→cd≠0→ans=eW cd
 tc:ft=0→cd=0→q.VF=6→20≤q.data.size
 sz:ft=0→q.data.size≤20000
 tb:ft=0→cd=0→dH p x ⟨fl.VF,false,fl.dst,fl.dp,fl.src,fF fl.VF fl.sp,fU q.VF q.data⟩ now=nv
 fs:ft=0→cd=0→fl.src.size=4∧fl.dst.size=4
 a4:ft=0→ld=true→cd=0→nv.code≠0→ans=eW nv.code
 a5:ft=0→ld=true→cd=0→nv.code=0→nv.bind.inn.size≠4→ans=eW 11
 ns:ft=0→cd=0→nv.code=0→nv.bind.inn.size≤16
 gs:ft=0→cd=0→nv.code=0→nv.bind.inn.size=4→gg.src.size=4∧gg.dst.size=4
 a6:ft=0→ld=true→cd=0→nv.code=0→nv.bind.inn.size=4→ans=⟨nv.bib,{ q with src:=gg.src,dst:=gg.dst,data:=fJ fl gg q.data },gK,0⟩
theorem MZ(p:Pl)(x:Bb)(q:P4)(now:Int):∃nv gg,PN p x q now (cJ p x q now) (cT p x q now) (aZ q.src q.dst q.VF q.data) (mW p.VL q.dst) (bM q.src q.dst q.VF q.data) nv gg∧gg=⟨(bM q.src q.dst q.VF q.data).VF,(bM q.src q.dst q.VF q.data).src,nv.bind.inn,if aL (bM q.src q.dst q.VF q.data).VF=true then nv.bind.VH else (bM q.src q.dst q.VF q.data).sp,nv.bind.VH⟩:=by
 obtain⟨nv,hnv⟩: ∃nv,nv=dO p x (cE (aI q.src q.dst q.VF q.data) q.data) now:=⟨_,rfl⟩;refine⟨nv,_,?_,rfl⟩;have hv:cT p x q now=0→cJ p x q now=fE p x q now:=fun h=>by unfold cJ;rw[if_neg (by simp[h])]
 have hft:cT p x q now=0→jB q=true:=fun h=>(jN h).2.1
 have hcd:cT p x q now=0→aZ q.src q.dst q.VF q.data=aS q.src.size q.VF q.data:=fun h=>(qP (hft h)).1
 have hfl:cT p x q now=0→aZ q.src q.dst q.VF q.data=0→bM q.src q.dst q.VF q.data=aI q.src q.dst q.VF q.data:=fun h h2=>(qP (hft h)).2 (by rw[←hcd h];exact h2)
 have hpass:=fun (h:cT p x q now=0) (h2:aZ q.src q.dst q.VF q.data=0)=>PD (p:=p) (x:=x) (q:=q) (now:=now) h (by rw[←hcd h];exact h2) (bM q.src q.dst q.VF q.data) (hfl h h2) nv (by rw[hfl h h2];exact hnv)
 refine⟨fun h=>?_,fun h hl=>?_,fun h hl c=>?_,fun h c hp=>?_,fun h=>?_,fun h c=>(hpass h c).1,fun h c=>⟨(hpass h c).2.1,(hpass h c).2.2.1⟩,fun h hl c n=>?_,fun h hl c n i=>?_,fun h c n=>?_,fun h c n i=>?_,fun h hl c n i=>?_⟩
 ·unfold cJ;rw[if_pos h]
 ·rw[hv h];unfold fE;rw[if_pos hl]
 ·rw[hv h];unfold fE;rw[if_neg (by rw[hl];simp)];rw[if_pos (by rw[←hcd h];exact c),hcd h]
 ·have c2:aS q.src.size q.VF q.data=0:=by rw[←hcd h];exact c
  rw[hp]at c2;exact EO c2
 ·have:=(iL (hft h)).2.2.2;omega
 ·rw[hv h];unfold fE;rw[if_neg (by rw[hl];simp)];rw[if_neg (by rw[←hcd h];simp[c]),←hnv,if_pos n]
 ·rw[hv h];unfold fE;rw[if_neg (by rw[hl];simp)];rw[if_neg (by rw[←hcd h];simp[c]),←hnv,if_neg (by simp[n]),if_pos i]
 ·exact((hpass h c).2.2.2 n).1
 ·obtain⟨G,hG,-,-,e4,e5⟩:=((hpass h c).2.2.2 n).2 i;rw[hG,e4,e5];exact⟨(iL (hft h)).1,i⟩
 ·obtain⟨G,hG,hG2,hS,e4,e5⟩:=((hpass h c).2.2.2 n).2 i;rw[hv h,hG,hS,e4,e5];unfold fE;rw[if_neg (by rw[hl];simp),if_neg (by rw[←hcd h];simp[c]),←hnv,if_neg (by simp[n]),if_neg (by simp[i]),hG2,hfl h c]
theorem BC(pa:OA)(pc:Nat)(p:Pl)(ba bo:OA)(ca cb:Nat)(x:Bb)(q:P4)(now:Int)(w:World)(hT:rJ w)(hlp:p.VL.length≤1048576)(hpc:p.VL.length≤pc)(hsz:∀s∈p.VL,s.size≤1048576)(hl1:x.VN.length≤1048576)(hl2:x.VK.length≤1048576)(hgb:∀q∈x.VN,fG q)(hgs:∀s∈x.VK,iI s)(q1:q.src.size≤1048576)(q2:q.dst.size≤1048576)(q3:q.opts.size≤1048576)(q4:q.data.size≤1048576)(hp:bP cB 1 w pa p.VL)(hx:dC w ba bo x) :
  Calls Tryz.prog 27 #[.iface 82 (.agg #[.slice pa p.VL.length pc]),iK pa pc p,gP ba bo ca cb x,kL q,iV now] w fun e w'=>kN w.heap.size (cJ p x q now) e w'∧Below w.heap.size w w':=by
 obtain⟨nv,gg,HPS,hgg⟩:=MZ p x q now;have CFT:Hid (∀W,Below w.heap.size w W→Cb 52 #[iK pa pc p,gP ba bo ca cb x,kL q,iV now] W (iV (cT p x q now))):=fun W hW=>tL pa pc p ba bo ca cb x q now W hlp hpc hsz hl1 hl2 hgb hgs q1 q2 q3 q4 (hp.below hW) (hx.below hW)
 have CLD:Hid (∀W,Below w.heap.size w W→Cb 57 #[.iface 82 (.agg #[.slice pa p.VL.length pc]),.string q.dst] W (.bool (mW p.VL q.dst))):=fun W hW=>GK p.VL q.dst pa pc W hlp (hp.below hW)
 have CFO:Hid (∀W,Cb 58 #[.string q.src,.string q.dst,iV q.VF,.string q.data] W (nV (bM q.src q.dst q.VF q.data) (aZ q.src q.dst q.VF q.data))):=fun W=>mV _ _ _ _ W q1 q2 q4
 generalize bM q.src q.dst q.VF q.data=fl at *;generalize aZ q.src q.dst q.VF q.data=cd at *;generalize cT p x q now=ft at *;generalize cJ p x q now=ans at *;generalize mW p.VL q.dst=ld at *;have CTO:Hid (∀W,Cb 205 #[.agg #[.slice pa p.VL.length pc],gF fl] W (pJ ⟨fl.VF,false,fl.dst,fl.dp,fl.src,fF fl.VF fl.sp,0⟩)):=fun W=>AW fl pa p.VL.length pc W
 have CFL:Hid (ft=0→cd=0→∀W,Cb 59 #[iV q.VF,.string q.data] W (iV (fU q.VF q.data))):=fun h c W=>uD _ _ W (HPS.sz h) (HPS.tc h c)
 have CBT:Hid (ft=0→cd=0→∀W,Below w.heap.size w W→Calls Tryz.prog 60 #[iK pa pc p,gP ba bo ca cb x,pJ ⟨fl.VF,false,fl.dst,fl.dp,fl.src,fF fl.VF fl.sp,(fU q.VF q.data)⟩,iV now] W fun e w'=>kX W.heap.size nv e w'∧Below W.heap.size W w'):=fun h c W hW=>by
  have:=nW pa pc p ba bo ca cb x ⟨fl.VF,false,fl.dst,fl.dp,fl.src,fF fl.VF fl.sp,(fU q.VF q.data)⟩ now W (hT.below hW) (by dsimp only;have:=HPS.fs h c;omega) (by dsimp only;have:=HPS.fs h c;omega) hlp hpc hsz hl1 hl2 hgb hgs (hp.below hW) (hx.below hW);rw[HPS.tb h c]at this;exact this
 have CTU:Hid (∀W,Cb 206 #[.agg #[.slice pa p.VL.length pc],gF fl,gW nv.bind] W (gF gg)):=fun W=>by rw[hgg];exact DJ fl nv.bind pa p.VL.length pc W
 have CAS:Hid (ft=0→cd=0→nv.code=0→nv.bind.inn.size=4→∀W,Cb 61 #[kL q,gF fl,gF gg] W (kL { q with src:=gg.src,dst:=gg.dst,data:=fJ fl gg q.data })):=fun h c n i W=>by
  have hf:=HPS.fs h c;have hg:=HPS.gs h c n i;exact vX q fl gg _ _ W q1 q2 q3 q4 (fun W=>nX fl gg q.data W (by omega) (by omega) (by omega) (by omega) q4 (by omega))
 have HPS:Hid (PN p x q now ans ft cd ld fl nv gg):=HPS;clear hgg hT hlp hpc hsz hl1 hl2 hgb hgs hp hx q1 q2 q3
 have hmtouch : ∀ W, (method 319 82 (.agg #[.slice pa p.VL.length pc]) "loop.example/g00314/impl.touch").run Tryz.prog W = .ok (205, .agg #[.slice pa p.VL.length pc]) W := fun W => by kernel_rfl
 have hmturn : ∀ W, (method 319 82 (.agg #[.slice pa p.VL.length pc]) "loop.example/g00314/impl.turn").run Tryz.prog W = .ok (206, .agg #[.slice pa p.VL.length pc]) W := fun W => by kernel_rfl
 unfold iK gP kL gF nV pJ gW at *;dsimp only at *;generalize fF fl.VF fl.sp=pe at *;generalize hsd:fJ fl gg q.data=sd at *;have HSD:Hid (fJ fl gg q.data=sd):=hsd;clear hsd;generalize fU q.VF q.data=fg at *;have e0:aA ((aW (aW (aW w (bG pa pc p) 27) (aX ba ca bo cb x) 31) (dM q) 33).alloc (.cells bK.toArray 39)) (w.heap.size) (bG pa pc p):=by
  have h:=aA.new w (bG pa pc p) 27;try simp only[UC]at h
  exact(((h.alloc _).alloc _).alloc _)
 have e1:aA ((aW (aW (aW w (bG pa pc p) 27) (aX ba ca bo cb x) 31) (dM q) 33).alloc (.cells bK.toArray 39)) (w.heap.size+1) (aX ba ca bo cb x):=by
  have h:=aA.new (w.alloc (.cells (bG pa pc p).toArray 27)) (aX ba ca bo cb x) 31;try simp only[UC]at h
  exact((h.alloc _).alloc _)
 have e2:aA ((aW (aW (aW w (bG pa pc p) 27) (aX ba ca bo cb x) 31) (dM q) 33).alloc (.cells bK.toArray 39)) (w.heap.size+1+1) (dM q):=by
  have h:=aA.new ((aW w (bG pa pc p) 27).alloc (.cells (aX ba ca bo cb x).toArray 31)) (dM q) 33;try simp only[UC]at h
  exact(h.alloc _)
 have e3:aA ((aW (aW (aW w (bG pa pc p) 27) (aX ba ca bo cb x) 31) (dM q) 33).alloc (.cells bK.toArray 39)) (w.heap.size+1+1+1) bK:=by
  have h:=aA.new ((aW (aW w (bG pa pc p) 27) (aX ba ca bo cb x) 31).alloc (.cells (dM q).toArray 33)) bK 39;try simp only[UC]at h
  exact h
 have HS0:Hid (dD w [(w.heap.size,(bG pa pc p)),(w.heap.size+1,(aX ba ca bo cb x)),(w.heap.size+1+1,(dM q)),(w.heap.size+1+1+1,bK)] ((aW (aW (aW w (bG pa pc p) 27) (aX ba ca bo cb x) 31) (dM q) 33).alloc (.cells bK.toArray 39))):=by
  refine⟨fun e he=>?_,((((bR.alloc (by (try simp only[UC]);omega) _).alloc (by (try simp only[UC]);omega) _).alloc (by (try simp only[UC]);omega) _).alloc (by (try simp only[UC]);omega) _),fun e he=>?_⟩
  ·simp only[UH,UG,or_false]at he;rcases he with rfl|rfl|rfl|rfl
   ·exact e0
   ·exact e1
   ·exact e2
   ·exact e3
  ·simp only[UH,UG,or_false]at he;rcases he with rfl|rfl|rfl|rfl<;>simp
 clear e0 e1 e2 e3;have hRw:w.heap.size≤w.heap.size+1+1+1:=by omega
 go_enter Tryz.func27,Tryz.ntmps27
 go_upto_region 1 with fail
 generalize World.alloc _ _=W0 at *;have HHk:=HS0.out.at cM;obtain⟨k0,k1,k2,k3,k4,k5,k6,k7,k8,k9⟩:=HHk.c10;clear HHk;have HHl:=HS0.out.at dZ;obtain⟨l0,l1⟩:=HHl.c2;clear HHl;have HHm:=HS0.out.at eL;obtain⟨m0,m1,m2,m3,m4,m5,m6,m7,m8,m9,m10⟩:=HHm.c11;clear HHm;go_wp2_with fail
 refine(CFT.out W0 HS0.out.b).mono ?_;rintro e W1 ⟨rfl,r1⟩;have S1:Hid _:=HS0.out.kept r1;clear r1 HS0 CFT k0 k1 k2 k3 k4 k5 k6 k7 k8 k9 l0 l1 m0 m1 m2 m3 m4 m5 m6 m7 m8 m9 m10;by_cases hft:ft=0
 case neg=>
  have d0:(ft != 0)=true:=by simp[hft]
  have HX:Hid (ans=eW (ft)):=HPS.out.a1 hft;obtain⟨HTH,HRR,RB⟩:=kD (show aA W1 (w.heap.size+1+1+1) (fW none none 0 0 (eW 0)) from S1.out.k _ iF) S1.out.b hRw none none 0 0 (eW (ft));go_wp2_with (refine wpList_store_mid (by rfl) 39 (.tmp 10) (.tmp 24) (by rfl) _ _ _ (by rfl) (by rfl) HTH.out aT (cN _ _ _ _ _) ?_)
  exact VB (aF Tryz.results27 _ _ _ _ _ rfl HRR.out Tryz.underlying39 rfl aT) rfl (And.intro (by rw[HX.out];exact dN _) RB.out)
 have d0:(ft != 0)=false:=by simp[hft]
 go_upto_region 4 with fail
 clear d0;have HHm:=S1.out.at eL;obtain⟨m0,m1,m2,m3,m4,m5,m6,m7,m8,m9,m10⟩:=HHm.c11;clear HHm;go_wp2_with fail
 refine(CLD.out W1 S1.out.b).mono ?_;rintro e W2 ⟨rfl,r1⟩;have S2:Hid _:=S1.out.kept r1;clear r1 S1 CLD m0 m1 m2 m3 m4 m5 m6 m7 m8 m9 m10
 cases ld with
 | false=>
  have HX:Hid (ans=eW (6)):=HPS.out.a2 hft rfl;obtain⟨HTH,HRR,RB⟩:=kD (show aA W2 (w.heap.size+1+1+1) (fW none none 0 0 (eW 0)) from S2.out.k _ iF) S2.out.b hRw none none 0 0 (eW (6));go_wp2_with (refine wpList_store_mid (by rfl) 39 (.tmp 10) (.tmp 30) (by rfl) _ _ _ (by rfl) (by rfl) HTH.out aT (cN _ _ _ _ _) ?_)
  exact VB (aF Tryz.results27 _ _ _ _ _ rfl HRR.out Tryz.underlying39 rfl aT) rfl (And.intro (by rw[HX.out];exact dN _) RB.out)
 | true=>
 go_upto_region 6 with fail
 have HHm:=S2.out.at eL;obtain⟨m0,m1,m2,m3,m4,m5,m6,m7,m8,m9,m10⟩:=HHm.c11;clear HHm;go_wp2_with fail
 refine(CFO.out W2).mono ?_;rintro e W3 ⟨rfl,r1⟩;have S4:Hid (dD w ((W3.heap.size,[iV fl.VF,.string fl.src,.string fl.dst,iV fl.sp,iV fl.dp,iV cd])::[(w.heap.size,(bG pa pc p)),(w.heap.size+1,(aX ba ca bo cb x)),(w.heap.size+1+1,(dM q)),(w.heap.size+1+1+1,bK)]) (W3.alloc (.cells #[iV fl.VF,.string fl.src,.string fl.dst,iV fl.sp,iV fl.dp,iV cd] 45))):=(S2.out.kept r1).push [iV fl.VF,.string fl.src,.string fl.dst,iV fl.sp,iV fl.dp,iV cd] (by simp) _;have hFb:w.heap.size+1+1+1 < W3.heap.size:=((S2.out.kept r1).k _ iF).lt (by simp);clear r1 S2 CFO m0 m1 m2 m3 m4 m5 m6 m7 m8 m9 m10;go_upto_region 7 with fail
 generalize (W3.alloc (.cells #[iV fl.VF,.string fl.src,.string fl.dst,iV fl.sp,iV fl.dp,iV cd] 45))=W4 at *;generalize W3.heap.size=Fb at *;have HHk:=S4.out.at cM;obtain⟨k0,k1,k2,k3,k4,k5⟩:=HHk.c6;clear HHk;by_cases hcd:cd=0
 case neg=>
  have d0:(cd != 0)=true:=by simp[hcd]
  have HX:Hid (ans=eW (cd)):=HPS.out.a3 hft rfl hcd;obtain⟨HTH,HRR,RB⟩:=kD (show aA W4 (w.heap.size+1+1+1) (fW none none 0 0 (eW 0)) from S4.out.k _ nH) S4.out.b hRw none none 0 0 (eW (cd));go_wp2_with (refine wpList_store_mid (by rfl) 39 (.tmp 10) (.tmp 45) (by rfl) _ _ _ (by rfl) (by rfl) HTH.out aT (cN _ _ _ _ _) ?_)
  exact VB (aF Tryz.results27 _ _ _ _ _ rfl HRR.out Tryz.underlying39 rfl aT) rfl (And.intro (by rw[HX.out];exact dN _) RB.out)
 have d0:(cd != 0)=false:=by simp[hcd]
 replace CFL:Hid _:=CFL.out hft hcd;replace CBT:Hid _:=CBT.out hft hcd;replace CAS:Hid _:=CAS.out hft hcd;go_upto_region 9 with fail
 clear d0;go_wp2_with fail
 refine(CTO.out W4).mono ?_;rintro e W5 ⟨rfl,r1⟩;have S6:Hid (dD w ((W5.heap.size,(eH fl.VF false fl.dst fl.dp fl.src pe 0))::[(Fb,[iV fl.VF,.string fl.src,.string fl.dst,iV fl.sp,iV fl.dp,iV cd]),(w.heap.size,(bG pa pc p)),(w.heap.size+1,(aX ba ca bo cb x)),(w.heap.size+1+1,(dM q)),(w.heap.size+1+1+1,bK)]) (W5.alloc (.cells (eH fl.VF false fl.dst fl.dp fl.src pe 0).toArray 89))):=(S4.out.kept r1).push (eH fl.VF false fl.dst fl.dp fl.src pe 0) (by simp) _;have hTb:Fb < W5.heap.size:=((S4.out.kept r1).k _ cM).lt (by simp);clear r1 S4 CTO hmtouch k0 k1 k2 k3 k4 k5;go_upto_region 10 with fail
 generalize (W5.alloc (.cells (eH fl.VF false fl.dst fl.dp fl.src pe 0).toArray 89))=W6 at *;generalize W5.heap.size=Tb at *;have HHm:=S6.out.at nH;obtain⟨m0,m1,m2,m3,m4,m5,m6,m7,m8,m9,m10⟩:=HHm.c11;clear HHm;go_wp2_with fail
 refine(CFL.out W6).mono ?_;rintro e W7 ⟨rfl,r1⟩;have S7:Hid _:=S6.out.kept r1;clear r1 S6 CFL m0 m1 m2 m3 m4 m5 m6 m7 m8 m9 m10;have HHt:=S7.out.at cM;have tc6:=HHt.cell (j:=6) rfl;have tf6:=HHt.free (j:=6) (by simp);clear HHt;have S8:Hid (dD w [(Tb,(eH fl.VF false fl.dst fl.dp fl.src pe fg)),(Fb,[iV fl.VF,.string fl.src,.string fl.dst,iV fl.sp,iV fl.dp,iV cd]),(w.heap.size,(bG pa pc p)),(w.heap.size+1,(aX ba ca bo cb x)),(w.heap.size+1+1,(dM q)),(w.heap.size+1+1+1,bK)] (W7.setCell ⟨Tb,6,none⟩ (iV fg))):=⟨fun e he=>by
  simp only[UH,UG,or_false]at he;rcases he with rfl|rfl|rfl|rfl|rfl|rfl
  ·exact(S7.out.k _ cM).set 6 (iV fg)
  ·exact(S7.out.k _ dZ).setOther (by show Fb≠Tb;omega) _
  ·exact(S7.out.k _ eL).setOther (by omega) _
  ·exact(S7.out.k _ iF).setOther (by omega) _
  ·exact(S7.out.k _ nH).setOther (by omega) _
  ·exact(S7.out.k _ CD).setOther (by omega) _,S7.out.b.setCell (p:=⟨Tb,6,none⟩) (show w.heap.size≤Tb by omega) _,fun e he=>by
  simp only[UH,UG,or_false]at he;rcases he with rfl|rfl|rfl|rfl|rfl|rfl<;>simp⟩
 clear S7;go_upto_region 11 with fail
 generalize (W7.setCell ⟨Tb,6,none⟩ (iV fg))=W8 at *;clear tc6 tf6;have HHk:=S8.out.at eL;obtain⟨k0,k1,k2,k3,k4,k5,k6,k7,k8,k9⟩:=HHk.c10;clear HHk;have HHl:=S8.out.at iF;obtain⟨l0,l1⟩:=HHl.c2;clear HHl;have HHm:=S8.out.at cM;obtain⟨m0,m1,m2,m3,m4,m5,m6⟩:=HHm.c7;clear HHm;have hR8:w.heap.size+1+1+1 < W8.heap.size:=(S8.out.k _ CD).lt (by simp);have hw8:w.heap.size≤W8.heap.size:=S8.out.b.size;go_wp2_with fail
 refine(CBT.out W8 S8.out.b).mono ?_;rintro e W9 ⟨⟨a9,b9,c9,d9,rfl,hown⟩,r3⟩;unfold EZ;have S10:Hid (dD w ((W9.heap.size,(qZ a9 c9 b9 d9 nv))::[(Tb,(eH fl.VF false fl.dst fl.dp fl.src pe fg)),(Fb,[iV fl.VF,.string fl.src,.string fl.dst,iV fl.sp,iV fl.dp,iV cd]),(w.heap.size,(bG pa pc p)),(w.heap.size+1,(aX ba ca bo cb x)),(w.heap.size+1+1,(dM q)),(w.heap.size+1+1+1,bK)]) (W9.alloc (.cells (qZ a9 c9 b9 d9 nv).toArray 104))):=(S8.out.kept r3).push (qZ a9 c9 b9 d9 nv) (by simp) _;have O10:Hid (bV W8.heap.size (W9.alloc (.cells (qZ a9 c9 b9 d9 nv).toArray 104)) a9 b9 nv.bib):=hown.kept (bR.alloc lR _);have hx9:W8.heap.size≤W9.heap.size:=r3.size;clear r3 hown S8 CBT k0 k1 k2 k3 k4 k5 k6 k7 k8 k9 l0 l1 m0 m1 m2 m3 m4 m5 m6;go_upto_region 12 with fail
 generalize (W9.alloc (.cells (qZ a9 c9 b9 d9 nv).toArray 104))=W10 at *;generalize W9.heap.size=Xb at *;have HHk:=S10.out.at cM;obtain⟨k0,k1,k2,k3,k4,k5,k6,k7⟩:=HHk.c8;clear HHk;by_cases hn:nv.code=0
 case neg=>
  have d0:(nv.code != 0)=true:=by simp[hn]
  have HX:Hid (ans=eW (nv.code)):=HPS.out.a4 hft rfl hcd hn;obtain⟨HTH,HRR,RB⟩:=kD (show aA W10 (w.heap.size+1+1+1) (fW none none 0 0 (eW 0)) from S10.out.k _ QV) S10.out.b hRw none none 0 0 (eW (nv.code));go_wp2_with (refine wpList_store_mid (by rfl) 39 (.tmp 10) (.tmp 66) (by rfl) _ _ _ (by rfl) (by rfl) HTH.out aT (cN _ _ _ _ _) ?_)
  exact VB (aF Tryz.results27 _ _ _ _ _ rfl HRR.out Tryz.underlying39 rfl aT) rfl (And.intro (by rw[HX.out];exact dN _) RB.out)
 have d0:(nv.code != 0)=false:=by simp[hn]
 have hi16:nv.bind.inn.size≤16:=HPS.out.ns hft hcd hn;by_cases hi:nv.bind.inn.size=4
 case neg=>
  have d1:((nv.bind.inn.size:Int) != 4)=true:=by rw[bne_iff_ne];omega
  have HX:Hid (ans=eW (11)):=HPS.out.a5 hft rfl hcd hn hi;obtain⟨HTH,HRR,RB⟩:=kD (show aA W10 (w.heap.size+1+1+1) (fW none none 0 0 (eW 0)) from S10.out.k _ QV) S10.out.b hRw none none 0 0 (eW (11));go_wp2_with (refine wpList_store_mid (by rfl) 39 (.tmp 10) (.tmp 72) (by rfl) _ _ _ (by rfl) (by rfl) HTH.out aT (cN _ _ _ _ _) ?_)
  exact VB (aF Tryz.results27 _ _ _ _ _ rfl HRR.out Tryz.underlying39 rfl aT) rfl (And.intro (by rw[HX.out];exact dN _) RB.out)
 have d1:((nv.bind.inn.size:Int) != 4)=false:=by rw[bne_eq_false_iff_eq];omega
 have HX:Hid _:=HPS.out.a6 hft rfl hcd hn hi;replace CAS:Hid _:=CAS.out hn hi;clear HPS;go_upto_region 16 with fail
 clear d0 d1;have HHm:=S10.out.at eL;obtain⟨m0,m1,m2,m3,m4,m5⟩:=HHm.c6;clear HHm;go_wp2_with fail
 refine(CTU.out W10).mono ?_;rintro e W11 ⟨rfl,r1⟩;have S12:Hid (dD w ((W11.heap.size,(gH gg))::[(Xb,(qZ a9 c9 b9 d9 nv)),(Tb,(eH fl.VF false fl.dst fl.dp fl.src pe fg)),(Fb,[iV fl.VF,.string fl.src,.string fl.dst,iV fl.sp,iV fl.dp,iV cd]),(w.heap.size,(bG pa pc p)),(w.heap.size+1,(aX ba ca bo cb x)),(w.heap.size+1+1,(dM q)),(w.heap.size+1+1+1,bK)]) (W11.alloc (.cells (gH gg).toArray 43))):=(S10.out.kept r1).push (gH gg) (by simp) _;have O12:Hid (bV W8.heap.size (W11.alloc (.cells (gH gg).toArray 43)) a9 b9 nv.bib):=(O10.out.kept r1).kept (bR.alloc lR _);clear r1 S10 O10 CTU hmturn m0 m1 m2 m3 m4 m5 k0 k1 k2 k3 k4 k5 k6 k7;go_upto_region 17 with fail
 generalize (W11.alloc (.cells (gH gg).toArray 43))=W12 at *;generalize W11.heap.size=Gb at *;have HCP:Hid (∀wy,Below W12.drew.heap.size W12.drew wy→_):=fun wy hy=>S12.out.kept (bR.drew.trans hy)
 have HOP:Hid (∀wy,Below W12.drew.heap.size W12.drew wy→bV W8.heap.size wy a9 b9 nv.bib):=fun wy hy=>O12.out.kept (bR.drew.trans hy)
 clear S12 O12;refine aN [79,80,81,82,83,84,85,86] (by kernel_rfl) (by kernel_rfl) ?_;iterate 8 (apply bC.u rfl;(·intro K' a wy ho hd hb hK;simp[aU,aG,aD,Region.binds]at ho hd;have hst:=HCP.out wy hb;have kC:=(hst.at QV).c11;have kC:=(hst.at dZ).c8;have kC:=(hst.at iF).c6;have kC:=(hst.at cM).c5;clear hst;go_simp;first|((try go_bits);exact hK _ _ rfl bQ)|(refine(CAS.out wy).mono ?_;rintro e wz ⟨rfl,hz⟩;exact hK _ _ rfl hz));dsimp only[nA,cA])
 intro X wz hR hz;simp only[UM,UN,eY,aG]at hR;simp only[aE,hR];clear hR;have hS:=HCP.out wz hz;have hO:=HOP.out wz hz;have hrb:aA wz (w.heap.size+1+1+1) (fW none none 0 0 (eW 0)):=hS.k _ TN;obtain⟨HTH,HRR,RB⟩:=kD hrb hS.b hRw a9 b9 c9 d9 ⟨nv.bib,⟨q.tos,q.id,q.whole,q.more,q.off,q.ttl,q.VF,gg.src,gg.dst,q.opts,sd⟩,gK,0⟩;have HOW:Hid (bV w.heap.size (wz.setCells (w.heap.size+1+1+1) 0 (fW a9 b9 c9 d9 ⟨nv.bib,⟨q.tos,q.id,q.whole,q.more,q.off,q.ttl,q.VF,gg.src,gg.dst,q.opts,sd⟩,gK,0⟩).toArray.toList) a9 b9 nv.bib):=(bV.mid hO hR8 _).lowN hw8;clear hS hO hrb HCP HOP;simp only[List.length_cons,List.length_nil,List.drop_succ_cons,List.drop_zero,UI,Nat.reduceAdd];with_reducible refine uX 39 (.tmp 10) (.tmp 86) rfl (w.heap.size+1+1+1) 0 (fW a9 b9 c9 d9 ⟨nv.bib,⟨q.tos,q.id,q.whole,q.more,q.off,q.ttl,q.VF,gg.src,gg.dst,q.opts,sd⟩,gK,0⟩).toArray ?_ ?_ ?_ ?_ ?_ ?_
 ·simp[Act.eval,Act.put]
 ·simp[Act.eval,Act.put,fW,gK]
 ·exact HTH.out
 ·exact aT
 ·exact cN _ _ _ _ _
 generalize wz.setCells (w.heap.size+1+1+1) 0 (fW a9 b9 c9 d9 ⟨nv.bib,⟨q.tos,q.id,q.whole,q.more,q.off,q.ttl,q.VF,gg.src,gg.dst,q.opts,sd⟩,gK,0⟩).toArray.toList=WE at *;go_wp2_with fail
 with_reducible refine VB (v:=.agg (fW a9 b9 c9 d9 ⟨nv.bib,⟨q.tos,q.id,q.whole,q.more,q.off,q.ttl,q.VF,gg.src,gg.dst,q.opts,sd⟩,gK,0⟩).toArray) ?_ ?_ ?_
 ·refine aF Tryz.results27 _ _ _ _ _ ?_ HRR.out Tryz.underlying39 rfl aT;simp[Act.put]
 ·simp[Act.put]
 ·exact And.intro (by rw[HX.out,HSD.out];exact⟨a9,b9,c9,d9,rfl,HOW.out⟩) RB.out
theorem yF(pa:OA)(pc:Nat)(p:Pl)(ba bo:OA)(ca cb:Nat)(x:Bb)(q:P4)(now:Int)(w:World)(hT:rJ w)(hlp:p.VL.length≤1048576)(hpc:p.VL.length≤pc)(hsz:∀s∈p.VL,s.size≤1048576)(hl1:x.VN.length≤1048576)(hl2:x.VK.length≤1048576)(hgb:∀q∈x.VN,fG q)(hgs:∀s∈x.VK,iI s)(q1:q.src.size≤1048576)(q2:q.dst.size≤1048576)(q3:q.opts.size≤1048576)(q4:q.data.size≤1048576)(hp:bP cB 1 w pa p.VL)(hx:dC w ba bo x) :
  Calls Tryz.prog 7 #[iK pa pc p,gP ba bo ca cb x,kL q,iV now] w fun e w'=>kN w.heap.size (jA p x q now) e w'∧Below w.heap.size w w':=by
 have HIN:Hid (∀W,Below w.heap.size w W→Calls Tryz.prog 27 #[.iface 65 (.agg #[]),iK pa pc p,gP ba bo ca cb x,kL q,iV now] W fun e w'=>kN W.heap.size (jA p x q now) e w'∧Below W.heap.size W w'):=fun W hW=>BD pa pc p ba bo ca cb x q now W (hT.below hW) hlp hpc hsz hl1 hl2 hgb hgs q1 q2 q3 q4 (hp.below hW) (hx.below hW)
 generalize jA p x q now=nv at *;clear hT hlp hpc hsz hl1 hl2 hgb hgs hp hx q1 q2 q3 q4;unfold iK gP kL at *;have e0:aA ((aW (aW (aW w (bG pa pc p) 27) (aX ba ca bo cb x) 31) (dM q) 33).alloc (.cells bK.toArray 39)) (w.heap.size) (bG pa pc p):=by
  have h:=aA.new w (bG pa pc p) 27;try simp only[UC]at h
  exact(((h.alloc _).alloc _).alloc _)
 have e1:aA ((aW (aW (aW w (bG pa pc p) 27) (aX ba ca bo cb x) 31) (dM q) 33).alloc (.cells bK.toArray 39)) (w.heap.size+1) (aX ba ca bo cb x):=by
  have h:=aA.new (w.alloc (.cells (bG pa pc p).toArray 27)) (aX ba ca bo cb x) 31;try simp only[UC]at h
  exact((h.alloc _).alloc _)
 have e2:aA ((aW (aW (aW w (bG pa pc p) 27) (aX ba ca bo cb x) 31) (dM q) 33).alloc (.cells bK.toArray 39)) (w.heap.size+1+1) (dM q):=by
  have h:=aA.new ((aW w (bG pa pc p) 27).alloc (.cells (aX ba ca bo cb x).toArray 31)) (dM q) 33;try simp only[UC]at h
  exact(h.alloc _)
 have e3:aA ((aW (aW (aW w (bG pa pc p) 27) (aX ba ca bo cb x) 31) (dM q) 33).alloc (.cells bK.toArray 39)) (w.heap.size+1+1+1) bK:=by
  have h:=aA.new ((aW (aW w (bG pa pc p) 27) (aX ba ca bo cb x) 31).alloc (.cells (dM q).toArray 33)) bK 39;try simp only[UC]at h
  exact h
 have HS0:Hid (dD w [(w.heap.size,(bG pa pc p)),(w.heap.size+1,(aX ba ca bo cb x)),(w.heap.size+1+1,(dM q)),(w.heap.size+1+1+1,bK)] ((aW (aW (aW w (bG pa pc p) 27) (aX ba ca bo cb x) 31) (dM q) 33).alloc (.cells bK.toArray 39))):=by
  refine⟨fun e he=>?_,((((bR.alloc (by (try simp only[UC]);omega) _).alloc (by (try simp only[UC]);omega) _).alloc (by (try simp only[UC]);omega) _).alloc (by (try simp only[UC]);omega) _),fun e he=>?_⟩
  ·simp only[UH,UG,or_false]at he;rcases he with rfl|rfl|rfl|rfl
   ·exact e0
   ·exact e1
   ·exact e2
   ·exact e3
  ·simp only[UH,UG,or_false]at he;rcases he with rfl|rfl|rfl|rfl<;>simp
 clear e0 e1 e2 e3;have hRw:w.heap.size≤w.heap.size+1+1+1:=by omega
 go_enter Tryz.func7,Tryz.ntmps7
 go_upto_region 1 with fail
 generalize World.alloc _ _=W0 at *;have HHk:=HS0.out.at cM;obtain⟨k0,k1,k2,k3,k4,k5,k6,k7,k8,k9⟩:=HHk.c10;clear HHk;have HHl:=HS0.out.at dZ;obtain⟨l0,l1⟩:=HHl.c2;clear HHl;have HHm:=HS0.out.at eL;obtain⟨m0,m1,m2,m3,m4,m5,m6,m7,m8,m9,m10⟩:=HHm.c11;clear HHm;have hR2:w.heap.size+1+1+1 < W0.heap.size:=(HS0.out.k _ iF).lt (by simp);have hw2:w.heap.size≤W0.heap.size:=HS0.out.b.size;go_wp2_with fail
 refine(HIN.out W0 HS0.out.b).mono ?_;rintro e W3 ⟨⟨a9,b9,c9,d9,rfl,hown⟩,r3⟩;have S3:Hid _:=HS0.out.kept r3;clear r3 HS0 HIN k0 k1 k2 k3 k4 k5 k6 k7 k8 k9 l0 l1 m0 m1 m2 m3 m4 m5 m6 m7 m8 m9 m10;obtain⟨HTH,HRR,RB⟩:=kD (show aA W3 (w.heap.size+1+1+1) (fW none none 0 0 (eW 0)) from S3.out.k _ iF) S3.out.b hRw a9 b9 c9 d9 nv;have HOW:Hid (bV w.heap.size (W3.setCells (w.heap.size+1+1+1) 0 (fW a9 b9 c9 d9 nv).toArray.toList) a9 b9 nv.bib):=(bV.mid hown hR2 _).lowN hw2;clear hown S3;unfold vJ;go_wp2_with (refine wpList_store_mid (by rfl) 39 (.tmp 8) (.tmp 15) (by rfl) _ _ _ (by rfl) (by rfl) HTH.out aT (cN _ _ _ _ _) ?_)
 exact VB (aF Tryz.results7 _ _ _ _ _ rfl HRR.out Tryz.underlying39 rfl aT) rfl (And.intro ⟨a9,b9,c9,d9,rfl,HOW.out⟩ RB.out)
theorem vG(pa:OA)(pc:Nat)(p:Pl)(ba bo:OA)(ca cb:Nat)(x:Bb)(q:P4)(now:Int)(w:World)(hT:rJ w)(hlp:p.VL.length≤1048576)(hpc:p.VL.length≤pc)(hsz:∀s∈p.VL,s.size≤1048576)(hl1:x.VN.length≤1048576)(hl2:x.VK.length≤1048576)(hgb:∀q∈x.VN,fG q)(hgs:∀s∈x.VK,iI s)(q1:q.src.size≤1048576)(q2:q.dst.size≤1048576)(q3:q.opts.size≤1048576)(q4:q.data.size≤1048576)(hp:bP cB 1 w pa p.VL)(hx:dC w ba bo x) :
  Calls Tryz.prog 17 #[iK pa pc p,gP ba bo ca cb x,kL q,iV now] w fun e w'=>kN w.heap.size (cJ p x q now) e w'∧Below w.heap.size w w':=by
 have HIN:Hid (∀W,Below w.heap.size w W→Calls Tryz.prog 27 #[.iface 82 (.agg #[.slice pa p.VL.length pc]),iK pa pc p,gP ba bo ca cb x,kL q,iV now] W fun e w'=>kN W.heap.size (cJ p x q now) e w'∧Below W.heap.size W w'):=fun W hW=>BC pa pc p ba bo ca cb x q now W (hT.below hW) hlp hpc hsz hl1 hl2 hgb hgs q1 q2 q3 q4 (hp.below hW) (hx.below hW)
 generalize cJ p x q now=nv at *;clear hT hlp hpc hsz hl1 hl2 hgb hgs hp hx q1 q2 q3 q4;unfold iK gP kL at *;have e0:aA ((aW (aW (aW w (bG pa pc p) 27) (aX ba ca bo cb x) 31) (dM q) 33).alloc (.cells bK.toArray 39)) (w.heap.size) (bG pa pc p):=by
  have h:=aA.new w (bG pa pc p) 27;try simp only[UC]at h
  exact(((h.alloc _).alloc _).alloc _)
 have e1:aA ((aW (aW (aW w (bG pa pc p) 27) (aX ba ca bo cb x) 31) (dM q) 33).alloc (.cells bK.toArray 39)) (w.heap.size+1) (aX ba ca bo cb x):=by
  have h:=aA.new (w.alloc (.cells (bG pa pc p).toArray 27)) (aX ba ca bo cb x) 31;try simp only[UC]at h
  exact((h.alloc _).alloc _)
 have e2:aA ((aW (aW (aW w (bG pa pc p) 27) (aX ba ca bo cb x) 31) (dM q) 33).alloc (.cells bK.toArray 39)) (w.heap.size+1+1) (dM q):=by
  have h:=aA.new ((aW w (bG pa pc p) 27).alloc (.cells (aX ba ca bo cb x).toArray 31)) (dM q) 33;try simp only[UC]at h
  exact(h.alloc _)
 have e3:aA ((aW (aW (aW w (bG pa pc p) 27) (aX ba ca bo cb x) 31) (dM q) 33).alloc (.cells bK.toArray 39)) (w.heap.size+1+1+1) bK:=by
  have h:=aA.new ((aW (aW w (bG pa pc p) 27) (aX ba ca bo cb x) 31).alloc (.cells (dM q).toArray 33)) bK 39;try simp only[UC]at h
  exact h
 have HS0:Hid (dD w [(w.heap.size,(bG pa pc p)),(w.heap.size+1,(aX ba ca bo cb x)),(w.heap.size+1+1,(dM q)),(w.heap.size+1+1+1,bK)] ((aW (aW (aW w (bG pa pc p) 27) (aX ba ca bo cb x) 31) (dM q) 33).alloc (.cells bK.toArray 39))):=by
  refine⟨fun e he=>?_,((((bR.alloc (by (try simp only[UC]);omega) _).alloc (by (try simp only[UC]);omega) _).alloc (by (try simp only[UC]);omega) _).alloc (by (try simp only[UC]);omega) _),fun e he=>?_⟩
  ·simp only[UH,UG,or_false]at he;rcases he with rfl|rfl|rfl|rfl
   ·exact e0
   ·exact e1
   ·exact e2
   ·exact e3
  ·simp only[UH,UG,or_false]at he;rcases he with rfl|rfl|rfl|rfl<;>simp
 clear e0 e1 e2 e3;have hRw:w.heap.size≤w.heap.size+1+1+1:=by omega
 go_enter Tryz.func17,Tryz.ntmps17
 go_upto_region 1 with fail
 generalize World.alloc _ _=W0 at *;have HHk:=HS0.out.at cM;obtain⟨k0,k1,k2,k3,k4,k5,k6,k7,k8,k9⟩:=HHk.c10;clear HHk;have HHl:=HS0.out.at dZ;obtain⟨l0,l1⟩:=HHl.c2;clear HHl;have HHm:=HS0.out.at eL;obtain⟨m0,m1,m2,m3,m4,m5,m6,m7,m8,m9,m10⟩:=HHm.c11;clear HHm;have hR2:w.heap.size+1+1+1 < W0.heap.size:=(HS0.out.k _ iF).lt (by simp);have hw2:w.heap.size≤W0.heap.size:=HS0.out.b.size;go_wp2_with fail
 refine(HIN.out W0 HS0.out.b).mono ?_;rintro e W3 ⟨⟨a9,b9,c9,d9,rfl,hown⟩,r3⟩;have S3:Hid _:=HS0.out.kept r3;clear r3 HS0 HIN k0 k1 k2 k3 k4 k5 k6 k7 k8 k9 l0 l1 m0 m1 m2 m3 m4 m5 m6 m7 m8 m9 m10;obtain⟨HTH,HRR,RB⟩:=kD (show aA W3 (w.heap.size+1+1+1) (fW none none 0 0 (eW 0)) from S3.out.k _ iF) S3.out.b hRw a9 b9 c9 d9 nv;have HOW:Hid (bV w.heap.size (W3.setCells (w.heap.size+1+1+1) 0 (fW a9 b9 c9 d9 nv).toArray.toList) a9 b9 nv.bib):=(bV.mid hown hR2 _).lowN hw2;clear hown S3;unfold vJ;go_wp2_with (refine wpList_store_mid (by rfl) 39 (.tmp 8) (.tmp 17) (by rfl) _ _ _ (by rfl) (by rfl) HTH.out aT (cN _ _ _ _ _) ?_)
 exact VB (aF Tryz.results17 _ _ _ _ _ rfl HRR.out Tryz.underlying39 rfl aT) rfl (And.intro ⟨a9,b9,c9,d9,rfl,HOW.out⟩ RB.out)
theorem vF(pa:OA)(pc:Nat)(p:Pl)(ba bo:OA)(ca cb:Nat)(x:Bb)(q:P4)(now:Int)(w:World)(hT:rJ w)(hlp:p.VL.length≤1048576)(hpc:p.VL.length≤pc)(hsz:∀s∈p.VL,s.size≤1048576)(hl1:x.VN.length≤1048576)(hl2:x.VK.length≤1048576)(hgb:∀q∈x.VN,fG q)(hgs:∀s∈x.VK,iI s)(q1:q.src.size≤1048576)(q2:q.dst.size≤1048576)(q3:q.opts.size≤1048576)(q4:q.data.size≤1048576)(hp:bP cB 1 w pa p.VL)(hx:dC w ba bo x) :
  Calls Tryz.prog 22 #[iK pa pc p,gP ba bo ca cb x,kL q,iV now] w fun e w'=>kN w.heap.size (cI p x q now) e w'∧Below w.heap.size w w':=by
 have HPS:=zW p x q now hsz;have CFT:Hid (∀W,Below w.heap.size w W→Cb 52 #[iK pa pc p,gP ba bo ca cb x,kL q,iV now] W (iV (cT p x q now))):=fun W hW=>tL pa pc p ba bo ca cb x q now W hlp hpc hsz hl1 hl2 hgb hgs q1 q2 q3 q4 (hp.below hW) (hx.below hW)
 have CGO:Hid (cT p x q now=0→∀W,Below w.heap.size w W→Calls Tryz.prog 7 #[iK pa pc p,gP ba bo ca cb x,kL q,iV now] W fun e w'=>kN W.heap.size (bW p x q now) e w'∧Below W.heap.size W w'):=fun h W hW=>by
  rw[←HPS.go h];exact yF pa pc p ba bo ca cb x q now W (hT.below hW) hlp hpc hsz hl1 hl2 hgb hgs q1 q2 q3 q4 (hp.below hW) (hx.below hW)
 have CCO:Hid (cT p x q now=0→(bW p x q now).code=0→∀W a9 b9 c9 d9,Below w.heap.size w W→dC W a9 b9 (bW p x q now).bib→Calls Tryz.prog 17 #[iK pa pc p,gP a9 b9 c9 d9 (bW p x q now).bib,kL (bW p x q now).four,iV now] W fun e w'=>kN W.heap.size (cJ p (bW p x q now).bib (bW p x q now).four now) e w'∧Below W.heap.size W w'):=fun h c W a9 b9 c9 d9 hW hb=>by
  obtain⟨⟨l1,l2,l3,l4⟩,z1,z2,z3,z4⟩:=HPS.sm h c;exact vG pa pc p a9 b9 c9 d9 (bW p x q now).bib (bW p x q now).four now W (hT.below hW) hlp hpc hsz l1 l2 l3 l4 z1 z2 z3 z4 (hp.below hW) hb
 replace HPS:Hid _:=HPS;clear hT hlp hpc hsz hl1 hl2 hgb hgs hp hx q1 q2 q3 q4;generalize cI p x q now=ans at *;generalize bW p x q now=nv at *;generalize cT p x q now=ft at *;unfold iK gP kL at *;try dsimp only at *
 have e0:aA ((aW (aW (aW w (bG pa pc p) 27) (aX ba ca bo cb x) 31) (dM q) 33).alloc (.cells bK.toArray 39)) (w.heap.size) (bG pa pc p):=by
  have h:=aA.new w (bG pa pc p) 27;try simp only[UC]at h
  exact(((h.alloc _).alloc _).alloc _)
 have e1:aA ((aW (aW (aW w (bG pa pc p) 27) (aX ba ca bo cb x) 31) (dM q) 33).alloc (.cells bK.toArray 39)) (w.heap.size+1) (aX ba ca bo cb x):=by
  have h:=aA.new (w.alloc (.cells (bG pa pc p).toArray 27)) (aX ba ca bo cb x) 31;try simp only[UC]at h
  exact((h.alloc _).alloc _)
 have e2:aA ((aW (aW (aW w (bG pa pc p) 27) (aX ba ca bo cb x) 31) (dM q) 33).alloc (.cells bK.toArray 39)) (w.heap.size+1+1) (dM q):=by
  have h:=aA.new ((aW w (bG pa pc p) 27).alloc (.cells (aX ba ca bo cb x).toArray 31)) (dM q) 33;try simp only[UC]at h
  exact(h.alloc _)
 have e3:aA ((aW (aW (aW w (bG pa pc p) 27) (aX ba ca bo cb x) 31) (dM q) 33).alloc (.cells bK.toArray 39)) (w.heap.size+1+1+1) bK:=by
  have h:=aA.new ((aW (aW w (bG pa pc p) 27) (aX ba ca bo cb x) 31).alloc (.cells (dM q).toArray 33)) bK 39;try simp only[UC]at h
  exact h
 have HS0:Hid (dD w [(w.heap.size,(bG pa pc p)),(w.heap.size+1,(aX ba ca bo cb x)),(w.heap.size+1+1,(dM q)),(w.heap.size+1+1+1,bK)] ((aW (aW (aW w (bG pa pc p) 27) (aX ba ca bo cb x) 31) (dM q) 33).alloc (.cells bK.toArray 39))):=by
  refine⟨fun e he=>?_,((((bR.alloc (by (try simp only[UC]);omega) _).alloc (by (try simp only[UC]);omega) _).alloc (by (try simp only[UC]);omega) _).alloc (by (try simp only[UC]);omega) _),fun e he=>?_⟩
  ·simp only[UH,UG,or_false]at he;rcases he with rfl|rfl|rfl|rfl
   ·exact e0
   ·exact e1
   ·exact e2
   ·exact e3
  ·simp only[UH,UG,or_false]at he;rcases he with rfl|rfl|rfl|rfl<;>simp
 clear e0 e1 e2 e3;have hRw:w.heap.size≤w.heap.size+1+1+1:=by omega
 go_enter Tryz.func22,Tryz.ntmps22
 go_upto_region 1 with fail
 generalize World.alloc _ _=W0 at *;have HHk:=HS0.out.at cM;have k0:=HHk.cell (j:=0) rfl;have k1:=HHk.cell (j:=1) rfl;have k2:=HHk.cell (j:=2) rfl;have k3:=HHk.cell (j:=3) rfl;have k4:=HHk.cell (j:=4) rfl;have k5:=HHk.cell (j:=5) rfl;have k6:=HHk.cell (j:=6) rfl;have k7:=HHk.cell (j:=7) rfl;have k8:=HHk.cell (j:=8) rfl;have k9:=HHk.cell (j:=9) rfl;clear HHk;have HHl:=HS0.out.at dZ;have l0:=HHl.cell (j:=0) rfl;have l1:=HHl.cell (j:=1) rfl;clear HHl;have HHm:=HS0.out.at eL;have m0:=HHm.cell (j:=0) rfl;have m1:=HHm.cell (j:=1) rfl;have m2:=HHm.cell (j:=2) rfl;have m3:=HHm.cell (j:=3) rfl;have m4:=HHm.cell (j:=4) rfl;have m5:=HHm.cell (j:=5) rfl;have m6:=HHm.cell (j:=6) rfl;have m7:=HHm.cell (j:=7) rfl;have m8:=HHm.cell (j:=8) rfl;have m9:=HHm.cell (j:=9) rfl;have m10:=HHm.cell (j:=10) rfl;clear HHm;go_wp2_with fail
 refine(CFT.out W0 HS0.out.b).mono ?_;rintro e W1 ⟨rfl,r1⟩;have S1:Hid _:=HS0.out.kept r1;clear r1 HS0 CFT k0 k1 k2 k3 k4 k5 k6 k7 k8 k9 l0 l1 m0 m1 m2 m3 m4 m5 m6 m7 m8 m9 m10;by_cases hft:ft=0
 case neg=>
  have d0:(ft != 0)=true:=by simp[hft]
  have HX:Hid (ans=eW (ft)):=HPS.out.a1 hft;obtain⟨HTH,HRR,RB⟩:=kD (show aA W1 (w.heap.size+1+1+1) (fW none none 0 0 (eW 0)) from S1.out.k _ iF) S1.out.b hRw none none 0 0 (eW (ft));go_wp2_with (refine wpList_store_mid (by rfl) 39 (.tmp 8) (.tmp 19) (by rfl) _ _ _ (by rfl) (by rfl) HTH.out aT (cN _ _ _ _ _) ?_)
  exact VB (aF Tryz.results22 _ _ _ _ _ rfl HRR.out Tryz.underlying39 rfl aT) rfl (And.intro (by rw[HX.out];exact dN _) RB.out)
 have d0:(ft != 0)=false:=by simp[hft]
 replace CGO:Hid _:=CGO.out hft;replace CCO:Hid _:=CCO.out hft;go_upto_region 4 with fail
 clear d0;have HHm:=S1.out.at eL;have m0:=HHm.cell (j:=0) rfl;have m1:=HHm.cell (j:=1) rfl;have m2:=HHm.cell (j:=2) rfl;have m3:=HHm.cell (j:=3) rfl;have m4:=HHm.cell (j:=4) rfl;have m5:=HHm.cell (j:=5) rfl;have m6:=HHm.cell (j:=6) rfl;have m7:=HHm.cell (j:=7) rfl;have m8:=HHm.cell (j:=8) rfl;have m9:=HHm.cell (j:=9) rfl;have m10:=HHm.cell (j:=10) rfl;clear HHm;by_cases hpr:q.VF=1
 case pos=>
  have d1:(q.VF==1)=true:=by simp[hpr]
  have HPX:Hid (ans=eW 11):=HPS.out.a2 hft hpr;clear hpr;have HX:Hid (ans=eW (11)):=HPX.out;obtain⟨HTH,HRR,RB⟩:=kD (show aA W1 (w.heap.size+1+1+1) (fW none none 0 0 (eW 0)) from S1.out.k _ iF) S1.out.b hRw none none 0 0 (eW (11));go_wp2_with (refine wpList_store_mid (by rfl) 39 (.tmp 8) (.tmp 23) (by rfl) _ _ _ (by rfl) (by rfl) HTH.out aT (cN _ _ _ _ _) ?_)
  exact VB (aF Tryz.results22 _ _ _ _ _ rfl HRR.out Tryz.underlying39 rfl aT) rfl (And.intro (by rw[HX.out];exact dN _) RB.out)
 have d1:(q.VF==1)=false:=by simp[hpr]
 have HPR:Hid _:=hpr;clear hpr;go_upto_region 6 with fail
 clear d1 m0 m1 m2 m3 m4 m5 m6 m7 m8 m9 m10;have HHk:=S1.out.at cM;have k0:=HHk.cell (j:=0) rfl;have k1:=HHk.cell (j:=1) rfl;have k2:=HHk.cell (j:=2) rfl;have k3:=HHk.cell (j:=3) rfl;have k4:=HHk.cell (j:=4) rfl;have k5:=HHk.cell (j:=5) rfl;have k6:=HHk.cell (j:=6) rfl;have k7:=HHk.cell (j:=7) rfl;have k8:=HHk.cell (j:=8) rfl;have k9:=HHk.cell (j:=9) rfl;clear HHk;have HHl:=S1.out.at dZ;have l0:=HHl.cell (j:=0) rfl;have l1:=HHl.cell (j:=1) rfl;clear HHl;have HHm:=S1.out.at eL;have m0:=HHm.cell (j:=0) rfl;have m1:=HHm.cell (j:=1) rfl;have m2:=HHm.cell (j:=2) rfl;have m3:=HHm.cell (j:=3) rfl;have m4:=HHm.cell (j:=4) rfl;have m5:=HHm.cell (j:=5) rfl;have m6:=HHm.cell (j:=6) rfl;have m7:=HHm.cell (j:=7) rfl;have m8:=HHm.cell (j:=8) rfl;have m9:=HHm.cell (j:=9) rfl;have m10:=HHm.cell (j:=10) rfl;clear HHm;have hR2:w.heap.size+1+1+1 < W1.heap.size:=(S1.out.k _ iF).lt (by simp);have hw2:w.heap.size≤W1.heap.size:=S1.out.b.size;go_wp2_with fail
 refine(CGO.out W1 S1.out.b).mono ?_;rintro e W3 ⟨⟨a9,b9,c9,d9,rfl,hown⟩,r3⟩;have S3:Hid _:=S1.out.kept r3;have h13:W1.heap.size≤W3.heap.size:=r3.size;clear r3 S1 CGO k0 k1 k2 k3 k4 k5 k6 k7 k8 k9 l0 l1 m0 m1 m2 m3 m4 m5 m6 m7 m8 m9 m10;unfold vJ;have h4:aA (W3.alloc (.cells bK.toArray 39)) W3.heap.size (fW none none 0 0 (eW 0)):=aA.new W3 bK 39;have HTH:Hid ((W3.alloc (.cells bK.toArray 39)).there W3.heap.size 0 (fW a9 b9 c9 d9 nv).toArray.size):=mP h4 _ _ _ _ _;have S4:Hid (dD w [(w.heap.size,(bG pa pc p)),(w.heap.size+1,(aX ba ca bo cb x)),(w.heap.size+1+1,(dM q)),(w.heap.size+1+1+1,bK)] ((W3.alloc (.cells bK.toArray 39)).setCells W3.heap.size 0 (fW a9 b9 c9 d9 nv).toArray.toList)):=dD.mid (S3.out.kept (bR.alloc lR _)) (by omega) (fun e he=>by have:=(S3.out.lts e he).1;omega) _;have H4:Hid (aA ((W3.alloc (.cells bK.toArray 39)).setCells W3.heap.size 0 (fW a9 b9 c9 d9 nv).toArray.toList) W3.heap.size (fW a9 b9 c9 d9 nv)):=h4.mid rfl;have O4:Hid (bV W1.heap.size ((W3.alloc (.cells bK.toArray 39)).setCells W3.heap.size 0 (fW a9 b9 c9 d9 nv).toArray.toList) a9 b9 nv.bib):=(hown.kept (bR.alloc lR _)).midNe hown.fresh _
 clear hown S3 h4;go_upto_region 7 with (refine wpList_store_mid (by rfl) 39 (.tmp 10) (.tmp 28) (by rfl) _ _ _ (by rfl) (by rfl) HTH.out aT (cN _ _ _ _ _) ?_)
 generalize (W3.alloc (.cells bK.toArray 39)).setCells W3.heap.size 0 (fW a9 b9 c9 d9 nv).toArray.toList=W5 at *;clear HTH;generalize W3.heap.size=Nb at *;have n24:=H4.out.cell (j:=24) rfl;by_cases hc:nv.code=0
 case neg=>
  have d0:(nv.code != 0)=true:=by simp[hc]
  have HX:Hid (ans=nv):=HPS.out.a3 hft HPR.out hc;clear hc;obtain⟨HTH,HRR,RB⟩:=kD (show aA W5 (w.heap.size+1+1+1) (fW none none 0 0 (eW 0)) from S4.out.k _ iF) S4.out.b hRw a9 b9 c9 d9 nv;have HOW:Hid (bV w.heap.size (W5.setCells (w.heap.size+1+1+1) 0 (fW a9 b9 c9 d9 nv).toArray.toList) a9 b9 nv.bib):=(bV.mid O4.out hR2 _).lowN hw2;go_wp2_with (first | (refine wpList_load_mid (by rfl) 39 (.tmp 10) (by rfl) Nb 0 (by rfl) (fW a9 b9 c9 d9 nv) _ H4.out.at0 Tryz.underlying39 rfl aT ?_) | (refine wpList_store_mid (by rfl) 39 (.tmp 8) (.tmp 32) (by rfl) _ _ _ (by rfl) (by rfl) HTH.out aT (cN _ _ _ _ _) ?_))
  refine VB (aF Tryz.results22 _ _ _ _ _ rfl HRR.out Tryz.underlying39 rfl aT) rfl ?_;rw[HX.out];exact And.intro ⟨a9,b9,c9,d9,rfl,HOW.out⟩ RB.out
 have d0:(nv.code != 0)=false:=by simp[hc]
 have HX:Hid _:=HPS.out.a4 hft HPR.out hc;replace CCO:Hid _:=CCO.out hc;go_upto_region 9 with fail
 clear d0 hc n24 HPR HPS hft;have HHk:=S4.out.at cM;have k0:=HHk.cell (j:=0) rfl;have k1:=HHk.cell (j:=1) rfl;have k2:=HHk.cell (j:=2) rfl;have k3:=HHk.cell (j:=3) rfl;have k4:=HHk.cell (j:=4) rfl;have k5:=HHk.cell (j:=5) rfl;have k6:=HHk.cell (j:=6) rfl;have k7:=HHk.cell (j:=7) rfl;have k8:=HHk.cell (j:=8) rfl;have k9:=HHk.cell (j:=9) rfl;clear HHk;have n0:=H4.out.cell (j:=0) rfl;have n1:=H4.out.cell (j:=1) rfl;have n2:=H4.out.cell (j:=2) rfl;have n3:=H4.out.cell (j:=3) rfl;have n4:=H4.out.cell (j:=4) rfl;have n5:=H4.out.cell (j:=5) rfl;have n6:=H4.out.cell (j:=6) rfl;have n7:=H4.out.cell (j:=7) rfl;have n8:=H4.out.cell (j:=8) rfl;have n9:=H4.out.cell (j:=9) rfl;have n10:=H4.out.cell (j:=10) rfl;have n11:=H4.out.cell (j:=11) rfl;have n12:=H4.out.cell (j:=12) rfl;have hR3:w.heap.size+1+1+1 < W5.heap.size:=(S4.out.k _ iF).lt (by simp);have hw3:w.heap.size≤W5.heap.size:=S4.out.b.size;go_wp2_with fail
 refine(CCO.out W5 a9 b9 c9 d9 S4.out.b O4.out.is).mono ?_;rintro e W6 ⟨⟨a8,b8,c8,d8,rfl,hown⟩,r3⟩;have S6:Hid _:=S4.out.kept r3;clear r3 S4 O4 H4 CCO k0 k1 k2 k3 k4 k5 k6 k7 k8 k9 n0 n1 n2 n3 n4 n5 n6 n7 n8 n9 n10 n11 n12;unfold vJ;generalize cJ p nv.bib nv.four now=cv at *;obtain⟨HTH,HRR,RB⟩:=kD (show aA W6 (w.heap.size+1+1+1) (fW none none 0 0 (eW 0)) from S6.out.k _ iF) S6.out.b hRw a8 b8 c8 d8 cv;have HOW:Hid (bV w.heap.size (W6.setCells (w.heap.size+1+1+1) 0 (fW a8 b8 c8 d8 cv).toArray.toList) a8 b8 cv.bib):=(bV.mid hown hR3 _).lowN hw3;clear hown S6;go_wp2_with (refine wpList_store_mid (by rfl) 39 (.tmp 8) (.tmp 39) (by rfl) _ _ _ (by rfl) (by rfl) HTH.out aT (cN _ _ _ _ _) ?_)
 exact VB (aF Tryz.results22 _ _ _ _ _ rfl HRR.out Tryz.underlying39 rfl aT) rfl (And.intro (by rw[HX.out];exact⟨a8,b8,c8,d8,rfl,HOW.out⟩) RB.out)
theorem xB(pa:OA)(pc:Nat)(p:Pl)(ba bo:OA)(ca cb:Nat)(x:Bb)(q:P4)(now:Int)(w:World)(hbk:fA p x=true)(hq:jB q=true)(hnow:bT now=true)(hl1:x.VN.length≤1048576)(hl2:x.VK.length≤1048576)(hp:bP cB 1 w pa p.VL)(hx:dC w ba bo x) :
  Calls Tryz.prog 46 #[iK pa pc p,gP ba bo ca cb x,kL q,iV now] w fun e w'=>kN w.heap.size (fE p x q now) e w'∧Below w.heap.size w w':=by
 obtain⟨hA,hB⟩: KZ q=true∧LI q=true:=by unfold jB at hq;simp only[UB]at hq;exact hq.1
 obtain⟨-,-,hpr,-,-,hs,hd⟩:=tT hA;obtain⟨-,-,hdt,-,-⟩:=tU hB;have hpo:cU p=true:=(gI.1 hbk).pool;have HOF:Hid (∀W,Cb 32 #[.string q.src,.string q.dst,iV q.VF,.string q.data] W (.tuple #[gF (aI q.src q.dst q.VF q.data),iV (aS q.src.size q.VF q.data)])):=fun W=>xE _ _ _ _ W (by omega) (by omega)
 have HIL:Hid (∀c W,Cb 29 #[iV c] W (vJ none none 0 0 (eW c))):=fun c W=>oU c W
 have HGO:Hid (aS q.src.size q.VF q.data=0→∀W,Below w.heap.size w W→Calls Tryz.prog 77 #[iK pa pc p,gP ba bo ca cb x,gF (aI q.src q.dst q.VF q.data),.string q.data,iV now] W fun e w'=>kX W.heap.size (dO p x (cE (aI q.src q.dst q.VF q.data) q.data) now) e w'∧Below W.heap.size W w'):=fun h W hW=>by
  obtain⟨z1,z2,z3,z4,z5,z6⟩:=fP (d:=q.dst) h;exact ED pa pc p ba bo ca cb x _ q.data now W hpo hnow (by rw[z3];omega) z5.1 z5.2 (by omega) (by rw[z1];exact(gY h).2) hl1 hl2 (hp.below hW) (hx.below hW)
 have HBE:Hid (aS q.src.size q.VF q.data=0→(dO p x (cE (aI q.src q.dst q.VF q.data) q.data) now).code=0→_):=fun h h2=>mM hbk hnow (pN hs hd h) h2
 have HFM:Hid (aS q.src.size q.VF q.data=0→(dO p x (cE (aI q.src q.dst q.VF q.data) q.data) now).code=0→∀W,Cb 78 #[gF (aI q.src q.dst q.VF q.data),.string q.src,.string (dO p x (cE (aI q.src q.dst q.VF q.data) q.data) now).bind.inn,iV (dO p x (cE (aI q.src q.dst q.VF q.data) q.data) now).bind.VH] W (gF (EP (aI q.src q.dst q.VF q.data) q.src (dO p x (cE (aI q.src q.dst q.VF q.data) q.data) now).bind.inn (dO p x (cE (aI q.src q.dst q.VF q.data) q.data) now).bind.VH))):=fun h h2 W=>KU _ _ _ _ W (by omega)
 have HST:Hid (aS q.src.size q.VF q.data=0→(dO p x (cE (aI q.src q.dst q.VF q.data) q.data) now).code=0→(dO p x (cE (aI q.src q.dst q.VF q.data) q.data) now).bind.inn.size=4→∀W,Cb 45 #[gF (aI q.src q.dst q.VF q.data),gF (EP (aI q.src q.dst q.VF q.data) q.src (dO p x (cE (aI q.src q.dst q.VF q.data) q.data) now).bind.inn (dO p x (cE (aI q.src q.dst q.VF q.data) q.data) now).bind.VH),.string q.data] W (iS (jI (aI q.src q.dst q.VF q.data) (EP (aI q.src q.dst q.VF q.data) q.src (dO p x (cE (aI q.src q.dst q.VF q.data) q.data) now).bind.inn (dO p x (cE (aI q.src q.dst q.VF q.data) q.data) now).bind.VH) q.data) 0)):=fun h h2 h44 W=>by
  obtain⟨z1,z2,z3,z4,z5,z6⟩:=fP (d:=q.dst) h;obtain⟨b1,b2,b3,b4,b5⟩:=HBE.out h h2;obtain⟨k1,k2,k3,k4⟩:=oP (f:=aI q.src q.dst q.VF q.data) (g:=⟨(aI q.src q.dst q.VF q.data).VF,q.src,(dO p x (cE (aI q.src q.dst q.VF q.data) q.data) now).bind.inn,if aL (aI q.src q.dst q.VF q.data).VF=true then (dO p x (cE (aI q.src q.dst q.VF q.data) q.data) now).bind.VH else (aI q.src q.dst q.VF q.data).sp,(dO p x (cE (aI q.src q.dst q.VF q.data) q.data) now).bind.VH⟩) (nU h (gG hs hd)) (by rw[z2];exact hs) hs h44 rfl (by split<;>assumption) b4;obtain⟨m1,m2,m3⟩:=mF k1;have o:=gY h;refine(zJ _ (EP (aI q.src q.dst q.VF q.data) q.src (dO p x (cE (aI q.src q.dst q.VF q.data) q.data) now).bind.inn (dO p x (cE (aI q.src q.dst q.VF q.data) q.data) now).bind.VH) q.data W (by omega) o.1 (by rw[z1];exact o.2) ⟨by rw[z2];omega,by rw[z3];omega⟩ m1 (by rw[z1];exact hpr) m2 m3).mono ?_;rintro e w' ⟨rfl,hb⟩;refine⟨?_,hb⟩;unfold jI;have k5:(EP (aI q.src q.dst q.VF q.data) q.src (dO p x (cE (aI q.src q.dst q.VF q.data) q.data) now).bind.inn (dO p x (cE (aI q.src q.dst q.VF q.data) q.data) now).bind.VH).src.size=4:=by show (lO _ _).src.size=4;rw[k3];exact hs
  have k6:¬(EP (aI q.src q.dst q.VF q.data) q.src (dO p x (cE (aI q.src q.dst q.VF q.data) q.data) now).bind.inn (dO p x (cE (aI q.src q.dst q.VF q.data) q.data) now).bind.VH).src.size=16:=by omega
  simp only[if_neg k6];by_cases hbu:fQ (aI q.src q.dst q.VF q.data) q.data=true
  ·simp only[if_pos hbu]
  ·simp only[if_neg hbu]
 have HV:Hid (fE p x q now=if mW p.VL q.dst=false then eW 6 else if aS q.src.size q.VF q.data≠0 then eW (aS q.src.size q.VF q.data) else if (dO p x (cE (aI q.src q.dst q.VF q.data) q.data) now).code≠0 then eW (dO p x (cE (aI q.src q.dst q.VF q.data) q.data) now).code else if (dO p x (cE (aI q.src q.dst q.VF q.data) q.data) now).bind.inn.size≠4 then eW 11 else ⟨(dO p x (cE (aI q.src q.dst q.VF q.data) q.data) now).bib,{ q with dst:=(dO p x (cE (aI q.src q.dst q.VF q.data) q.data) now).bind.inn,data:=jI (aI q.src q.dst q.VF q.data) (EP (aI q.src q.dst q.VF q.data) q.src (dO p x (cE (aI q.src q.dst q.VF q.data) q.data) now).bind.inn (dO p x (cE (aI q.src q.dst q.VF q.data) q.data) now).bind.VH) q.data },gK,0⟩):=rfl;have HIN:Hid (∀W,Below w.heap.size w W→Cb 68 #[.slice pa p.VL.length pc,.string q.dst] W (.bool (mW p.VL q.dst))):=fun W hW=>xD p.VL q.dst pa pc W (by unfold cU at hpo;simp only[UB,UF]at hpo;have:=hpo.1.1.1.1.1.1.1.2;omega) (hp.below hW)
 have HIZ:Hid (aS q.src.size q.VF q.data=0→(dO p x (cE (aI q.src q.dst q.VF q.data) q.data) now).code=0→((dO p x (cE (aI q.src q.dst q.VF q.data) q.data) now).bind.inn.size=4∨(dO p x (cE (aI q.src q.dst q.VF q.data) q.data) now).bind.inn.size=16)):=fun h h2=>(HBE.out h h2).2.2.1
 clear HBE;generalize fE p x q now=ans at *;generalize jI (aI q.src q.dst q.VF q.data) (EP (aI q.src q.dst q.VF q.data) q.src (dO p x (cE (aI q.src q.dst q.VF q.data) q.data) now).bind.inn (dO p x (cE (aI q.src q.dst q.VF q.data) q.data) now).bind.VH) q.data=sd at *;generalize EP (aI q.src q.dst q.VF q.data) q.src (dO p x (cE (aI q.src q.dst q.VF q.data) q.data) now).bind.inn (dO p x (cE (aI q.src q.dst q.VF q.data) q.data) now).bind.VH=g at *;generalize dO p x (cE (aI q.src q.dst q.VF q.data) q.data) now=nv at *;generalize aI q.src q.dst q.VF q.data=fl at *;generalize aS q.src.size q.VF q.data=cd at *;generalize mW p.VL q.dst=il at *;obtain⟨tos,id,whole,more,off,ttl,VF,src,dst,opts,data⟩:=q;clear hp hx hpo hnow hbk hq hA hB;unfold iK gP kL at *;unfold gF iS at *;dsimp only at *;have e0:aA ((aW (aW (aW w (bG pa pc p) 27) (aX ba ca bo cb x) 31) (eP tos id whole more off ttl VF src dst opts data) 33).alloc (.cells bK.toArray 39)) (w.heap.size) (bG pa pc p):=by
  have h:=aA.new w (bG pa pc p) 27;try simp only[UC]at h
  exact(((h.alloc _).alloc _).alloc _)
 have e1:aA ((aW (aW (aW w (bG pa pc p) 27) (aX ba ca bo cb x) 31) (eP tos id whole more off ttl VF src dst opts data) 33).alloc (.cells bK.toArray 39)) (w.heap.size+1) (aX ba ca bo cb x):=by
  have h:=aA.new (w.alloc (.cells (bG pa pc p).toArray 27)) (aX ba ca bo cb x) 31;try simp only[UC]at h
  exact((h.alloc _).alloc _)
 have e2:aA ((aW (aW (aW w (bG pa pc p) 27) (aX ba ca bo cb x) 31) (eP tos id whole more off ttl VF src dst opts data) 33).alloc (.cells bK.toArray 39)) (w.heap.size+1+1) (eP tos id whole more off ttl VF src dst opts data):=by
  have h:=aA.new ((aW w (bG pa pc p) 27).alloc (.cells (aX ba ca bo cb x).toArray 31)) (eP tos id whole more off ttl VF src dst opts data) 33;try simp only[UC]at h
  exact(h.alloc _)
 have e3:aA ((aW (aW (aW w (bG pa pc p) 27) (aX ba ca bo cb x) 31) (eP tos id whole more off ttl VF src dst opts data) 33).alloc (.cells bK.toArray 39)) (w.heap.size+1+1+1) bK:=by
  have h:=aA.new ((aW (aW w (bG pa pc p) 27) (aX ba ca bo cb x) 31).alloc (.cells (eP tos id whole more off ttl VF src dst opts data).toArray 33)) bK 39;try simp only[UC]at h
  exact h
 have HS0:Hid (dD w [(w.heap.size,(bG pa pc p)),(w.heap.size+1,(aX ba ca bo cb x)),(w.heap.size+1+1,(eP tos id whole more off ttl VF src dst opts data)),(w.heap.size+1+1+1,bK)] ((aW (aW (aW w (bG pa pc p) 27) (aX ba ca bo cb x) 31) (eP tos id whole more off ttl VF src dst opts data) 33).alloc (.cells bK.toArray 39))):=by
  refine⟨fun e he=>?_,((((bR.alloc (by (try simp only[UC]);omega) _).alloc (by (try simp only[UC]);omega) _).alloc (by (try simp only[UC]);omega) _).alloc (by (try simp only[UC]);omega) _),fun e he=>?_⟩
  ·simp only[UH,UG,or_false]at he;rcases he with rfl|rfl|rfl|rfl
   ·exact e0
   ·exact e1
   ·exact e2
   ·exact e3
  ·simp only[UH,UG,or_false]at he;rcases he with rfl|rfl|rfl|rfl<;>simp
 clear e0 e1 e2 e3;have hRw:w.heap.size≤w.heap.size+1+1+1:=by omega
 go_enter Tryz.func46,Tryz.ntmps46
 go_upto_region 1 with fail
 generalize World.alloc _ _=W0 at *;have HHk:=HS0.out.at cM;obtain⟨k0,k1,k2,k3,k4,k5,k6,k7,k8,k9⟩:=HHk.c10;clear HHk;have HHl:=HS0.out.at eL;obtain⟨l0,l1,l2,l3,l4,l5,l6,l7,l8,l9,l10⟩:=HHl.c11;clear HHl;go_wp2_with fail
 refine(HIN.out _ HS0.out.b).mono ?_;rintro e W9 ⟨rfl,r9⟩;have S9:Hid _:=HS0.out.kept r9;clear r9 HS0 HIN k0 k1 k2 k3 k4 k5 k6 k7 k8 k9 l0 l1 l2 l3 l4 l5 l6 l7 l8 l9 l10
 cases il with
 | false=>
  have HX:Hid (ans=eW 6):=by unfold Hid;rw[HV.out,if_pos rfl]
  go_wp2_with fail
  refine(HIL.out 6 _).mono ?_;rintro e W8 ⟨rfl,r8⟩;have S8:Hid _:=S9.out.kept r8;clear r8;obtain⟨HTH,HRR,RB⟩:=kD (show aA W8 (w.heap.size+1+1+1) (fW none none 0 0 (eW 0)) from S8.out.k _ iF) S8.out.b hRw none none 0 0 (eW 6);unfold vJ;go_wp2_with (refine wpList_store_mid (by rfl) 39 (.tmp 8) (.tmp 19) (by rfl) _ _ _ (by rfl) (by rfl) HTH.out aT (cN _ _ _ _ _) ?_)
  exact VB (aF Tryz.results46 _ _ _ _ _ rfl HRR.out Tryz.underlying39 rfl aT) rfl (And.intro (by rw[HX.out];exact dN _) RB.out)
 | true=>
 rw[if_neg (by simp)]at HV;have HHk:=S9.out.at eL;obtain⟨k0,k1,k2,k3,k4,k5,k6,k7,k8,k9,k10⟩:=HHk.c11;clear HHk;go_wp2_with fail
 refine(HOF.out _).mono ?_;rintro e W1 ⟨rfl,r1⟩;have S2:Hid (dD w ((W1.heap.size,(gH fl))::[(w.heap.size,(bG pa pc p)),(w.heap.size+1,(aX ba ca bo cb x)),(w.heap.size+1+1,(eP tos id whole more off ttl VF src dst opts data)),(w.heap.size+1+1+1,bK)]) (W1.alloc (.cells (gH fl).toArray 43))):=(S9.out.kept r1).push (gH fl) (by simp) _;clear r1 S9 HOF k0 k1 k2 k3 k4 k5 k6 k7 k8 k9 k10;go_upto_region 4 with fail
 generalize (W1.alloc (.cells (gH fl).toArray 43))=W2 at *;generalize W1.heap.size=Fb at *;by_cases hc:cd=0
 case neg=>
  have d0:(cd != 0)=true:=by simp[hc]
  have HX:Hid (ans=eW cd):=by unfold Hid;rw[HV.out,if_pos hc]
  go_wp2_with fail
  refine(HIL.out cd _).mono ?_;rintro e W3 ⟨rfl,r3⟩;have S3:Hid _:=S2.out.kept r3;clear r3;obtain⟨HTH,HRR,RB⟩:=kD (show aA W3 (w.heap.size+1+1+1) (fW none none 0 0 (eW 0)) from S3.out.k _ nH) S3.out.b hRw none none 0 0 (eW cd);unfold vJ;go_wp2_with (refine wpList_store_mid (by rfl) 39 (.tmp 8) (.tmp 35) (by rfl) _ _ _ (by rfl) (by rfl) HTH.out aT (cN _ _ _ _ _) ?_)
  exact VB (aF Tryz.results46 _ _ _ _ _ rfl HRR.out Tryz.underlying39 rfl aT) rfl (And.intro (by rw[HX.out];exact dN _) RB.out)
 have d0:(cd != 0)=false:=by simp[hc]
 rw[if_neg (by simp[hc])]at HV;replace HGO:Hid _:=HGO.out hc;replace HFM:Hid _:=HFM.out hc;replace HST:Hid _:=HST.out hc;replace HIZ:Hid _:=HIZ.out hc;clear hc;go_upto_region 6 with fail
 clear d0;have HHk:=S2.out.at dZ;obtain⟨k0,k1,k2,k3,k4,k5,k6,k7,k8,k9⟩:=HHk.c10;clear HHk;have HHl:=S2.out.at eL;obtain⟨l0,l1⟩:=HHl.c2;clear HHl;have HHm:=S2.out.at cM;obtain⟨m0,m1,m2,m3,m4⟩:=HHm.c5;clear HHm;have HHn:=S2.out.at iF;obtain⟨n0,n1,n2,n3,n4,n5,n6,n7,n8,n9,n10⟩:=HHn.c11;clear HHn;have hR2:w.heap.size+1+1+1 < W2.heap.size:=(S2.out.k _ nH).lt (by simp);have hw2:w.heap.size≤W2.heap.size:=S2.out.b.size;go_wp2_with fail
 refine(HGO.out W2 S2.out.b).mono ?_;rintro e W3 ⟨⟨a9,b9,c9,d9,rfl,hown⟩,r3⟩;unfold EZ;have S4:Hid (dD w ((W3.heap.size,(qZ a9 c9 b9 d9 nv))::[(Fb,(gH fl)),(w.heap.size,(bG pa pc p)),(w.heap.size+1,(aX ba ca bo cb x)),(w.heap.size+1+1,(eP tos id whole more off ttl VF src dst opts data)),(w.heap.size+1+1+1,bK)]) (W3.alloc (.cells (qZ a9 c9 b9 d9 nv).toArray 104))):=(S2.out.kept r3).push (qZ a9 c9 b9 d9 nv) (by simp) _;have O4:Hid (bV W2.heap.size (W3.alloc (.cells (qZ a9 c9 b9 d9 nv).toArray 104)) a9 b9 nv.bib):=hown.kept (bR.alloc lR _);have hx4:W2.heap.size≤W3.heap.size:=r3.size;clear r3 hown S2 HGO k0 k1 k2 k3 k4 k5 k6 k7 k8 k9 l0 l1 m0 m1 m2 m3 m4 n0 n1 n2 n3 n4 n5 n6 n7 n8 n9 n10;go_upto_region 7 with fail
 generalize (W3.alloc (.cells (qZ a9 c9 b9 d9 nv).toArray 104))=W4 at *;generalize W3.heap.size=Xb at *;have HHk:=S4.out.at cM;obtain⟨k0,k1,k2,k3,k4,k5,k6,k7⟩:=HHk.c8;clear HHk;by_cases hn:nv.code=0
 case neg=>
  have d0:(nv.code != 0)=true:=by simp[hn]
  have HX:Hid (ans=eW nv.code):=by unfold Hid;rw[HV.out,if_pos hn]
  go_wp2_with fail
  refine(HIL.out nv.code _).mono ?_;rintro e W5 ⟨rfl,r5⟩;have S5:Hid _:=S4.out.kept r5;clear r5;obtain⟨HTH,HRR,RB⟩:=kD (show aA W5 (w.heap.size+1+1+1) (fW none none 0 0 (eW 0)) from S5.out.k _ CD) S5.out.b hRw none none 0 0 (eW nv.code);unfold vJ;go_wp2_with (refine wpList_store_mid (by rfl) 39 (.tmp 8) (.tmp 48) (by rfl) _ _ _ (by rfl) (by rfl) HTH.out aT (cN _ _ _ _ _) ?_)
  exact VB (aF Tryz.results46 _ _ _ _ _ rfl HRR.out Tryz.underlying39 rfl aT) rfl (And.intro (by rw[HX.out];exact dN _) RB.out)
 have d0:(nv.code != 0)=false:=by simp[hn]
 rw[if_neg (by simp[hn])]at HV;replace HFM:Hid _:=HFM.out hn;replace HST:Hid _:=HST.out hn;have hiz:=HIZ.out hn;clear hn HIZ;go_upto_region 9 with fail
 clear d0;by_cases h4:nv.bind.inn.size=4
 case neg=>
  have d4:((nv.bind.inn.size:Int) != 4)=true:=by simp;omega
  have HX:Hid (ans=eW 11):=by unfold Hid;rw[HV.out,if_pos h4]
  go_wp2_with fail
  refine(HIL.out 11 _).mono ?_;rintro e W7 ⟨rfl,r7⟩;have S7:Hid _:=S4.out.kept r7;clear r7;obtain⟨HTH,HRR,RB⟩:=kD (show aA W7 (w.heap.size+1+1+1) (fW none none 0 0 (eW 0)) from S7.out.k _ CD) S7.out.b hRw none none 0 0 (eW 11);unfold vJ;go_wp2_with (refine wpList_store_mid (by rfl) 39 (.tmp 8) (.tmp 54) (by rfl) _ _ _ (by rfl) (by rfl) HTH.out aT (cN _ _ _ _ _) ?_)
  exact VB (aF Tryz.results46 _ _ _ _ _ rfl HRR.out Tryz.underlying39 rfl aT) rfl (And.intro (by rw[HX.out];exact dN _) RB.out)
 have d4:((nv.bind.inn.size:Int) != 4)=false:=by simp;omega
 rw[if_neg (by simp[h4])]at HV;replace HST:Hid _:=HST.out h4;clear h4 hiz HIL;go_upto_region 11 with fail
 clear d4 k0 k1 k2 k3 k4 k5 k6 k7;go_cut [12] (fun v wx=>∃g8,v=.pointer (some ⟨g8,0,none⟩)∧aA wx g8 [.string sd,iV 0]∧dD w [(Xb,(qZ a9 c9 b9 d9 nv)),(Fb,(gH fl)),(w.heap.size,(bG pa pc p)),(w.heap.size+1,(aX ba ca bo cb x)),(w.heap.size+1+1,(eP tos id whole more off ttl VF src dst opts data)),(w.heap.size+1+1+1,bK)] wx∧bV W2.heap.size wx a9 b9 nv.bib)
 case first=>
  rename_i J K2 hJ hK2;have HCP:Hid (∀wy,Below W4.drew.heap.size W4.drew wy→_):=fun wy hy=>S4.out.kept (bR.drew.trans hy)
  have HOP:Hid (∀wy,Below W4.drew.heap.size W4.drew wy→bV W2.heap.size wy a9 b9 nv.bib):=fun wy hy=>O4.out.kept (bR.drew.trans hy)
  have HLT:Hid (∀e∈([(Xb,(qZ a9 c9 b9 d9 nv)),(Fb,(gH fl)),(w.heap.size,(bG pa pc p)),(w.heap.size+1,(aX ba ca bo cb x)),(w.heap.size+1+1,(eP tos id whole more off ttl VF src dst opts data)),(w.heap.size+1+1+1,bK)]:List (Nat × List Value)),e.1 < W4.drew.heap.size):=fun e he=>(S4.out.lts e he).1
  have hww:w.heap.size≤W4.drew.heap.size:=S4.out.b.size;clear S4 O4 HV;refine aN [55,56,57,58,59,60,61,62,63,64,65,66,67,68,12] (by kernel_rfl) (by kernel_rfl) ?_;iterate 13 (apply bC.u rfl;(·intro K' a wy ho hd hb hK;simp[aU,aG,aD,Region.binds]at ho hd;have hst:=HCP.out wy hb;have kC:=(hst.at dZ).c5;have kC:=(hst.at cM).c8;have kC:=(hst.at nH).c11;clear hst;go_simp;first|((try go_bits);exact hK _ _ rfl bQ)|(refine(HFM.out wy).mono ?_;rintro e wz ⟨rfl,hz⟩;exact hK _ _ rfl hz));dsimp only[nA,cA])
  (apply bC.u rfl;(·intro K' a wy ho hd hb hK;simp[aU,aG,aD,Region.binds]at ho hd;go_simp;refine(HST.out wy).mono ?_;rintro e wz ⟨rfl,hz⟩;exact hK _ _ rfl hz);dsimp only[nA,cA])
  refine bC.rel (n:=14) (LO W4.drew.heap.size [eS,iV 0]) (uT _ _ (by simp)) [_,_,_,_,_,_,_,_,_,_,_,_,_,_,LO W4.drew.heap.size [eS,iV 0]] rfl rfl ?_ ?_
  ·intro K' a wy ho hd hb hK;rw[wN rfl];clear hd ho;go_simp;exact hK _ _ ⟨wy.heap.size,rfl,hb.size,aA.new wy [eS,iV 0] 55⟩ (bR.alloc lR _)
  intro X wz hR hz;obtain⟨x0,x1,x2,x3,x4,x5,x6,x7,x8,x9,x10,x11,x12,x13,x14,-⟩:=hR;obtain⟨g8,e8,b8,y8⟩:=x14;simp only[aG]at x0 x1 x2 x3 x4 x5 x6 x7 x8 x9 x10 x11 x12 x13;simp only[aE,x0,x1,x2,x3,x4,x5,x6,x7,x8,x9,x10,x11,x12,x13,e8];clear x0 x1 x2 x3 x4 x5 x6 x7 x8 x9 x10 x11 x12 x13;have HF1:Hid (aA (stor g8 wz 0 [.string sd,iV 0]) g8 [.string sd,iV 0]):=y8.stor [.string sd,iV 0] rfl;have HF2:Hid (dD w [(Xb,(qZ a9 c9 b9 d9 nv)),(Fb,(gH fl)),(w.heap.size,(bG pa pc p)),(w.heap.size+1,(aX ba ca bo cb x)),(w.heap.size+1+1,(eP tos id whole more off ttl VF src dst opts data)),(w.heap.size+1+1+1,bK)] (stor g8 wz 0 [.string sd,iV 0])):=(HCP.out wz hz).stor (by omega) (fun e he=>by have:=HLT.out e he;omega) _;have HF3:Hid (bV W2.heap.size (stor g8 wz 0 [.string sd,iV 0]) a9 b9 nv.bib):=HOP.out _ (Below.stor b8 _ hz);obtain⟨y0,y1⟩:=y8.c2;obtain⟨yf0,yf1⟩:=y8.f2;simp only[stor,Nat.reduceAdd]at HF1 HF2 HF3;clear hz HCP HOP HLT y8;intro K10 hK10;go_simp;refine hK10 _ _ ?_;show Exit.then _ _ _ _ _;refine hK2 _ _ (hJ _ _ ?_);(repeat apply Exists.intro)
  exact⟨⟨g8,rfl,HF1.out,HF2.out,HF3.out⟩,rfl⟩
 case rest=>
 obtain⟨g8,rfl,hD,hS,hO⟩:=hcut;have D5:Hid _:=hD;have S5:Hid (dD w [(Xb,(qZ a9 c9 b9 d9 nv)),(Fb,(gH fl)),(w.heap.size,(bG pa pc p)),(w.heap.size+1,(aX ba ca bo cb x)),(w.heap.size+1+1,(eP tos id whole more off ttl VF src dst opts data)),(w.heap.size+1+1+1,bK)] wc):=hS;have O5:Hid _:=hO;have hg8:g8 < wc.heap.size:=hD.lt (by simp);clear hD hS hO S4 O4 HFM HST;generalize wc=W5 at *;have HHk:=S5.out.at cM;obtain⟨k0,k1,k2,k3,k4,k5,k6,k7⟩:=HHk.c8;clear HHk;have HHn:=S5.out.at nH;obtain⟨n0,n1,n2,n3,n4,n5,n6,n7,n8,n9,n10⟩:=HHn.c11;obtain⟨-,-,-,-,-,-,-,-,nf8,-,nf10⟩:=HHn.f11;have dd0:=D5.out.cell (j:=0) rfl;have hxq:Xb≠w.heap.size+1+1:=by omega
 have S6:Hid (dD w [(w.heap.size+1+1,(eP tos id whole more off ttl VF src nv.bind.inn opts sd)),(Xb,(qZ a9 c9 b9 d9 nv)),(w.heap.size+1+1+1,bK)] ((sW W5 (w.heap.size+1+1) 8 (.string nv.bind.inn)).setCell ⟨w.heap.size+1+1,10,none⟩ (.string sd))):=⟨fun e he=>by
  simp only[UH,UG,or_false]at he;rcases he with rfl|rfl|rfl
  ·exact(HHn.set 8 (.string nv.bind.inn)).set 10 (.string sd)
  ·exact aA.setOther (aA.setOther (S5.out.k _ cM) hxq _) hxq _
  ·exact aA.setOther (aA.setOther (S5.out.k _ CD) (by show w.heap.size+1+1+1≠w.heap.size+1+1;omega) _) (by show w.heap.size+1+1+1≠w.heap.size+1+1;omega) _,(sCl S5.out.b (by show w.heap.size≤w.heap.size+1+1;omega)).setCell (p:=⟨w.heap.size+1+1,10,none⟩) (by show w.heap.size≤w.heap.size+1+1;omega) _,fun e he=>by
  simp only[UH,UG,or_false]at he;rcases he with rfl|rfl|rfl<;>simp⟩
 have O6:Hid (bV W2.heap.size ((sW W5 (w.heap.size+1+1) 8 (.string nv.bind.inn)).setCell ⟨w.heap.size+1+1,10,none⟩ (.string sd)) a9 b9 nv.bib):=⟨O5.out.bd.grown (aB (aB (World.grownBy.refl _ _) _) _) (by omega),O5.out.ss.grown (aB (aB (World.grownBy.refl _ _) _) _) (by omega),O5.out.ne⟩;clear HHn;go_upto_region 14 with fail
 generalize ((sW W5 (w.heap.size+1+1) 8 (.string nv.bind.inn)).setCell ⟨w.heap.size+1+1,10,none⟩ (.string sd))=W6 at *;clear S5 O5 D5 dd0 nf8 nf10 hg8 k0 k1 k2 k3 k4 k5 k6 k7 n0 n1 n2 n3 n4 n5 n6 n7 n8 n9 n10;have HHn:=S6.out.at cM;obtain⟨n0,n1,n2,n3,n4,n5,n6,n7,n8,n9,n10⟩:=HHn.c11;clear HHn;have HHk:=S6.out.at dZ;obtain⟨k0,k1,k2,k3,k4,k5,k6,k7⟩:=HHk.c8;clear HHk;obtain⟨HTH,HRR,RB⟩:=kD (show aA W6 (w.heap.size+1+1+1) (fW none none 0 0 (eW 0)) from S6.out.k _ eL) S6.out.b hRw a9 b9 c9 d9 ⟨nv.bib,⟨tos,id,whole,more,off,ttl,VF,src,nv.bind.inn,opts,sd⟩,gK,0⟩;have HOW:Hid (bV w.heap.size (W6.setCells (w.heap.size+1+1+1) 0 (fW a9 b9 c9 d9 ⟨nv.bib,⟨tos,id,whole,more,off,ttl,VF,src,nv.bind.inn,opts,sd⟩,gK,0⟩).toArray.toList) a9 b9 nv.bib):=(bV.mid O6.out hR2 _).lowN hw2;clear O6 S6;go_wp2_with (refine wpList_store_mid (by rfl) 39 (.tmp 8) (.tmp 79) (by rfl) _ _ _ (by rfl) (by rfl) HTH.out aT (cN _ _ _ _ _) ?_)
 exact VB (aF Tryz.results46 _ _ _ _ _ rfl HRR.out Tryz.underlying39 rfl aT) rfl (And.intro (by rw[HV.out];exact⟨a9,b9,c9,d9,rfl,HOW.out⟩) RB.out)
theorem wK{p:Pl}{x:Bb}{q:P4}{now:Int}(h:cT p x q now=0):fA p x=true∧jB q=true∧bT now=true:=by
 unfold cT at h;by_cases h1:(fA p x&&jB q&&bT now)=false
 ·rw[if_pos h1]at h;simp at h
 ·simpa using h1
theorem vL(pa:OA)(pc:Nat)(p:Pl)(ba bo:OA)(ca cb:Nat)(x:Bb)(q:P4)(now:Int)(w:World)(hlp:p.VL.length≤1048576)(hpc:p.VL.length≤pc)(hsz:∀s∈p.VL,s.size≤1048576)(hl1:x.VN.length≤1048576)(hl2:x.VK.length≤1048576)(q1:q.src.size≤1048576)(q2:q.dst.size≤1048576)(q3:q.opts.size≤1048576)(q4:q.data.size≤1048576)(hp:bP cB 1 w pa p.VL)(hx:dC w ba bo x) :
  Calls Tryz.prog 19 #[iK pa pc p,gP ba bo ca cb x,kL q,iV now] w fun e w'=>kN w.heap.size (cJ p x q now) e w'∧Below w.heap.size w w':=by
 have HOK:Hid (∀W,Below w.heap.size w W→Cb 28 #[iK pa pc p,gP ba bo ca cb x,kL q,iV now] W (iV (cT p x q now))):=fun W hW=>zI pa pc p ba bo ca cb x q now W hlp hpc hsz hl1 hl2 q1 q2 q3 q4 (hp.below hW) (hx.below hW)
 have HIL:Hid (∀c W,Cb 29 #[iV c] W (vJ none none 0 0 (eW c))):=fun c W=>oU c W
 have HIN:Hid (cT p x q now=0→∀W,Below w.heap.size w W→Calls Tryz.prog 46 #[iK pa pc p,gP ba bo ca cb x,kL q,iV now] W fun e w'=>kN W.heap.size (fE p x q now) e w'∧Below W.heap.size W w'):=fun h W hW=>by
  obtain⟨h1,h2,h3⟩:=wK h;exact xB pa pc p ba bo ca cb x q now W h1 h2 h3 hl1 hl2 (hp.below hW) (hx.below hW)
 have HV:Hid (cJ p x q now=if cT p x q now≠0 then eW (cT p x q now) else fE p x q now):=rfl;generalize cJ p x q now=ans at *;generalize fE p x q now=nv at *;generalize cT p x q now=ft at *;obtain⟨tos,id,whole,more,off,ttl,VF,src,dst,opts,data⟩:=q;clear hp hx hsz;unfold iK gP kL at *;dsimp only at *;have e0:aA ((aW (aW (aW w (bG pa pc p) 27) (aX ba ca bo cb x) 31) (eP tos id whole more off ttl VF src dst opts data) 33).alloc (.cells bK.toArray 39)) (w.heap.size) (bG pa pc p):=by
  have h:=aA.new w (bG pa pc p) 27;try simp only[UC]at h
  exact(((h.alloc _).alloc _).alloc _)
 have e1:aA ((aW (aW (aW w (bG pa pc p) 27) (aX ba ca bo cb x) 31) (eP tos id whole more off ttl VF src dst opts data) 33).alloc (.cells bK.toArray 39)) (w.heap.size+1) (aX ba ca bo cb x):=by
  have h:=aA.new (w.alloc (.cells (bG pa pc p).toArray 27)) (aX ba ca bo cb x) 31;try simp only[UC]at h
  exact((h.alloc _).alloc _)
 have e2:aA ((aW (aW (aW w (bG pa pc p) 27) (aX ba ca bo cb x) 31) (eP tos id whole more off ttl VF src dst opts data) 33).alloc (.cells bK.toArray 39)) (w.heap.size+1+1) (eP tos id whole more off ttl VF src dst opts data):=by
  have h:=aA.new ((aW w (bG pa pc p) 27).alloc (.cells (aX ba ca bo cb x).toArray 31)) (eP tos id whole more off ttl VF src dst opts data) 33;try simp only[UC]at h
  exact(h.alloc _)
 have e3:aA ((aW (aW (aW w (bG pa pc p) 27) (aX ba ca bo cb x) 31) (eP tos id whole more off ttl VF src dst opts data) 33).alloc (.cells bK.toArray 39)) (w.heap.size+1+1+1) bK:=by
  have h:=aA.new ((aW (aW w (bG pa pc p) 27) (aX ba ca bo cb x) 31).alloc (.cells (eP tos id whole more off ttl VF src dst opts data).toArray 33)) bK 39;try simp only[UC]at h
  exact h
 have HS0:Hid (dD w [(w.heap.size,(bG pa pc p)),(w.heap.size+1,(aX ba ca bo cb x)),(w.heap.size+1+1,(eP tos id whole more off ttl VF src dst opts data)),(w.heap.size+1+1+1,bK)] ((aW (aW (aW w (bG pa pc p) 27) (aX ba ca bo cb x) 31) (eP tos id whole more off ttl VF src dst opts data) 33).alloc (.cells bK.toArray 39))):=by
  refine⟨fun e he=>?_,((((bR.alloc (by (try simp only[UC]);omega) _).alloc (by (try simp only[UC]);omega) _).alloc (by (try simp only[UC]);omega) _).alloc (by (try simp only[UC]);omega) _),fun e he=>?_⟩
  ·simp only[UH,UG,or_false]at he;rcases he with rfl|rfl|rfl|rfl
   ·exact e0
   ·exact e1
   ·exact e2
   ·exact e3
  ·simp only[UH,UG,or_false]at he;rcases he with rfl|rfl|rfl|rfl<;>simp
 clear e0 e1 e2 e3;have hRw:w.heap.size≤w.heap.size+1+1+1:=by omega
 go_enter Tryz.func19,Tryz.ntmps19
 go_upto_region 1 with fail
 generalize World.alloc _ _=W0 at *;have HHk:=HS0.out.at cM;obtain⟨k0,k1,k2,k3,k4,k5,k6,k7,k8,k9⟩:=HHk.c10;clear HHk;have HHl:=HS0.out.at dZ;obtain⟨l0,l1⟩:=HHl.c2;clear HHl;have HHm:=HS0.out.at eL;obtain⟨m0,m1,m2,m3,m4,m5,m6,m7,m8,m9,m10⟩:=HHm.c11;clear HHm;go_wp2_with fail
 refine(HOK.out _ HS0.out.b).mono ?_;rintro e W1 ⟨rfl,r1⟩;have S1:Hid _:=HS0.out.kept r1;clear r1 HS0 HOK k0 k1 k2 k3 k4 k5 k6 k7 k8 k9 l0 l1 m0 m1 m2 m3 m4 m5 m6 m7 m8 m9 m10;by_cases hc:ft=0
 case neg=>
  have d0:(ft != 0)=true:=by simp[hc]
  have HX:Hid (ans=eW ft):=by unfold Hid;rw[HV.out,if_pos hc]
  go_wp2_with fail
  refine(HIL.out ft _).mono ?_;rintro e W3 ⟨rfl,r3⟩;have S3:Hid _:=S1.out.kept r3;clear r3;obtain⟨HTH,HRR,RB⟩:=kD (show aA W3 (w.heap.size+1+1+1) (fW none none 0 0 (eW 0)) from S3.out.k _ iF) S3.out.b hRw none none 0 0 (eW ft);unfold vJ;go_wp2_with (refine wpList_store_mid (by rfl) 39 (.tmp 8) (.tmp 18) (by rfl) _ _ _ (by rfl) (by rfl) HTH.out aT (cN _ _ _ _ _) ?_)
  exact VB (aF Tryz.results19 _ _ _ _ _ rfl HRR.out Tryz.underlying39 rfl aT) rfl (And.intro (by rw[HX.out];exact dN _) RB.out)
 have d0:(ft != 0)=false:=by simp[hc]
 rw[if_neg (by simp[hc])]at HV;replace HIN:Hid _:=HIN.out hc;clear hc HIL;go_upto_region 4 with fail
 clear d0;have HHk:=S1.out.at cM;obtain⟨k0,k1,k2,k3,k4,k5,k6,k7,k8,k9⟩:=HHk.c10;clear HHk;have HHl:=S1.out.at dZ;obtain⟨l0,l1⟩:=HHl.c2;clear HHl;have HHm:=S1.out.at eL;obtain⟨m0,m1,m2,m3,m4,m5,m6,m7,m8,m9,m10⟩:=HHm.c11;clear HHm;have hR2:w.heap.size+1+1+1 < W1.heap.size:=(S1.out.k _ iF).lt (by simp);have hw2:w.heap.size≤W1.heap.size:=S1.out.b.size;go_wp2_with fail
 refine(HIN.out _ S1.out.b).mono ?_;rintro e W3 ⟨⟨a9,b9,c9,d9,rfl,hown⟩,r3⟩;have S3:Hid _:=S1.out.kept r3;clear r3 S1 HIN k0 k1 k2 k3 k4 k5 k6 k7 k8 k9 l0 l1 m0 m1 m2 m3 m4 m5 m6 m7 m8 m9 m10;obtain⟨HTH,HRR,RB⟩:=kD (show aA W3 (w.heap.size+1+1+1) (fW none none 0 0 (eW 0)) from S3.out.k _ iF) S3.out.b hRw a9 b9 c9 d9 nv;have HOW:Hid (bV w.heap.size (W3.setCells (w.heap.size+1+1+1) 0 (fW a9 b9 c9 d9 nv).toArray.toList) a9 b9 nv.bib):=(bV.mid hown hR2 _).lowN hw2;clear hown S3;unfold vJ;go_wp2_with (refine wpList_store_mid (by rfl) 39 (.tmp 8) (.tmp 23) (by rfl) _ _ _ (by rfl) (by rfl) HTH.out aT (cN _ _ _ _ _) ?_)
 exact VB (aF Tryz.results19 _ _ _ _ _ rfl HRR.out Tryz.underlying39 rfl aT) rfl (And.intro (by rw[HV.out];exact⟨a9,b9,c9,d9,rfl,HOW.out⟩) RB.out)
theorem vK(pa:OA)(pc:Nat)(p:Pl)(ba bo:OA)(ca cb:Nat)(x:Bb)(q:P4)(now:Int)(w:World)(hlp:p.VL.length≤1048576)(hpc:p.VL.length≤pc)(hsz:∀s∈p.VL,s.size≤1048576)(hl1:x.VN.length≤1048576)(hl2:x.VK.length≤1048576)(q1:q.src.size≤1048576)(q2:q.dst.size≤1048576)(q3:q.opts.size≤1048576)(q4:q.data.size≤1048576)(hp:bP cB 1 w pa p.VL)(hx:dC w ba bo x) :
  Calls Tryz.prog 23 #[iK pa pc p,gP ba bo ca cb x,kL q,iV now] w fun e w'=>kN w.heap.size (cI p x q now) e w'∧Below w.heap.size w w':=by
 have HPS:=zW p x q now hsz;have CFT:Hid (∀W,Below w.heap.size w W→Cb 28 #[iK pa pc p,gP ba bo ca cb x,kL q,iV now] W (iV (cT p x q now))):=fun W hW=>zI pa pc p ba bo ca cb x q now W hlp hpc hsz hl1 hl2 q1 q2 q3 q4 (hp.below hW) (hx.below hW)
 have CIL:Hid (∀c W,Cb 29 #[iV c] W (vJ none none 0 0 (eW c))):=fun c W=>oU c W
 have CGO:Hid (cT p x q now=0→∀W,Below w.heap.size w W→Calls Tryz.prog 30 #[iK pa pc p,gP ba bo ca cb x,kL q,iV now] W fun e w'=>kN W.heap.size (bW p x q now) e w'∧Below W.heap.size W w'):=fun h W hW=>by
  obtain⟨h1,h2,h3⟩:=wK h;exact BJ pa pc p ba bo ca cb x q now W h1 h2 h3 hl1 hl2 (hp.below hW) (hx.below hW)
 have CCO:Hid (cT p x q now=0→(bW p x q now).code=0→∀W a9 b9 c9 d9,Below w.heap.size w W→dC W a9 b9 (bW p x q now).bib→Calls Tryz.prog 19 #[iK pa pc p,gP a9 b9 c9 d9 (bW p x q now).bib,kL (bW p x q now).four,iV now] W fun e w'=>kN W.heap.size (cJ p (bW p x q now).bib (bW p x q now).four now) e w'∧Below W.heap.size W w'):=fun h c W a9 b9 c9 d9 hW hb=>by
  obtain⟨⟨l1,l2,l3,l4⟩,z1,z2,z3,z4⟩:=HPS.sm h c;exact vL pa pc p a9 b9 c9 d9 (bW p x q now).bib (bW p x q now).four now W hlp hpc hsz l1 l2 z1 z2 z3 z4 (hp.below hW) hb
 replace HPS:Hid _:=HPS;clear hlp hpc hsz hl1 hl2 hp hx q1 q2 q3 q4;generalize cI p x q now=ans at *;generalize bW p x q now=nv at *;generalize cT p x q now=ft at *;unfold iK gP kL at *;try dsimp only at *
 have e0:aA ((aW (aW (aW w (bG pa pc p) 27) (aX ba ca bo cb x) 31) (dM q) 33).alloc (.cells bK.toArray 39)) (w.heap.size) (bG pa pc p):=by
  have h:=aA.new w (bG pa pc p) 27;try simp only[UC]at h
  exact(((h.alloc _).alloc _).alloc _)
 have e1:aA ((aW (aW (aW w (bG pa pc p) 27) (aX ba ca bo cb x) 31) (dM q) 33).alloc (.cells bK.toArray 39)) (w.heap.size+1) (aX ba ca bo cb x):=by
  have h:=aA.new (w.alloc (.cells (bG pa pc p).toArray 27)) (aX ba ca bo cb x) 31;try simp only[UC]at h
  exact((h.alloc _).alloc _)
 have e2:aA ((aW (aW (aW w (bG pa pc p) 27) (aX ba ca bo cb x) 31) (dM q) 33).alloc (.cells bK.toArray 39)) (w.heap.size+1+1) (dM q):=by
  have h:=aA.new ((aW w (bG pa pc p) 27).alloc (.cells (aX ba ca bo cb x).toArray 31)) (dM q) 33;try simp only[UC]at h
  exact(h.alloc _)
 have e3:aA ((aW (aW (aW w (bG pa pc p) 27) (aX ba ca bo cb x) 31) (dM q) 33).alloc (.cells bK.toArray 39)) (w.heap.size+1+1+1) bK:=by
  have h:=aA.new ((aW (aW w (bG pa pc p) 27) (aX ba ca bo cb x) 31).alloc (.cells (dM q).toArray 33)) bK 39;try simp only[UC]at h
  exact h
 have HS0:Hid (dD w [(w.heap.size,(bG pa pc p)),(w.heap.size+1,(aX ba ca bo cb x)),(w.heap.size+1+1,(dM q)),(w.heap.size+1+1+1,bK)] ((aW (aW (aW w (bG pa pc p) 27) (aX ba ca bo cb x) 31) (dM q) 33).alloc (.cells bK.toArray 39))):=by
  refine⟨fun e he=>?_,((((bR.alloc (by (try simp only[UC]);omega) _).alloc (by (try simp only[UC]);omega) _).alloc (by (try simp only[UC]);omega) _).alloc (by (try simp only[UC]);omega) _),fun e he=>?_⟩
  ·simp only[UH,UG,or_false]at he;rcases he with rfl|rfl|rfl|rfl
   ·exact e0
   ·exact e1
   ·exact e2
   ·exact e3
  ·simp only[UH,UG,or_false]at he;rcases he with rfl|rfl|rfl|rfl<;>simp
 clear e0 e1 e2 e3;have hRw:w.heap.size≤w.heap.size+1+1+1:=by omega
 go_enter Tryz.func23,Tryz.ntmps23
 go_upto_region 1 with fail
 generalize World.alloc _ _=W0 at *;have HHk:=HS0.out.at cM;have k0:=HHk.cell (j:=0) rfl;have k1:=HHk.cell (j:=1) rfl;have k2:=HHk.cell (j:=2) rfl;have k3:=HHk.cell (j:=3) rfl;have k4:=HHk.cell (j:=4) rfl;have k5:=HHk.cell (j:=5) rfl;have k6:=HHk.cell (j:=6) rfl;have k7:=HHk.cell (j:=7) rfl;have k8:=HHk.cell (j:=8) rfl;have k9:=HHk.cell (j:=9) rfl;clear HHk;have HHl:=HS0.out.at dZ;have l0:=HHl.cell (j:=0) rfl;have l1:=HHl.cell (j:=1) rfl;clear HHl;have HHm:=HS0.out.at eL;have m0:=HHm.cell (j:=0) rfl;have m1:=HHm.cell (j:=1) rfl;have m2:=HHm.cell (j:=2) rfl;have m3:=HHm.cell (j:=3) rfl;have m4:=HHm.cell (j:=4) rfl;have m5:=HHm.cell (j:=5) rfl;have m6:=HHm.cell (j:=6) rfl;have m7:=HHm.cell (j:=7) rfl;have m8:=HHm.cell (j:=8) rfl;have m9:=HHm.cell (j:=9) rfl;have m10:=HHm.cell (j:=10) rfl;clear HHm;go_wp2_with fail
 refine(CFT.out W0 HS0.out.b).mono ?_;rintro e W1 ⟨rfl,r1⟩;have S1:Hid _:=HS0.out.kept r1;clear r1 HS0 CFT k0 k1 k2 k3 k4 k5 k6 k7 k8 k9 l0 l1 m0 m1 m2 m3 m4 m5 m6 m7 m8 m9 m10;by_cases hft:ft=0
 case neg=>
  have d0:(ft != 0)=true:=by simp[hft]
  have HX:Hid (ans=eW (ft)):=HPS.out.a1 hft;go_wp2_with fail
  refine(CIL.out (ft) W1).mono ?_;rintro e WI ⟨rfl,r3⟩;have SI:Hid _:=S1.out.kept r3;clear r3;unfold vJ;obtain⟨HTH,HRR,RB⟩:=kD (show aA WI (w.heap.size+1+1+1) (fW none none 0 0 (eW 0)) from SI.out.k _ iF) SI.out.b hRw none none 0 0 (eW (ft));go_wp2_with (refine wpList_store_mid (by rfl) 39 (.tmp 8) (.tmp 19) (by rfl) _ _ _ (by rfl) (by rfl) HTH.out aT (cN _ _ _ _ _) ?_)
  exact VB (aF Tryz.results23 _ _ _ _ _ rfl HRR.out Tryz.underlying39 rfl aT) rfl (And.intro (by rw[HX.out];exact dN _) RB.out)
 have d0:(ft != 0)=false:=by simp[hft]
 replace CGO:Hid _:=CGO.out hft;replace CCO:Hid _:=CCO.out hft;go_upto_region 4 with fail
 clear d0;have HHm:=S1.out.at eL;have m0:=HHm.cell (j:=0) rfl;have m1:=HHm.cell (j:=1) rfl;have m2:=HHm.cell (j:=2) rfl;have m3:=HHm.cell (j:=3) rfl;have m4:=HHm.cell (j:=4) rfl;have m5:=HHm.cell (j:=5) rfl;have m6:=HHm.cell (j:=6) rfl;have m7:=HHm.cell (j:=7) rfl;have m8:=HHm.cell (j:=8) rfl;have m9:=HHm.cell (j:=9) rfl;have m10:=HHm.cell (j:=10) rfl;clear HHm;by_cases hpr:q.VF=1
 case pos=>
  have d1:(q.VF==1)=true:=by simp[hpr]
  have HPX:Hid (ans=eW 11):=HPS.out.a2 hft hpr;clear hpr;have HX:Hid (ans=eW (11)):=HPX.out;go_wp2_with fail
  refine(CIL.out (11) W1).mono ?_;rintro e WI ⟨rfl,r3⟩;have SI:Hid _:=S1.out.kept r3;clear r3;unfold vJ;obtain⟨HTH,HRR,RB⟩:=kD (show aA WI (w.heap.size+1+1+1) (fW none none 0 0 (eW 0)) from SI.out.k _ iF) SI.out.b hRw none none 0 0 (eW (11));go_wp2_with (refine wpList_store_mid (by rfl) 39 (.tmp 8) (.tmp 23) (by rfl) _ _ _ (by rfl) (by rfl) HTH.out aT (cN _ _ _ _ _) ?_)
  exact VB (aF Tryz.results23 _ _ _ _ _ rfl HRR.out Tryz.underlying39 rfl aT) rfl (And.intro (by rw[HX.out];exact dN _) RB.out)
 have d1:(q.VF==1)=false:=by simp[hpr]
 have HPR:Hid _:=hpr;clear hpr;go_upto_region 6 with fail
 clear d1 m0 m1 m2 m3 m4 m5 m6 m7 m8 m9 m10;have HHk:=S1.out.at cM;have k0:=HHk.cell (j:=0) rfl;have k1:=HHk.cell (j:=1) rfl;have k2:=HHk.cell (j:=2) rfl;have k3:=HHk.cell (j:=3) rfl;have k4:=HHk.cell (j:=4) rfl;have k5:=HHk.cell (j:=5) rfl;have k6:=HHk.cell (j:=6) rfl;have k7:=HHk.cell (j:=7) rfl;have k8:=HHk.cell (j:=8) rfl;have k9:=HHk.cell (j:=9) rfl;clear HHk;have HHl:=S1.out.at dZ;have l0:=HHl.cell (j:=0) rfl;have l1:=HHl.cell (j:=1) rfl;clear HHl;have HHm:=S1.out.at eL;have m0:=HHm.cell (j:=0) rfl;have m1:=HHm.cell (j:=1) rfl;have m2:=HHm.cell (j:=2) rfl;have m3:=HHm.cell (j:=3) rfl;have m4:=HHm.cell (j:=4) rfl;have m5:=HHm.cell (j:=5) rfl;have m6:=HHm.cell (j:=6) rfl;have m7:=HHm.cell (j:=7) rfl;have m8:=HHm.cell (j:=8) rfl;have m9:=HHm.cell (j:=9) rfl;have m10:=HHm.cell (j:=10) rfl;clear HHm;have hR2:w.heap.size+1+1+1 < W1.heap.size:=(S1.out.k _ iF).lt (by simp);have hw2:w.heap.size≤W1.heap.size:=S1.out.b.size;go_wp2_with fail
 refine(CGO.out W1 S1.out.b).mono ?_;rintro e W3 ⟨⟨a9,b9,c9,d9,rfl,hown⟩,r3⟩;have S3:Hid _:=S1.out.kept r3;have h13:W1.heap.size≤W3.heap.size:=r3.size;clear r3 S1 CGO k0 k1 k2 k3 k4 k5 k6 k7 k8 k9 l0 l1 m0 m1 m2 m3 m4 m5 m6 m7 m8 m9 m10;unfold vJ;have h4:aA (W3.alloc (.cells bK.toArray 39)) W3.heap.size (fW none none 0 0 (eW 0)):=aA.new W3 bK 39;have HTH:Hid ((W3.alloc (.cells bK.toArray 39)).there W3.heap.size 0 (fW a9 b9 c9 d9 nv).toArray.size):=mP h4 _ _ _ _ _;have S4:Hid (dD w [(w.heap.size,(bG pa pc p)),(w.heap.size+1,(aX ba ca bo cb x)),(w.heap.size+1+1,(dM q)),(w.heap.size+1+1+1,bK)] ((W3.alloc (.cells bK.toArray 39)).setCells W3.heap.size 0 (fW a9 b9 c9 d9 nv).toArray.toList)):=dD.mid (S3.out.kept (bR.alloc lR _)) (by omega) (fun e he=>by have:=(S3.out.lts e he).1;omega) _;have H4:Hid (aA ((W3.alloc (.cells bK.toArray 39)).setCells W3.heap.size 0 (fW a9 b9 c9 d9 nv).toArray.toList) W3.heap.size (fW a9 b9 c9 d9 nv)):=h4.mid rfl;have O4:Hid (bV W1.heap.size ((W3.alloc (.cells bK.toArray 39)).setCells W3.heap.size 0 (fW a9 b9 c9 d9 nv).toArray.toList) a9 b9 nv.bib):=(hown.kept (bR.alloc lR _)).midNe hown.fresh _
 clear hown S3 h4;go_upto_region 7 with (refine wpList_store_mid (by rfl) 39 (.tmp 10) (.tmp 28) (by rfl) _ _ _ (by rfl) (by rfl) HTH.out aT (cN _ _ _ _ _) ?_)
 generalize (W3.alloc (.cells bK.toArray 39)).setCells W3.heap.size 0 (fW a9 b9 c9 d9 nv).toArray.toList=W5 at *;clear HTH;generalize W3.heap.size=Nb at *;have n24:=H4.out.cell (j:=24) rfl;by_cases hc:nv.code=0
 case neg=>
  have d0:(nv.code != 0)=true:=by simp[hc]
  have HX:Hid (ans=nv):=HPS.out.a3 hft HPR.out hc;clear hc;obtain⟨HTH,HRR,RB⟩:=kD (show aA W5 (w.heap.size+1+1+1) (fW none none 0 0 (eW 0)) from S4.out.k _ iF) S4.out.b hRw a9 b9 c9 d9 nv;have HOW:Hid (bV w.heap.size (W5.setCells (w.heap.size+1+1+1) 0 (fW a9 b9 c9 d9 nv).toArray.toList) a9 b9 nv.bib):=(bV.mid O4.out hR2 _).lowN hw2;go_wp2_with (first | (refine wpList_load_mid (by rfl) 39 (.tmp 10) (by rfl) Nb 0 (by rfl) (fW a9 b9 c9 d9 nv) _ H4.out.at0 Tryz.underlying39 rfl aT ?_) | (refine wpList_store_mid (by rfl) 39 (.tmp 8) (.tmp 32) (by rfl) _ _ _ (by rfl) (by rfl) HTH.out aT (cN _ _ _ _ _) ?_))
  refine VB (aF Tryz.results23 _ _ _ _ _ rfl HRR.out Tryz.underlying39 rfl aT) rfl ?_;rw[HX.out];exact And.intro ⟨a9,b9,c9,d9,rfl,HOW.out⟩ RB.out
 have d0:(nv.code != 0)=false:=by simp[hc]
 have HX:Hid _:=HPS.out.a4 hft HPR.out hc;replace CCO:Hid _:=CCO.out hc;go_upto_region 9 with fail
 clear d0 hc n24 HPR HPS hft;have HHk:=S4.out.at cM;have k0:=HHk.cell (j:=0) rfl;have k1:=HHk.cell (j:=1) rfl;have k2:=HHk.cell (j:=2) rfl;have k3:=HHk.cell (j:=3) rfl;have k4:=HHk.cell (j:=4) rfl;have k5:=HHk.cell (j:=5) rfl;have k6:=HHk.cell (j:=6) rfl;have k7:=HHk.cell (j:=7) rfl;have k8:=HHk.cell (j:=8) rfl;have k9:=HHk.cell (j:=9) rfl;clear HHk;have n0:=H4.out.cell (j:=0) rfl;have n1:=H4.out.cell (j:=1) rfl;have n2:=H4.out.cell (j:=2) rfl;have n3:=H4.out.cell (j:=3) rfl;have n4:=H4.out.cell (j:=4) rfl;have n5:=H4.out.cell (j:=5) rfl;have n6:=H4.out.cell (j:=6) rfl;have n7:=H4.out.cell (j:=7) rfl;have n8:=H4.out.cell (j:=8) rfl;have n9:=H4.out.cell (j:=9) rfl;have n10:=H4.out.cell (j:=10) rfl;have n11:=H4.out.cell (j:=11) rfl;have n12:=H4.out.cell (j:=12) rfl;have hR3:w.heap.size+1+1+1 < W5.heap.size:=(S4.out.k _ iF).lt (by simp);have hw3:w.heap.size≤W5.heap.size:=S4.out.b.size;go_wp2_with fail
 refine(CCO.out W5 a9 b9 c9 d9 S4.out.b O4.out.is).mono ?_;rintro e W6 ⟨⟨a8,b8,c8,d8,rfl,hown⟩,r3⟩;have S6:Hid _:=S4.out.kept r3;clear r3 S4 O4 H4 CCO k0 k1 k2 k3 k4 k5 k6 k7 k8 k9 n0 n1 n2 n3 n4 n5 n6 n7 n8 n9 n10 n11 n12;unfold vJ;generalize cJ p nv.bib nv.four now=cv at *;obtain⟨HTH,HRR,RB⟩:=kD (show aA W6 (w.heap.size+1+1+1) (fW none none 0 0 (eW 0)) from S6.out.k _ iF) S6.out.b hRw a8 b8 c8 d8 cv;have HOW:Hid (bV w.heap.size (W6.setCells (w.heap.size+1+1+1) 0 (fW a8 b8 c8 d8 cv).toArray.toList) a8 b8 cv.bib):=(bV.mid hown hR3 _).lowN hw3;clear hown S6;go_wp2_with (refine wpList_store_mid (by rfl) 39 (.tmp 8) (.tmp 39) (by rfl) _ _ _ (by rfl) (by rfl) HTH.out aT (cN _ _ _ _ _) ?_)
 exact VB (aF Tryz.results23 _ _ _ _ _ rfl HRR.out Tryz.underlying39 rfl aT) rfl (And.intro (by rw[HX.out];exact⟨a8,b8,c8,d8,rfl,HOW.out⟩) RB.out)
theorem MK{p:Pl}{x:Bb}{t:Tc}{now:Int}{c:Bd}(hi:t.VJ=false)(hc:(dO p x t now).code=0)(hf:x.VN.find? (cV t.VF t.addr t.port)=some c)(hfl:p.filter=0∨p.filter=1∨p.filter=2) :
  p.filter=0∨∃s∈x.VK,gR c s=true∧s.peer.toList=t.peer.toList∧(p.filter=1∨s.VG=t.VG):=by
 unfold dO at hc;rw[hi]at hc;simp only[UO,if_false]at hc;rw[hf]at hc;dsimp only at hc
 cases hs:x.VK.findIdx? (eU c t.peer t.VG) with
 | some i=>
  obtain⟨hlt,hw,_⟩:=List.findIdx?_eq_some_iff_getElem.1 hs;unfold eU at hw;simp only[UB,UF]at hw;exact .inr ⟨x.VK[i],UJ _,hw.1.1,hw.1.2,.inr hw.2⟩
 | none=>
  rw[hs]at hc;dsimp only at hc
  cases hg:mB p x t c with
  | true=>rw[hg]at hc;simp[kY]at hc
  | false=>
   unfold mB at hg;rw[hi]at hg;simp only[Bool.not_false,UP,Bool.or_eq_false_iff,decide_eq_false_iff_not,Bool.and_eq_false_iff,Bool.not_eq_false']at hg;rcases hfl with h0|h1|h2
   ·exact .inl h0
   ·rcases hg.2 with g | g
    ·exact absurd h1 g
    ·obtain⟨s,hs1,hs2⟩:=List.any_eq_true.1 g;unfold kV at hs2;simp only[UB,UF]at hs2;exact .inr ⟨s,hs1,hs2.1,hs2.2,.inl h1⟩
   ·exact absurd h2 hg.1
theorem GQ{p:Pl}{x:Bb}{q:P4}{now:Int}(h:(cJ p x q now).code=0)(hq:q.data.size≤20000) :
  ∃c D,bM q.src q.dst q.VF q.data=aI q.src q.dst q.VF q.data∧(aI q.src q.dst q.VF q.data).VF=q.VF∧(aI q.src q.dst q.VF q.data).src=q.src∧(aI q.src q.dst q.VF q.data).dst=q.dst
   ∧ kF (cV q.VF q.dst (aI q.src q.dst q.VF q.data).dp) x.VN q.dst=c∧c.VF≠0∧(cJ p x q now).four={ q with dst:=c.inn,data:=D }∧(cJ p x q now).bib.VN.length=x.VN.length∧fA p (cJ p x q now).bib=true
   ∧ (p.filter=0∨∃s∈x.VK,gR c s=true∧s.peer.toList=q.src.toList∧(p.filter=1∨s.VG=if q.VF=1 then 0 else (aI q.src q.dst q.VF q.data).sp)):=by
 unfold cJ fE at h ⊢;by_cases h1:cT p x q now≠0
 ·rw[if_pos h1]at h;exact absurd h h1
 rw[if_neg h1]at h ⊢;by_cases h2:mW p.VL q.dst=false
 ·rw[if_pos h2]at h;exact absurd h (by decide)
 rw[if_neg h2]at h ⊢;by_cases h3:aS q.src.size q.VF q.data≠0
 ·rw[if_pos h3]at h;exact absurd h h3
 rw[if_neg h3]at h ⊢;by_cases h4:(dO p x (cE (aI q.src q.dst q.VF q.data) q.data) now).code≠0
 ·rw[if_pos h4]at h;exact absurd h h4
 rw[if_neg h4]at h ⊢;by_cases h5:(dO p x (cE (aI q.src q.dst q.VF q.data) q.data) now).bind.inn.size≠4
 ·rw[if_pos h5]at h;exact absurd h (by decide)
 rw[if_neg h5];have h1':cT p x q now=0:=Decidable.not_not.1 h1;have h3':aS q.src.size q.VF q.data=0:=Decidable.not_not.1 h3;have h4':=Decidable.not_not.1 h4;obtain⟨k1,k2,k3⟩:=jN h1';obtain⟨hs4,hd4,_,_⟩:=iL k2;have hR:=gI.1 k1;have hto:=pN hs4 hd4 h3';obtain⟨g1,g2,g3,g4,g5⟩:=mU hR k3 hto h4';obtain⟨z1,z2,z3,_⟩:=fP (d:=q.dst) h3';obtain⟨g6,g7⟩:=g5 rfl;have hp4:q.VF=6∨q.VF=17∨q.VF=1:=iC (by have:=jY h3';rw[hs4]at this;exact this);have hfc:aZ q.src q.dst q.VF q.data=0:=by
  unfold aZ;rw[if_neg (by omega),if_neg (by rw[gG hs4 hd4];decide)];exact h3'
 have hkn:=MK (now:=now) (c:=(dO p x (cE (aI q.src q.dst q.VF q.data) q.data) now).bind) rfl h4' g6 (uJ hR.pool);have hcp:(dO p x (cE (aI q.src q.dst q.VF q.data) q.data) now).bind.VF=q.VF:=by
  have:=VE g6;unfold cV at this;simp only[UB,UF]at this;have h9:=this.1.1;rw[h9];exact z1
 refine⟨(dO p x (cE (aI q.src q.dst q.VF q.data) q.data) now).bind,_,?_,z1,z2,z3,?_,by rw[hcp];omega,rfl,by show (dO p x _ now).bib.VN.length=_;rw[g7],gI.2 g1,?_⟩
 ·unfold bM;rw[if_pos hfc]
 ·unfold kF;rw[if_neg (by omega)];have e:x.VN.find? (cV q.VF q.dst (aI q.src q.dst q.VF q.data).dp)=some (dO p x (cE (aI q.src q.dst q.VF q.data) q.data) now).bind:=by
   have:x.VN.find? (cV (aI q.src q.dst q.VF q.data).VF (aI q.src q.dst q.VF q.data).dst (aI q.src q.dst q.VF q.data).dp)=some (dO p x (cE (aI q.src q.dst q.VF q.data) q.data) now).bind:=g6;rw[z1,z3]at this;exact this
  rw[e];rfl
 ·rcases hkn with h0 | ⟨s,s1,s2,s3,s4⟩
  ·exact .inl h0
  ·refine .inr ⟨s,s1,s2,by have:=s3;unfold cE at this;dsimp only at this;rw[z2]at this;exact this,s4.imp id fun e=>?_⟩;unfold cE at e;dsimp only at e;rw[e,z1];unfold fF aL;rcases hp4 with h|h|h<;>rw[h]<;>simp
theorem LF{a b:Int}(ha:0≤a)(hb:0≤b)(h:gE a b=0):a=0∧b=0:=by unfold gE at h;split at h<;>omega
theorem EY{f:Nat→Int}(hf:oO f):∀k,gM f k=0→∀j,j < k→aM f (2*j)=0
 | 0,_,j,hj=>by omega
 | k+1,h,j,hj=>by
  have hr:=lH hf k;have hw:=cW hf (2*k);obtain⟨h1,h2⟩:=LF hr.1 hw.1 h;by_cases e:j=k
  ·subst e;exact h2
  ·exact EY hf k h1 j (by omega)
theorem qE{x:BA}{i:Nat}(h:bt x i≠0):bN x≠0:=by
 intro h0;have hi:i < x.size:=by
  by_cases hi:i < x.size
  ·exact hi
  ·exact absurd (by unfold bt;rw[dif_neg hi]) h
 have hz:=EY (bH x) _ h0 (i / 2) (by omega);have hb:=bH x;have b0:=hb (2*(i / 2));have b1:=hb (2*(i / 2)+1);unfold aM at hz;have e:i=2*(i / 2)∨i=2*(i / 2)+1:=by omega
 rcases e with e|e<;>rw[e]at h<;>omega
theorem xO{f g:Nat→Int}{a b c k:Nat}(hab:a≠b)(hac:a≠c)(hbc:b≠c)(ha:a < k)(hb:b < k)(hc:c < k)(h:∀i,i / 2≠a→i / 2≠b→i / 2≠c→f i=g i) :
  ∃z,gM g k=gM f k-aM f (2*a)-aM f (2*b)-aM f (2*c)+aM g (2*a)+aM g (2*b)+aM g (2*c)+65535*z:=by
 obtain⟨z1,e1⟩:=qU (f:=f) (g:=fun i=>if i / 2=a then g i else f i) (j:=a) (fun i hi=>by rw[if_neg (by omega)]) k ha;obtain⟨z2,e2⟩:=qU (f:=fun i=>if i / 2=a then g i else f i) (g:=fun i=>if i / 2=a∨i / 2=b then g i else f i) (j:=b) (fun i hi=>by
  by_cases h1:i / 2=a
  ·rw[if_pos h1,if_pos (.inl h1)]
  ·rw[if_neg h1,if_neg (by omega)]) k hb
 obtain⟨z3,e3⟩:=qU (f:=fun i=>if i / 2=a∨i / 2=b then g i else f i) (g:=g) (j:=c) (fun i hi=>by
  by_cases h1:i / 2=a∨i / 2=b
  ·rw[if_pos h1]
  ·rw[if_neg h1];exact h i (by omega) (by omega) (by omega)) k hc
 have w1:aM (fun i=>if i / 2=a then g i else f i) (2*a)=aM g (2*a):=by
  unfold aM;dsimp only;rw[if_pos (by omega),if_pos (by omega)]
 have w2:aM (fun i=>if i / 2=a then g i else f i) (2*b)=aM f (2*b):=by
  unfold aM;dsimp only;rw[if_neg (by omega),if_neg (by omega)]
 have w3:aM (fun i=>if i / 2=a∨i / 2=b then g i else f i) (2*b)=aM g (2*b):=by
  unfold aM;dsimp only;rw[if_pos (by omega),if_pos (by omega)]
 have w4:aM (fun i=>if i / 2=a∨i / 2=b then g i else f i) (2*c)=aM f (2*c):=by
  unfold aM;dsimp only;rw[if_neg (by omega),if_neg (by omega)]
 rw[w1]at e1;rw[w2,w3]at e2;rw[w4]at e3;exact⟨z1+z2+z3,by omega⟩
theorem ET{t:BA}{k:Nat}{n:Int}(h:k+2≤t.size)(h0:0≤n)(h1:n≤65535):aM (bt (eG t k (aR n))) k=n:=by
 have q:=FP n h0 h1;unfold aM;rw[kQ (by rw[aP];omega),kQ (by rw[aP];omega),if_neg (by omega),if_pos (by rw[aP];omega),if_neg (by omega),if_pos (by rw[aP];omega),Nat.sub_self,Nat.add_sub_cancel_left,q.1,q.2];omega
theorem qN{t:BA}{k:Nat}{n:Int}(h:k+2≤t.size){i:Nat}(hi:i < k∨k+2≤i):bt (eG t k (aR n)) i=bt t i:=by
 rw[kQ (by rw[aP];omega),aP];(repeat' split)<;>first | rfl | (exfalso;omega)
def sO(p:Int):Nat:=if aL p=true then 2 else 1
theorem DV(p:Int){t:BA}(h:8≤t.size):∃z,bN (bE p t)=aM (bt t) 0+aM (bt t) (2*sO p)+65535*z:=by
 have hs:=iD p h;have e:bN (bE p t)=gE (gE 0 (aM (bt (bE p t)) 0)) (aM (bt (bE p t)) 2):=by
  unfold bN;rw[hs];rfl
 have hw:=cW (bH t) 0;have e0:aM (bt (bE p t)) 0=aM (bt t) 0∧aM (bt (bE p t)) 2=aM (bt t) (2*sO p):=by
  unfold bE sO aM;by_cases he:aL p=true
  ·rw[if_pos he,if_pos he];have s1:(t.extract 0 2).size=2:=by rw[UR];omega
   simp only[dW,s1];rw[if_pos (by omega),if_pos (by omega),if_neg (by omega),if_neg (by omega),fB _ _ _ _ (by omega),fB _ _ _ _ (by omega),fB _ _ _ _ (by omega),fB _ _ _ _ (by omega)];simp
  ·rw[if_neg he,if_neg he,fB _ _ _ _ (by omega),fB _ _ _ _ (by omega),fB _ _ _ _ (by omega),fB _ _ _ _ (by omega)];simp
 obtain⟨z1,d1⟩:=lM 0 (aM (bt t) 0);obtain⟨z2,d2⟩:=lM (gE 0 (aM (bt t) 0)) (aM (bt t) (2*sO p));rw[e,e0.1,e0.2];exact⟨z1+z2,by omega⟩
theorem BE(f g:Fl)(t:BA):∃z,dB f g t=aM (bt t) (bI f.VF)+bN (eI f t)-bN (eI g (bX f g t))+65535*z:=by
 obtain⟨z,e⟩:=qV (aM (bt t) (bI f.VF)) (bN (eI f t)) (bN (eI g (bX f g t)));have hn:dB f g t=if eB (aM (bt t) (bI f.VF)) (bN (eI f t)) (bN (eI g (bX f g t)))=0 then 65535 else eB (aM (bt t) (bI f.VF)) (bN (eI f t)) (bN (eI g (bX f g t))):=rfl;rw[hn];split
 ·exact⟨z+1,by omega⟩
 ·exact⟨z,e⟩
theorem BF(f g:Fl)(t:BA):dB f g t≠0:=by
 have hn:dB f g t=if eB (aM (bt t) (bI f.VF)) (bN (eI f t)) (bN (eI g (bX f g t)))=0 then 65535 else eB (aM (bt t) (bI f.VF)) (bN (eI f t)) (bN (eI g (bX f g t))):=rfl;rw[hn];split<;>omega
structure FE(p:Int)(g:Fl)(t u:BA):Prop where
 sz:u.size=t.size
 ec:aL p=true→bt u 0=bt t 0∧bt u 1=bt t 1∧aM (bt u) 4=g.sp
 no:aL p=false→aM (bt u) 0=g.sp∧aM (bt u) 2=g.dp
 ot:∀i,i / 2≠0→i / 2≠sO p→bt u i=bt t i
theorem KQ{f g:Fl}{t:BA}(h8:8≤t.size)(hp:g.VF=f.VF)(h1:0≤g.sp∧g.sp≤65535)(h2:0≤g.dp∧g.dp≤65535):FE f.VF g t (bX f g t):=by
 have hsz:=kH (f:=f) (g:=g) h8;unfold bX at hsz ⊢;by_cases he:aL f.VF=true
 ·rw[if_pos he]at hsz ⊢;have hfv:lK f g t=bt t 0:=by unfold lK;rw[if_neg (by rw[hp];simp)]
  have hb:=bH t 0;have s1:(eG t 0 (lP (lK f g t))).size=t.size:=eR (by rw[lF];omega);have o1:∀i,bt (eG t 0 (lP (lK f g t))) i=bt t i:=fun i=>by
   rw[kQ (by rw[lF];omega),lF,if_neg (by omega)];by_cases hi:i < 0+1
   ·rw[if_pos hi];have e:i=0:=by omega
    subst e;rw[hfv];show bt (lP (bt t 0)) 0=bt t 0;unfold bt;rw[dif_pos (by rw[lF];omega)];exact fM _ hb.1 hb.2
   ·rw[if_neg hi]
  refine⟨hsz,fun _=>⟨?_,?_,ET (by omega) h1.1 h1.2⟩,fun h=>by rw[he]at h;exact absurd h (by decide),fun i i0 i1=>?_⟩
  ·rw[qN (by omega) (.inl (by omega)),o1]
  ·rw[qN (by omega) (.inl (by omega)),o1]
  ·unfold sO at i1;rw[if_pos he]at i1;rw[qN (by omega) (by omega),o1]
 ·rw[if_neg he]at hsz ⊢;have q1:=FP g.sp h1.1 h1.2;have q2:=FP g.dp h2.1 h2.2;have s4:(aR g.sp++aR g.dp).size=4:=by rw[UQ,aP,aP]
  refine⟨hsz,fun h=>absurd h he,fun _=>⟨?_,?_⟩,fun i i0 i1=>?_⟩
  ·unfold aM;rw[kQ (by omega),kQ (by omega),s4,if_neg (by omega),if_pos (by omega),if_neg (by omega),if_pos (by omega),dW,dW,aP,if_pos (by omega),if_pos (by omega),Nat.sub_zero,Nat.sub_zero,q1.1,q1.2];omega
  ·unfold aM;rw[kQ (by omega),kQ (by omega),s4,if_neg (by omega),if_pos (by omega),if_neg (by omega),if_pos (by omega),dW,dW,aP,if_neg (by omega),if_neg (by omega),show 2-0-2=0 from rfl,show 2+1-0-2=1 from rfl,q2.1,q2.2];omega
  ·unfold sO at i1;rw[if_neg he]at i1;rw[kQ (by omega),s4,if_neg (by omega),if_neg (by omega)]
theorem CP{p:Int}(h:p=6∨p=17∨p=1):∃c,bI p=2*c∧c≠0∧c≠sO p∧(p=6→c=8)∧(p≠6→c≤3):=by
 rcases h with rfl|rfl|rfl
 ·exact⟨8,rfl,by decide,by decide,fun _=>rfl,fun h=>absurd rfl h⟩
 ·exact⟨3,rfl,by decide,by decide,fun h=>absurd h (by decide),fun _=>by omega⟩
 ·exact⟨1,rfl,by decide,by decide,fun h=>absurd h (by decide),fun _=>by omega⟩
structure SQ(s d:BA)(p:Int)(g:Fl)(t u:BA):Prop where
 out:FE p g t u∨(aM (bt u) (bI p)=dB (aI s d p t) g t∧∃v,FE p g t v∧v=bX (aI s d p t) g t∧u.size=v.size∧∀i,(i < bI p∨bI p+2≤i)→bt u i=bt v i)
 bare:fQ (aI s d p t) t=true→u=bX (aI s d p t) g t∧FE p g t u
 full:fQ (aI s d p t) t=false→aM (bt u) (bI p)=dB (aI s d p t) g t∧∃v,FE p g t v∧v=bX (aI s d p t) g t∧u.size=v.size∧∀i,(i < bI p∨bI p+2≤i)→bt u i=bt v i
theorem NL{s d:BA}{p:Int}{t:BA}{g:Fl}(h:aS s.size p t=0)(hs:s.size=4)(hp:g.VF=p)(gs:g.src.size=4)(h1:0≤g.sp∧g.sp≤65535)(h2:0≤g.dp∧g.dp≤65535):SQ s d p g t (jI (aI s d p t) g t):=by
 obtain⟨z1,z2,z3,-⟩:=fP (d:=d) h;obtain⟨h8,h20⟩:=gY h;have hp4:=iC (hs ▸ jY h);have ho:=KQ (f:=aI s d p t) (g:=g) h8 (hp.trans z1.symm) h1 h2;have hco:bI p+2≤t.size:=by
  rcases hp4 with h|h|h
  ·have:=h20 h;rw[h];show 16+2≤_;omega
  ·rw[h];show 6+2≤_;omega
  ·rw[h];show 2+2≤_;omega
 rw[z1]at ho;have hnr:=pY (aI s d p t) g t;have hfull:fQ (aI s d p t) t=false→aM (bt (jI (aI s d p t) g t)) (bI p)=dB (aI s d p t) g t∧∃v,FE p g t v∧v=bX (aI s d p t) g t∧(jI (aI s d p t) g t).size=v.size∧∀i,(i < bI p∨bI p+2≤i)→bt (jI (aI s d p t) g t) i=bt v i:=fun hb=>by
  unfold jI;rw[if_neg (by rw[hb];decide),z1];exact⟨ET (by rw[ho.sz];exact hco) hnr.1 hnr.2,_,ho,rfl,eR (by rw[ho.sz,aP];exact hco),fun i hi=>qN (by rw[ho.sz];exact hco) hi⟩
 have hbare:fQ (aI s d p t) t=true→jI (aI s d p t) g t=bX (aI s d p t) g t∧FE p g t (jI (aI s d p t) g t):=fun hb=>by
  have e:jI (aI s d p t) g t=bX (aI s d p t) g t:=by
   unfold jI;rw[if_pos hb,if_neg (by omega)]
  exact⟨e,by rw[e];exact ho⟩
 refine⟨?_,hbare,hfull⟩
 cases hb:fQ (aI s d p t) t with
 | true=>exact .inl (hbare hb).2
 | false=>exact .inr (hfull hb)
theorem NM{s d:BA}{p:Int}{t:BA}{g:Fl}(h:aS s.size p t=0)(hs:s.size=4)(hp:g.VF=p)(gs:g.src.size=4)(h1:0≤g.sp∧g.sp≤65535)(h2:0≤g.dp∧g.dp≤65535)(he:aL p=true→g.sp=g.dp) :
  (jI (aI s d p t) g t).size=t.size∧aS 4 p (jI (aI s d p t) g t)=0∧aI g.src g.dst p (jI (aI s d p t) g t)=g∧(p=6→bt (jI (aI s d p t) g t) 13=bt t 13)∧(p=1→∀i,6≤i→bt (jI (aI s d p t) g t) i=bt t i):=by
 obtain⟨h8,h20⟩:=gY h;have hp4:=iC (hs ▸ jY h);have hR:=NL (d:=d) h hs hp gs h1 h2;generalize jI (aI s d p t) g t=u at *;have hw:u.size=t.size∧(aL p=true→bt u 0=bt t 0∧bt u 1=bt t 1∧aM (bt u) 4=g.sp)∧(aL p=false→aM (bt u) 0=g.sp∧aM (bt u) 2=g.dp)∧(p=6→bt u 12=bt t 12∧bt u 13=bt t 13)∧(p=1→∀i,6≤i→bt u i=bt t i):=by
  rcases hR.out with ho|⟨_,v,ho,_,hsz,hot⟩
  ·refine⟨ho.sz,ho.ec,ho.no,fun h6=>⟨ho.ot 12 (by decide) (by rw[h6];decide),ho.ot 13 (by decide) (by rw[h6];decide)⟩,fun h6 i hi=>ho.ot i (by omega) (by rw[h6];show i / 2≠2;omega)⟩
  ·refine⟨hsz.trans ho.sz,fun e=>?_,fun e=>?_,fun h6=>⟨?_,?_⟩,fun h6 i hi=>?_⟩
   ·have e1:bI p=2:=by
     unfold aL at e;rcases hp4 with h | h | h<;>rw[h]at e ⊢<;>first | rfl | exact absurd e (by decide)
    obtain⟨a,b,c⟩:=ho.ec e;unfold aM at c ⊢;rw[hot 0 (by omega),hot 1 (by omega),hot 4 (by omega),hot 5 (by omega)];exact⟨a,b,c⟩
   ·have e1:4≤bI p:=by
     rcases hp4 with h | h | h<;>rw[h]at e ⊢<;>first | decide | exact absurd e (by decide)
    obtain⟨a,b⟩:=ho.no e;unfold aM at a b ⊢;rw[hot 0 (by omega),hot 1 (by omega),hot 2 (by omega),hot 3 (by omega)];exact⟨a,b⟩
   ·rw[hot 12 (by rw[h6];decide)];exact ho.ot 12 (by decide) (by rw[h6];decide)
   ·rw[hot 13 (by rw[h6];decide)];exact ho.ot 13 (by decide) (by rw[h6];decide)
   ·rw[hot i (by rw[h6];show i < 2∨2+2≤i;omega)];exact ho.ot i (by omega) (by rw[h6];show i / 2≠2;omega)
 obtain⟨w1,w2,w3,w4,w5⟩:=hw;have hc:aS 4 p u=0:=by
  rw[hs]at h;unfold aS at h ⊢;by_cases k1:cH p 4=false
  ·rw[if_pos k1]at h;exact absurd h (by decide)
  rw[if_neg k1]at h ⊢;have e:gC p u=gC p t:=by
   unfold gC;by_cases h6:p=6
   ·rw[(w4 h6).1,w1]
   ·simp[h6,w1]
  rw[e];by_cases k2:gC p t=true
  ·rw[if_pos k2]at h;exact absurd h (by decide)
  rw[if_neg k2]at h ⊢;by_cases k3:aL p=true
  ·rw[if_pos k3]at h ⊢;rw[(w2 k3).1,(w2 k3).2.1];exact h
  ·rw[if_neg k3]
 refine⟨w1,hc,?_,fun h6=>(w4 h6).2,w5⟩;unfold aI;rw[gs,if_pos hc];by_cases k3:aL p=true
 ·rw[if_pos k3,(w2 k3).2.2];have:=he k3
  cases g;simp only at this hp;subst this;subst hp;rfl
 ·rw[if_neg k3,(w3 (by simpa using k3)).1,(w3 (by simpa using k3)).2]
  cases g;simp only at hp;subst hp;rfl
theorem lS{s d:BA}{p:Int}{n:Nat}(hs:s.size=4)(hd:d.size=4):(p=1→aQ s d p n=⟨#[]⟩)∧(p≠1→(aQ s d p n).size=12∧((0≤p∧p≤255)→bt (aQ s d p n) 9=p)):=by
 unfold aQ;refine⟨fun h=>if_pos ⟨h,hs⟩,fun h=>?_⟩;rw[if_neg (fun hh=>h hh.1),if_pos hs];refine⟨by simp only[UQ,nB,aP,hs,hd],fun hp=>?_⟩;have q:=MY 0 p (by decide) hp;simp only[dW,UQ,nB,aP,hs,hd];rw[if_pos (by omega),if_neg (by omega)];exact q.2
theorem JI{s d:BA}{p:Int}{n:Nat}{t:BA}(hs:s.size=4)(hd:d.size=4):∃z,bN (aQ s d p n++t)=bN (aQ s d p n)+bN t+65535*z:=by
 have h:=lS (p:=p) (n:=n) hs hd;by_cases h1:p=1
 ·rw[h.1 h1];exact oA (K:=0) rfl
 ·exact oA (K:=6) ((h.2 h1).1)
theorem KS{s d:BA}{p:Int}{t:BA}{g:Fl}(h:aS s.size p t=0)(hs:s.size=4)(hd:d.size=4)(ht:t.size≤20000)(hp:g.VF=p)(gs:g.src.size=4)(gd:g.dst.size=4)(h1:0≤g.sp∧g.sp≤65535)(h2:0≤g.dp∧g.dp≤65535)(hz:p=1→∃i,bt t i≠0) :
  sC g.src g.dst p (jI (aI s d p t) g t)=sC s d p t:=by
 obtain⟨h8,h20⟩:=gY h;obtain⟨z1,z2,z3,-⟩:=fP (d:=d) h;have hp4:=iC (hs ▸ jY h);have hpb:0≤p∧p≤255:=by omega
 have hR:=NL (d:=d) h hs hp gs h1 h2;have hbd:fQ (aI s d p t) t=(decide (p=17)&&decide (aM (bt t) (bI p)=0)):=by unfold fQ;rw[z1,z2,hs];simp
 generalize jI (aI s d p t) g t=u at *;have hcin:∀v:BA,v.size=t.size→SM g.src g.dst p v=true∧SM s d p t=true:=fun v hv=>by
  unfold SM;rw[hv,gG gs gd,gG hs hd,hs,hd,gs,gd];have:aO p 0 255=true:=by unfold aO;simp;omega
  rw[this];simp[ht]
 unfold sC
 cases hb:fQ (aI s d p t) t with
 | true=>
  obtain⟨e,ho⟩:=hR.bare hb;rw[hb]at hbd;have hbd':=hbd.symm;simp only[UB,UF]at hbd';obtain⟨b1,b2⟩:=hbd';subst b1;have b2':aM (bt t) 6=0:=b2;have b3:aM (bt u) 6=0:=by
   unfold aM at b2' ⊢;rw[ho.ot 6 (by decide) (by decide),ho.ot 7 (by decide) (by decide)];exact b2'
  rw[(hcin u ho.sz).1,(hcin u ho.sz).2,b3,b2',hs,gs,ho.sz];simp[h8]
 | false=>
  obtain⟨hn,v,ho,ev,hsz,hot⟩:=hR.full hb;have husz:u.size=t.size:=hsz.trans ho.sz;rw[(hcin u husz).1,(hcin u husz).2];have hnp:=BF (aI s d p t) g t;obtain⟨c,c1,c2,c3,c4,c5⟩:=CP hp4;have hck:2*c+2≤t.size:=by
   by_cases h6:p=6
   ·have:=h20 h6;have:=c4 h6;omega
   ·have:=c5 h6;omega
  have hu1:(decide (p=17)&&decide (s.size=4)&&decide (8≤t.size)&&decide (aM (bt t) 6=0))=false:=by
   rw[hb]at hbd;by_cases h17:p=17
   ·subst h17;simp only[decide_true,UP]at hbd;have:aM (bt t) 6≠0:=fun e=>by
     have:decide (aM (bt t) (bI 17)=0)=true:=UE e;rw[this]at hbd;exact absurd hbd (by decide)
    simp[this]
   ·simp[h17]
  have hu2:(decide (p=17)&&decide (g.src.size=4)&&decide (8≤u.size)&&decide (aM (bt u) 6=0))=false:=by
   by_cases h17:p=17
   ·subst h17;have e:aM (bt u) 6=dB (aI s d 17 t) g t:=hn;simp[e,hnp]
   ·simp[h17]
  rw[hu1,hu2,Bool.or_false,Bool.or_false,UP,UP];have hsec:sO p=2∨sO p=1:=by unfold sO;split<;>omega
  obtain⟨y1,d1⟩:=xO (f:=bt t) (g:=bt u) (a:=0) (b:=sO p) (c:=c) (k:=(t.size+1) / 2) (by omega) (by omega) (by omega) (by omega) (by omega) (by omega) (fun i i0 i1 i2=>by
   rw[hot i (by rw[c1];omega),ho.ot i i0 i1])
  obtain⟨y2,d2⟩:=BE (aI s d p t) g t;have p1:eI (aI s d p t) t=bE p t++aQ s d p t.size:=by unfold eI bE;rw[z1,z2,z3]
  have p2:eI g (bX (aI s d p t) g t)=bE p v++aQ g.src g.dst p t.size:=by unfold eI bE;rw[←ev,hp,ho.sz]
  obtain⟨y3,d3⟩:=oA (a:=bE p t) (b:=aQ s d p t.size) (K:=2) (iD _ h8);obtain⟨y4,d4⟩:=oA (a:=bE p v) (b:=aQ g.src g.dst p t.size) (K:=2) (iD _ (by rw[ho.sz];exact h8));obtain⟨y5,d5⟩:=DV p h8;obtain⟨y6,d6⟩:=DV p (t:=v) (by rw[ho.sz];exact h8);obtain⟨y7,d7⟩:=JI (p:=p) (n:=t.size) (t:=t) hs hd;obtain⟨y8,d8⟩:=JI (p:=p) (n:=u.size) (t:=u) gs gd;have v0:aM (bt v) (2*0)=aM (bt u) (2*0):=by
   unfold aM;rw[hot _ (by rw[c1];omega),hot _ (by rw[c1];omega)]
  have v1:aM (bt v) (2*sO p)=aM (bt u) (2*sO p):=by
   unfold aM;rw[hot _ (by rw[c1];omega),hot _ (by rw[c1];omega)]
  rw[p1,p2,d3,d4,d5,d6,z1]at d2;rw[c1]at d2 hn;rw[husz]at d8;have t1:gM (bt t) ((t.size+1) / 2)=bN t:=rfl;have t2:gM (bt u) ((t.size+1) / 2)=bN u:=by unfold bN;rw[husz]
  rw[t1,t2]at d1;have r1:=dE (aQ s d p t.size++t);have r2:=dE (aQ g.src g.dst p t.size++u);have n1:bN (aQ s d p t.size++t)≠0:=by
   by_cases e1:p=1
   ·obtain⟨i,hi⟩:=hz e1;rw[(lS (p:=p) (n:=t.size) hs hd).1 e1];exact qE (i:=i) (by rw[dW,if_neg (by show ¬i < 0;omega)];exact hi)
   ·obtain⟨a,b⟩:=(lS (p:=p) (n:=t.size) hs hd).2 e1;exact qE (i:=9) (by rw[dW,if_pos (by omega),b hpb];omega)
  have n2:bN (aQ g.src g.dst p t.size++u)≠0:=by
   by_cases e1:p=1
   ·rw[(lS (p:=p) (n:=t.size) gs gd).1 e1];have hw:aM (bt u) (2*c)≠0:=by rw[hn];exact hnp
    by_cases hb0:bt u (2*c)=0
    ·refine qE (i:=2*c+1) ?_;rw[dW,if_neg (by show ¬2*c+1 < 0;omega)];intro h0;exact hw (by unfold aM;rw[hb0];show 0*256+bt u (2*c+1)=0;rw[show bt u (2*c+1)=0 from h0];rfl)
    ·exact qE (i:=2*c) (by rw[dW,if_neg (by show ¬2*c < 0;omega)];exact hb0)
   ·obtain⟨a,b⟩:=(lS (p:=p) (n:=t.size) gs gd).2 e1;exact qE (i:=9) (by rw[dW,if_pos (by omega),b hpb];omega)
  have hS:OP g.src g.dst p u=bN (aQ g.src g.dst p t.size++u):=by unfold OP;rw[husz]
  have hS0:OP s d p t=bN (aQ s d p t.size++t):=rfl;rw[hS,hS0];have key:∃z,bN (aQ g.src g.dst p t.size++u)=bN (aQ s d p t.size++t)+65535*z:=by
   rw[Nat.mul_zero]at d1 v0;rw[v0,v1]at d2;rw[d7,d8,d1,hn,d2];exact⟨y8-y7+y1+y2+y3-y4+y5-y6,by omega⟩
  obtain⟨z,hzz⟩:=key;have:bN (aQ g.src g.dst p t.size++u)=bN (aQ s d p t.size++t):=by omega
  rw[this]
theorem yZ{p:Pl}{x:Bb}{t:Tc}{c:Bd}{now:Int}(h:(jX p x t c now).code=0)(hp:(jX p x t c now).bind.VF=t.VF):∃s∈(jX p x t c now).bib.VK,eU (jX p x t c now).bind t.peer t.VG s=true:=by
 unfold jX at h hp ⊢;split at h
 ·exact absurd h (by simp[kY])
 ·rename_i h1;rw[if_neg h1]at hp ⊢;split at h
  ·exact absurd h (by simp[kY])
  ·rename_i h2;rw[if_neg h2]at hp ⊢;by_cases h3:(if t.VJ=true then (gJ p x.VN t.VF t.addr t.port).2 else 0)≠0
   ·rw[if_pos h3]at h;exact absurd h h3
   ·rw[if_neg h3]at hp ⊢;dsimp only at hp ⊢;refine⟨_,List.mem_append_right _ (List.mem_singleton_self _),?_⟩;unfold eU gR uK;dsimp only;rw[hp];simp
theorem GD{p:Pl}{x:Bb}{t:Tc}{now:Int}(hi:t.VJ=true)(h:(dO p x t now).code=0)(hp:(dO p x t now).bind.VF=t.VF):∃s∈(dO p x t now).bib.VK,eU (dO p x t now).bind t.peer t.VG s=true:=by
 unfold dO at h hp ⊢
 cases hf:x.VN.find? (if t.VJ=true then cD t.VF t.addr t.port else cV t.VF t.addr t.port) with
 | none=>
  rw[hf]at h hp;dsimp only at h hp ⊢;rw[if_pos hi]at h hp ⊢;exact yZ h hp
 | some c=>
  rw[hf]at h hp;dsimp only at h hp ⊢
  cases hs:x.VK.findIdx? (eU c t.peer t.VG) with
  | none=>
   rw[hs]at h hp;dsimp only at h hp ⊢
   cases hg:mB p x t c with
   | true=>rw[hg]at h;exact absurd h (by simp[kY])
   | false=>
    rw[hg]at h hp;simp only[UO,if_false]at h hp ⊢;exact yZ h hp
  | some i=>
   dsimp only;obtain⟨hlt,hw,_⟩:=List.findIdx?_eq_some_iff_getElem.1 hs;refine⟨nI p t now x.VK[i],?_,hw⟩;unfold tQ;rw[UU hlt];dsimp only;exact List.mem_set hlt _
structure TT(p:Pl)(q:P4)(now:Int)(o:No)(c:Bd)(F G:Fl)(D:BA):Prop where
 fo:bM q.src q.dst q.VF q.data=F
 fp:F.VF=q.VF∧F.src=q.src∧F.dst=q.dst
 fd:0≤F.dp∧F.dp≤65535
 four:o.four={ q with src:=c.out,data:=D }
 bib:oD p o.bib
 mem:c∈o.bib.VN
 bnd:kF (cD q.VF q.src F.sp) o.bib.VN q.src=c
 cp:c.VF=q.VF∧c.inn=q.src∧c.VH=F.sp
 cs:c.out.size=4∧(0≤c.VI∧c.VI≤65535)∧(0≤c.VH∧c.VH≤65535)∧mW p.VL c.out=true
 qs:q.src.size=4∧q.dst.size=4∧q.data.size≤1400
 pr:q.VF=6∨q.VF=17∨q.VF=1
 g:G.VF=q.VF∧G.src=c.out∧G.dst=q.dst∧G.sp=c.VI∧(0≤G.dp∧G.dp≤65535)∧(aL q.VF=true→G.sp=G.dp)∧(aL q.VF=false→G.dp=F.dp)
 rd:aS 4 q.VF D=0∧aI c.out q.dst q.VF D=G∧aZ c.out q.dst q.VF D=0∧bM c.out q.dst q.VF D=G
 v4:jB o.four=true
 sz:D.size=q.data.size
 tl:q.VF=1→∀i,6≤i→bt D i=bt q.data i
 cr:(q.VF=1→∃i,6≤i∧bt q.data i≠0)→sC c.out q.dst q.VF D=sC q.src q.dst q.VF q.data
 se:∃s∈o.bib.VK,eU c q.dst (fF q.VF F.dp) s=true
 tm:bT now=true
theorem NX{q:P4}{s d t:BA}(h:jB q=true)(hs:s.size=4)(hd:d.size=4)(ht:t.size=q.data.size):jB { q with src:=s,dst:=d,data:=t }=true:=by
 obtain⟨h1,h2,-⟩:=iL h;unfold jB KZ LI RM at h ⊢;dsimp only;rw[hs,hd,ht];rw[h1,h2]at h;exact h
theorem MS{p:Pl}{x:Bb}{q:P4}{now:Int}(h:(jA p x q now).code=0):∃c F G D,TT p q now (jA p x q now) c F G D:=by
 unfold jA bW at h ⊢;by_cases h1:cT p x q now≠0
 ·rw[if_pos h1]at h;exact absurd h h1
 rw[if_neg h1]at h ⊢;by_cases h3:aS q.src.size q.VF q.data≠0
 ·rw[if_pos h3]at h;exact absurd h h3
 rw[if_neg h3]at h ⊢;by_cases h4:(dO p x (kW (aI q.src q.dst q.VF q.data) q.dst q.data) now).code≠0
 ·rw[if_pos h4]at h;exact absurd h h4
 rw[if_neg h4]at h ⊢;have h1':cT p x q now=0:=Decidable.not_not.1 h1;have h3':aS q.src.size q.VF q.data=0:=Decidable.not_not.1 h3;have h4':=Decidable.not_not.1 h4;obtain⟨k1,k2,k3⟩:=jN h1';obtain⟨hs4,hd4,_,hdt⟩:=iL k2;have hto:=AM hs4 hd4 h3';obtain⟨g1,g2,g3,g4,g5⟩:=mU (gI.1 k1) k3 hto h4';obtain⟨e1,e2,e3,e4,e5⟩:=mM k1 k3 hto h4';obtain⟨z1,z2,z3,z4,z5,z6⟩:=fP (d:=q.dst) h3';have hp4:q.VF=6∨q.VF=17∨q.VF=1:=iC (by have:=jY h3';rw[hs4]at this;exact this);have g4':=g4 rfl;have hpr:=congrArg En.VF g4';have hin:=congrArg En.addr g4';have hpo:=congrArg En.port g4';have hse:=GD (p:=p) (x:=x) (t:=kW (aI q.src q.dst q.VF q.data) q.dst q.data) (now:=now) rfl h4' hpr;have hbk:dA p (dO p x (kW (aI q.src q.dst q.VF q.data) q.dst q.data) now).bib=true:=by rw[mT];exact gI.2 g1
 have f1:=qM hbk g3 g4';have hbo:mW p.VL (dO p x (kW (aI q.src q.dst q.VF q.data) q.dst q.data) now).bind.out=true:=by
  have:=(CM.1 g1.bind).1 _ g3;unfold IW at this;simp only[UB]at this;exact this.1.2
 generalize dO p x (kW (aI q.src q.dst q.VF q.data) q.dst q.data) now=Y at *;have hN:qB q.VF=q.VF:=(lQ hp4).2;have hfc:aZ q.src q.dst q.VF q.data=0:=by
  unfold aZ;rw[if_neg (by omega),if_neg (by rw[gG hs4 hd4];decide)];exact h3'
 unfold kW bO at hpr hin hpo;unfold kW at f1 hse;dsimp only at hpr hin hpo f1 hse;rw[z1,hN]at hpr f1;rw[z2]at hin f1;rw[z1]at hse;have hfo:bM q.src q.dst q.VF q.data=aI q.src q.dst q.VF q.data:=by unfold bM;rw[if_pos hfc]
 have hG:(gX (aI q.src q.dst q.VF q.data) Y.bind.out Y.bind.VI q.dst).VF=q.VF∧(gX (aI q.src q.dst q.VF q.data) Y.bind.out Y.bind.VI q.dst).src=Y.bind.out∧(gX (aI q.src q.dst q.VF q.data) Y.bind.out Y.bind.VI q.dst).dst=q.dst∧(gX (aI q.src q.dst q.VF q.data) Y.bind.out Y.bind.VI q.dst).sp=Y.bind.VI∧(0≤(gX (aI q.src q.dst q.VF q.data) Y.bind.out Y.bind.VI q.dst).dp∧(gX (aI q.src q.dst q.VF q.data) Y.bind.out Y.bind.VI q.dst).dp≤65535)∧(aL q.VF=true→(gX (aI q.src q.dst q.VF q.data) Y.bind.out Y.bind.VI q.dst).sp=(gX (aI q.src q.dst q.VF q.data) Y.bind.out Y.bind.VI q.dst).dp)∧(aL q.VF=false→(gX (aI q.src q.dst q.VF q.data) Y.bind.out Y.bind.VI q.dst).dp=(aI q.src q.dst q.VF q.data).dp):=by
  unfold gX lO;rw[z1];dsimp only;by_cases he:aL q.VF=true
  ·rw[if_pos he,if_neg (by omega)];have:q.VF=1:=by rcases hp4 with h | h | h<;>rw[h]at he<;>first | exact h | exact absurd he (by decide)
   exact⟨this.symm,rfl,rfl,rfl,e2,fun _=>rfl,fun hn=>by rw[he]at hn;exact absurd hn (by decide)⟩
  ·rw[if_neg he];exact⟨rfl,rfl,rfl,rfl,z5,fun hn=>absurd hn he,fun _=>rfl⟩
 generalize hGG:gX (aI q.src q.dst q.VF q.data) Y.bind.out Y.bind.VI q.dst=G at *;obtain⟨a1,a2,a3,a4,a5,a6,a7⟩:=hG;have hgs:G.src.size=4:=by rw[a2];exact e1
 have hgd:G.dst.size=4:=by rw[a3];exact hd4
 have hsp:0≤G.sp∧G.sp≤65535:=by rw[a4];exact e2
 obtain⟨b1,b2,b3,b4,b5⟩:=NM (d:=q.dst) h3' hs4 a1 hgs hsp a5 a6;rw[a2,a3]at b3;have hfc2:aZ Y.bind.out q.dst q.VF (jI (aI q.src q.dst q.VF q.data) G q.data)=0:=by
  unfold aZ;rw[if_neg (by omega),if_neg (by rw[gG e1 hd4];decide),e1];exact b2
 refine⟨Y.bind,aI q.src q.dst q.VF q.data,G,jI (aI q.src q.dst q.VF q.data) G q.data,hfo,⟨z1,z2,z3⟩,z5,rfl,g1,g3,?_,⟨hpr,hin,hpo⟩,⟨e1,e2,e4,hbo⟩,⟨hs4,hd4,hdt⟩,hp4,⟨a1,a2,a3,a4,a5,a6,a7⟩,⟨b2,b3,hfc2,by unfold bM;rw[if_pos hfc2,b3]⟩,?_,b1,b5,fun hz=>?_,hse,k3⟩
 ·unfold kF;rw[if_neg (by omega)];exact(congrArg (fun o=>o.getD lB) f1).trans rfl
 ·exact NX k2 e1 hd4 b1
 ·have:=KS (d:=q.dst) h3' hs4 hd4 (by omega) a1 hgs hgd hsp a5 (fun e=>by obtain⟨i,_,hi⟩:=hz e;exact⟨i,hi⟩);rw[a2,a3]at this;exact this
theorem yJ{p:Pl}{x:Bb}{q:P4}{now:Int}(h:(cJ p x q now).code=0):(cJ p x q now).bib.VN=x.VN:=by
 unfold cJ fE at h ⊢;by_cases h1:cT p x q now≠0
 ·rw[if_pos h1]at h;exact absurd h h1
 rw[if_neg h1]at h ⊢;by_cases h2:mW p.VL q.dst=false
 ·rw[if_pos h2]at h;exact absurd h (by decide)
 rw[if_neg h2]at h ⊢;by_cases h3:aS q.src.size q.VF q.data≠0
 ·rw[if_pos h3]at h;exact absurd h h3
 rw[if_neg h3]at h ⊢;by_cases h4:(dO p x (cE (aI q.src q.dst q.VF q.data) q.data) now).code≠0
 ·rw[if_pos h4]at h;exact absurd h h4
 rw[if_neg h4]at h ⊢;by_cases h5:(dO p x (cE (aI q.src q.dst q.VF q.data) q.data) now).bind.inn.size≠4
 ·rw[if_pos h5]at h;exact absurd h (by decide)
 rw[if_neg h5];have h1':cT p x q now=0:=Decidable.not_not.1 h1;have h3':aS q.src.size q.VF q.data=0:=Decidable.not_not.1 h3;have h4':=Decidable.not_not.1 h4;obtain⟨k1,k2,k3⟩:=jN h1';obtain⟨hs4,hd4,_,_⟩:=iL k2;obtain⟨g1,g2,g3,g4,g5⟩:=mU (gI.1 k1) k3 (pN hs4 hd4 h3') h4';exact(g5 rfl).2
theorem GP{p:Pl}{x:Bb}{q:P4}{now:Int}(h:(cI p x q now).code=0)(hq:q.data.size≤20000) :
  ∃F a o,bM q.src q.dst q.VF q.data=F∧F.VF=q.VF∧F.src=q.src∧F.dst=q.dst∧kF (cD q.VF q.src F.sp) (cI p x q now).bib.VN q.src=a∧kF (cV q.VF q.dst F.dp) (cI p x q now).bib.VN q.dst=o∧a.VF≠0∧(cI p x q now).four.src=a.out∧(cI p x q now).four.dst=o.inn∧fA p (cI p x q now).bib=true:=by
 unfold cI at h ⊢;by_cases h1:cT p x q now≠0
 ·rw[if_pos h1]at h;exact absurd h h1
 rw[if_neg h1]at h ⊢;by_cases h2:q.VF=1
 ·rw[if_pos h2]at h;exact absurd h (by decide)
 rw[if_neg h2]at h ⊢;by_cases h3:(bW p x q now).code≠0
 ·rw[if_pos h3]at h;exact absurd h h3
 rw[if_neg h3]at h ⊢;have e:jA p x q now=bW p x q now:=by unfold jA;rw[if_neg h1]
 have hc:(jA p x q now).code=0:=by rw[e];exact Decidable.not_not.1 h3
 rw[←e]at h ⊢;obtain⟨c,F,G,D,hR⟩:=MS hc;generalize jA p x q now=nv at *;have hf:=hR.four;have hb:=yJ h;obtain⟨c2,D2,m1,m2,m3,m4,m5,m6,m7,m8,m9,m10⟩:=GQ h (by rw[hf];show D.size≤20000;rw[hR.sz];exact hq);generalize cJ p nv.bib nv.four now=y at *;have he:aL q.VF=false:=by
  rcases hR.pr with h|h|h
  ·rw[h];rfl
  ·rw[h];rfl
  ·exact absurd h h2
 refine⟨F,c,c2,hR.fo,hR.fp.1,hR.fp.2.1,hR.fp.2.2,by rw[hb];exact hR.bnd,?_,by rw[hR.cp.1];have:=hR.pr;omega,by rw[m7,hf],by rw[m7],m9⟩;rw[hb];rw[hf]at m5;dsimp only at m5;rw[hR.rd.2.1,hR.g.2.2.2.2.2.2 he]at m5;exact m5
theorem mH(c:Int):(eW c).bib.VN.length≤1048576∧(eW c).bib.VK.length≤1048576:=⟨by simp[eW,bbZ],by simp[eW,bbZ]⟩
theorem MJ{p:Pl}{x:Bb}{q:P4}{now:Int}(hsz:∀s∈p.VL,s.size≤1048576)(h:cT p x q now=0):(bW p x q now).bib.VN.length≤1048576∧(bW p x q now).bib.VK.length≤1048576:=by
 by_cases hc:(bW p x q now).code=0
 ·have:=((zW p x q now hsz).sm h hc).1;exact⟨this.1,this.2.1⟩
 ·unfold bW at hc ⊢;split
  ·exact mH _
  ·rename_i h1;split
   ·exact mH _
   ·rename_i h2;rw[if_neg h1,if_neg h2]at hc;exact absurd rfl hc
theorem wO(p:Pl)(x:Bb)(q:P4)(now:Int)(hsz:∀s∈p.VL,s.size≤1048576):(cJ p x q now).bib.VN.length≤1048576∧(cJ p x q now).bib.VK.length≤1048576:=by
 unfold cJ;split
 ·exact mH _
 ·rename_i h;have h0:cT p x q now=0:=by simpa using h
  obtain⟨h1,h2,h3⟩:=jN h0;obtain⟨s1,s2,s3,s4⟩:=iL h2;unfold fE;split
  ·exact mH _
  ·split
   ·exact mH _
   ·rename_i hc;split
    ·exact mH _
    ·rename_i hn;split
     ·exact mH _
     ·have hc0:aS q.src.size q.VF q.data=0:=by simpa using hc
      have hn0:(dO p x (cE (aI q.src q.dst q.VF q.data) q.data) now).code=0:=by simpa using hn
      have hg:=mU (gI.1 h1) h3 (pN s1 s2 hc0) hn0;have:=tG hg.1 hsz;exact⟨this.1,this.2.1⟩
theorem wM(p:Pl)(x:Bb)(q:P4)(now:Int)(hsz:∀s∈p.VL,s.size≤1048576):(cI p x q now).bib.VN.length≤1048576∧(cI p x q now).bib.VK.length≤1048576:=by
 unfold cI;split
 ·exact mH _
 ·rename_i h;split
  ·exact mH _
  ·split
   ·exact MJ hsz (by simpa using h)
   ·exact wO p _ _ now hsz
end Go.Proofs.YtdkepkaflielhaaGreatDoor
