import Derived.Test.YtdkepkaflielhaaGreatDoorMerged32
set_option linter.unusedVariables false
set_option linter.unusedSimpArgs false
set_option maxRecDepth 100000
set_option maxHeartbeats 8000000
namespace Go.Proofs.YtdkepkaflielhaaGreatDoor
open Go.RowKit Go.PlainAid
theorem LA{a b:Int}(ha:0≤a)(hb:0≤b)(h:gC a b=0):a=0∧b=0:=by unfold gC at h;split at h<;>omega
theorem EW{f:Nat→Int}(hf:oJ f):∀k,gI f k=0→∀j,j < k→aL f (2*j)=0
 | 0,_,j,hj=>by omega
 | k+1,h,j,hj=>by
  have hr:=lF hf k;have hw:=cN hf (2*k);obtain⟨h1,h2⟩:=LA hr.1 hw.1 h;by_cases e:j=k
  ·subst e;exact h2
  ·exact EW hf k h1 j (by omega)
theorem pY{x:BA}{i:Nat}(h:bt x i≠0):bI x≠0:=by
 intro h0;have hi:i < x.size:=by
  by_cases hi:i < x.size
  ·exact hi
  ·exact absurd (by unfold bt;rw[dif_neg hi]) h
 have hz:=EW (bD x) _ h0 (i / 2) (by omega);have hb:=bD x;have b0:=hb (2*(i / 2));have b1:=hb (2*(i / 2)+1);unfold aL at hz;have e:i=2*(i / 2)∨i=2*(i / 2)+1:=by omega
 rcases e with e|e<;>rw[e]at h<;>omega
theorem wU{f g:Nat→Int}{a b c k:Nat}(hab:a≠b)(hac:a≠c)(hbc:b≠c)(ha:a < k)(hb:b < k)(hc:c < k)(h:∀i,i / 2≠a→i / 2≠b→i / 2≠c→f i=g i) :
  ∃z,gI g k=gI f k-aL f (2*a)-aL f (2*b)-aL f (2*c)+aL g (2*a)+aL g (2*b)+aL g (2*c)+65535*z:=by
 obtain⟨z1,e1⟩:=qR (f:=f) (g:=fun i=>if i / 2=a then g i else f i) (j:=a) (fun i hi=>by rw[if_neg (by omega)]) k ha;obtain⟨z2,e2⟩:=qR (f:=fun i=>if i / 2=a then g i else f i) (g:=fun i=>if i / 2=a∨i / 2=b then g i else f i) (j:=b) (fun i hi=>by
  by_cases h1:i / 2=a
  ·rw[if_pos h1,if_pos (.inl h1)]
  ·rw[if_neg h1,if_neg (by omega)]) k hb
 obtain⟨z3,e3⟩:=qR (f:=fun i=>if i / 2=a∨i / 2=b then g i else f i) (g:=g) (j:=c) (fun i hi=>by
  by_cases h1:i / 2=a∨i / 2=b
  ·rw[if_pos h1]
  ·rw[if_neg h1];exact h i (by omega) (by omega) (by omega)) k hc
 have w1:aL (fun i=>if i / 2=a then g i else f i) (2*a)=aL g (2*a):=by
  unfold aL;dsimp only;rw[if_pos (by omega),if_pos (by omega)]
 have w2:aL (fun i=>if i / 2=a then g i else f i) (2*b)=aL f (2*b):=by
  unfold aL;dsimp only;rw[if_neg (by omega),if_neg (by omega)]
 have w3:aL (fun i=>if i / 2=a∨i / 2=b then g i else f i) (2*b)=aL g (2*b):=by
  unfold aL;dsimp only;rw[if_pos (by omega),if_pos (by omega)]
 have w4:aL (fun i=>if i / 2=a∨i / 2=b then g i else f i) (2*c)=aL f (2*c):=by
  unfold aL;dsimp only;rw[if_neg (by omega),if_neg (by omega)]
 rw[w1]at e1;rw[w2,w3]at e2;rw[w4]at e3;exact⟨z1+z2+z3,by omega⟩
theorem ER{t:BA}{k:Nat}{n:Int}(h:k+2≤t.size)(h0:0≤n)(h1:n≤65535):aL (bt (dW t k (aQ n))) k=n:=by
 have q:=FN n h0 h1;unfold aL;rw[kM (by rw[aP];omega),kM (by rw[aP];omega),if_neg (by omega),if_pos (by rw[aP];omega),if_neg (by omega),if_pos (by rw[aP];omega),Nat.sub_self,Nat.add_sub_cancel_left,q.1,q.2];omega
theorem qJ{t:BA}{k:Nat}{n:Int}(h:k+2≤t.size){i:Nat}(hi:i < k∨k+2≤i):bt (dW t k (aQ n)) i=bt t i:=by
 rw[kM (by rw[aP];omega),aP];(repeat' split)<;>first | rfl | (exfalso;omega)
def sP(p:Int):Nat:=if aJ p=true then 2 else 1
theorem DP(p:Int){t:BA}(h:8≤t.size):∃z,bI (aZ p t)=aL (bt t) 0+aL (bt t) (2*sP p)+65535*z:=by
 have hs:=iA p h;have e:bI (aZ p t)=gC (gC 0 (aL (bt (aZ p t)) 0)) (aL (bt (aZ p t)) 2):=by
  unfold bI;rw[hs];rfl
 have hw:=cN (bD t) 0;have e0:aL (bt (aZ p t)) 0=aL (bt t) 0∧aL (bt (aZ p t)) 2=aL (bt t) (2*sP p):=by
  unfold aZ sP aL;by_cases he:aJ p=true
  ·rw[if_pos he,if_pos he];have s1:(t.extract 0 2).size=2:=by rw[UG];omega
   simp only[dR,s1];rw[if_pos (by omega),if_pos (by omega),if_neg (by omega),if_neg (by omega),fA _ _ _ _ (by omega),fA _ _ _ _ (by omega),fA _ _ _ _ (by omega),fA _ _ _ _ (by omega)];simp
  ·rw[if_neg he,if_neg he,fA _ _ _ _ (by omega),fA _ _ _ _ (by omega),fA _ _ _ _ (by omega),fA _ _ _ _ (by omega)];simp
 obtain⟨z1,d1⟩:=lK 0 (aL (bt t) 0);obtain⟨z2,d2⟩:=lK (gC 0 (aL (bt t) 0)) (aL (bt t) (2*sP p));rw[e,e0.1,e0.2];exact⟨z1+z2,by omega⟩
theorem AN(f g:Fl)(t:BA):∃z,cL f g t=aL (bt t) (aY f.UU)+bI (eL f t)-bI (eL g (bJ f g t))+65535*z:=by
 obtain⟨z,e⟩:=qS (aL (bt t) (aY f.UU)) (bI (eL f t)) (bI (eL g (bJ f g t)));have hn:cL f g t=if eA (aL (bt t) (aY f.UU)) (bI (eL f t)) (bI (eL g (bJ f g t)))=0 then 65535 else eA (aL (bt t) (aY f.UU)) (bI (eL f t)) (bI (eL g (bJ f g t))):=rfl;rw[hn];split
 ·exact⟨z+1,by omega⟩
 ·exact⟨z,e⟩
theorem AP(f g:Fl)(t:BA):cL f g t≠0:=by
 have hn:cL f g t=if eA (aL (bt t) (aY f.UU)) (bI (eL f t)) (bI (eL g (bJ f g t)))=0 then 65535 else eA (aL (bt t) (aY f.UU)) (bI (eL f t)) (bI (eL g (bJ f g t))):=rfl;rw[hn];split<;>omega
structure FC(p:Int)(g:Fl)(t u:BA):Prop where
 sz:u.size=t.size
 ec:aJ p=true→bt u 0=bt t 0∧bt u 1=bt t 1∧aL (bt u) 4=g.sp
 no:aJ p=false→aL (bt u) 0=g.sp∧aL (bt u) 2=g.dp
 ot:∀i,i / 2≠0→i / 2≠sP p→bt u i=bt t i
theorem KL{f g:Fl}{t:BA}(h8:8≤t.size)(hp:g.UU=f.UU)(h1:0≤g.sp∧g.sp≤65535)(h2:0≤g.dp∧g.dp≤65535):FC f.UU g t (bJ f g t):=by
 have hsz:=kF (f:=f) (g:=g) h8;unfold bJ at hsz ⊢;by_cases he:aJ f.UU=true
 ·rw[if_pos he]at hsz ⊢;have hfv:lI f g t=bt t 0:=by unfold lI;rw[if_neg (by rw[hp];simp)]
  have hb:=bD t 0;have s1:(dW t 0 (lL (lI f g t))).size=t.size:=eQ (by rw[lE];omega);have o1:∀i,bt (dW t 0 (lL (lI f g t))) i=bt t i:=fun i=>by
   rw[kM (by rw[lE];omega),lE,if_neg (by omega)];by_cases hi:i < 0+1
   ·rw[if_pos hi];have e:i=0:=by omega
    subst e;rw[hfv];show bt (lL (bt t 0)) 0=bt t 0;unfold bt;rw[dif_pos (by rw[lE];omega)];exact fI _ hb.1 hb.2
   ·rw[if_neg hi]
  refine⟨hsz,fun _=>⟨?_,?_,ER (by omega) h1.1 h1.2⟩,fun h=>by rw[he]at h;exact absurd h (by decide),fun i i0 i1=>?_⟩
  ·rw[qJ (by omega) (.inl (by omega)),o1]
  ·rw[qJ (by omega) (.inl (by omega)),o1]
  ·unfold sP at i1;rw[if_pos he]at i1;rw[qJ (by omega) (by omega),o1]
 ·rw[if_neg he]at hsz ⊢;have q1:=FN g.sp h1.1 h1.2;have q2:=FN g.dp h2.1 h2.2;have s4:(aQ g.sp++aQ g.dp).size=4:=by rw[UF,aP,aP]
  refine⟨hsz,fun h=>absurd h he,fun _=>⟨?_,?_⟩,fun i i0 i1=>?_⟩
  ·unfold aL;rw[kM (by omega),kM (by omega),s4,if_neg (by omega),if_pos (by omega),if_neg (by omega),if_pos (by omega),dR,dR,aP,if_pos (by omega),if_pos (by omega),Nat.sub_zero,Nat.sub_zero,q1.1,q1.2];omega
  ·unfold aL;rw[kM (by omega),kM (by omega),s4,if_neg (by omega),if_pos (by omega),if_neg (by omega),if_pos (by omega),dR,dR,aP,if_neg (by omega),if_neg (by omega),show 2-0-2=0 from rfl,show 2+1-0-2=1 from rfl,q2.1,q2.2];omega
  ·unfold sP at i1;rw[if_neg he]at i1;rw[kM (by omega),s4,if_neg (by omega),if_neg (by omega)]
theorem CG{p:Int}(h:p=6∨p=17∨p=1):∃c,aY p=2*c∧c≠0∧c≠sP p∧(p=6→c=8)∧(p≠6→c≤3):=by
 rcases h with rfl|rfl|rfl
 ·exact⟨8,rfl,by decide,by decide,fun _=>rfl,fun h=>absurd rfl h⟩
 ·exact⟨3,rfl,by decide,by decide,fun h=>absurd h (by decide),fun _=>by omega⟩
 ·exact⟨1,rfl,by decide,by decide,fun h=>absurd h (by decide),fun _=>by omega⟩
structure SG(s d:BA)(p:Int)(g:Fl)(t u:BA):Prop where
 out:FC p g t u∨(aL (bt u) (aY p)=cL (aR s d p t) g t∧∃v,FC p g t v∧v=bJ (aR s d p t) g t∧u.size=v.size∧∀i,(i < aY p∨aY p+2≤i)→bt u i=bt v i)
 bare:eF (aR s d p t) t=true→u=bJ (aR s d p t) g t∧FC p g t u
 full:eF (aR s d p t) t=false→aL (bt u) (aY p)=cL (aR s d p t) g t∧∃v,FC p g t v∧v=bJ (aR s d p t) g t∧u.size=v.size∧∀i,(i < aY p∨aY p+2≤i)→bt u i=bt v i
theorem NE{s d:BA}{p:Int}{t:BA}{g:Fl}(h:aU s.size p t=0)(hs:s.size=4)(hp:g.UU=p)(gs:g.src.size=4)(h1:0≤g.sp∧g.sp≤65535)(h2:0≤g.dp∧g.dp≤65535):SG s d p g t (jN (aR s d p t) g t):=by
 obtain⟨z1,z2,z3,-⟩:=gN (d:=d) h;obtain⟨h8,h20⟩:=gR h;have hp4:=iO (hs ▸ kQ h);have ho:=KL (f:=aR s d p t) (g:=g) h8 (hp.trans z1.symm) h1 h2;have hco:aY p+2≤t.size:=by
  rcases hp4 with h|h|h
  ·have:=h20 h;rw[h];show 16+2≤_;omega
  ·rw[h];show 6+2≤_;omega
  ·rw[h];show 2+2≤_;omega
 rw[z1]at ho;have hnr:=pR (aR s d p t) g t;have hfull:eF (aR s d p t) t=false→aL (bt (jN (aR s d p t) g t)) (aY p)=cL (aR s d p t) g t∧∃v,FC p g t v∧v=bJ (aR s d p t) g t∧(jN (aR s d p t) g t).size=v.size∧∀i,(i < aY p∨aY p+2≤i)→bt (jN (aR s d p t) g t) i=bt v i:=fun hb=>by
  unfold jN;rw[if_neg (by rw[hb];decide),z1];exact⟨ER (by rw[ho.sz];exact hco) hnr.1 hnr.2,_,ho,rfl,eQ (by rw[ho.sz,aP];exact hco),fun i hi=>qJ (by rw[ho.sz];exact hco) hi⟩
 have hbare:eF (aR s d p t) t=true→jN (aR s d p t) g t=bJ (aR s d p t) g t∧FC p g t (jN (aR s d p t) g t):=fun hb=>by
  have e:jN (aR s d p t) g t=bJ (aR s d p t) g t:=by
   unfold jN;rw[if_pos hb,if_neg (by omega)]
  exact⟨e,by rw[e];exact ho⟩
 refine⟨?_,hbare,hfull⟩
 cases hb:eF (aR s d p t) t with
 | true=>exact .inl (hbare hb).2
 | false=>exact .inr (hfull hb)
theorem wK{s d:BA}{p:Int}{t:BA}{g:Fl}(h:aU s.size p t=0)(hs:s.size=4)(hp:g.UU=p)(gs:g.src.size=4)(h1:0≤g.sp∧g.sp≤65535)(h2:0≤g.dp∧g.dp≤65535)(he:aJ p=true→g.sp=g.dp) :
  (jN (aR s d p t) g t).size=t.size∧aU 4 p (jN (aR s d p t) g t)=0∧aR g.src g.dst p (jN (aR s d p t) g t)=g∧(p=6→bt (jN (aR s d p t) g t) 13=bt t 13)∧(p=1→∀i,6≤i→bt (jN (aR s d p t) g t) i=bt t i):=by
 obtain⟨h8,h20⟩:=gR h;have hp4:=iO (hs ▸ kQ h);have hR:=NE (d:=d) h hs hp gs h1 h2;generalize jN (aR s d p t) g t=u at *;have hw:u.size=t.size∧(aJ p=true→bt u 0=bt t 0∧bt u 1=bt t 1∧aL (bt u) 4=g.sp)∧(aJ p=false→aL (bt u) 0=g.sp∧aL (bt u) 2=g.dp)∧(p=6→bt u 12=bt t 12∧bt u 13=bt t 13)∧(p=1→∀i,6≤i→bt u i=bt t i):=by
  rcases hR.out with ho|⟨_,v,ho,_,hsz,hot⟩
  ·refine⟨ho.sz,ho.ec,ho.no,fun h6=>⟨ho.ot 12 (by decide) (by rw[h6];decide),ho.ot 13 (by decide) (by rw[h6];decide)⟩,fun h6 i hi=>ho.ot i (by omega) (by rw[h6];show i / 2≠2;omega)⟩
  ·refine⟨hsz.trans ho.sz,fun e=>?_,fun e=>?_,fun h6=>⟨?_,?_⟩,fun h6 i hi=>?_⟩
   ·have e1:aY p=2:=by
     unfold aJ at e;rcases hp4 with h | h | h<;>rw[h]at e ⊢<;>first | rfl | exact absurd e (by decide)
    obtain⟨a,b,c⟩:=ho.ec e;unfold aL at c ⊢;rw[hot 0 (by omega),hot 1 (by omega),hot 4 (by omega),hot 5 (by omega)];exact⟨a,b,c⟩
   ·have e1:4≤aY p:=by
     rcases hp4 with h | h | h<;>rw[h]at e ⊢<;>first | decide | exact absurd e (by decide)
    obtain⟨a,b⟩:=ho.no e;unfold aL at a b ⊢;rw[hot 0 (by omega),hot 1 (by omega),hot 2 (by omega),hot 3 (by omega)];exact⟨a,b⟩
   ·rw[hot 12 (by rw[h6];decide)];exact ho.ot 12 (by decide) (by rw[h6];decide)
   ·rw[hot 13 (by rw[h6];decide)];exact ho.ot 13 (by decide) (by rw[h6];decide)
   ·rw[hot i (by rw[h6];show i < 2∨2+2≤i;omega)];exact ho.ot i (by omega) (by rw[h6];show i / 2≠2;omega)
 obtain⟨w1,w2,w3,w4,w5⟩:=hw;have hc:aU 4 p u=0:=by
  rw[hs]at h;unfold aU at h ⊢;by_cases k1:cB p 4=false
  ·rw[if_pos k1]at h;exact absurd h (by decide)
  rw[if_neg k1]at h ⊢;have e:gA p u=gA p t:=by
   unfold gA;by_cases h6:p=6
   ·rw[(w4 h6).1,w1]
   ·simp[h6,w1]
  rw[e];by_cases k2:gA p t=true
  ·rw[if_pos k2]at h;exact absurd h (by decide)
  rw[if_neg k2]at h ⊢;by_cases k3:aJ p=true
  ·rw[if_pos k3]at h ⊢;rw[(w2 k3).1,(w2 k3).2.1];exact h
  ·rw[if_neg k3]
 refine⟨w1,hc,?_,fun h6=>(w4 h6).2,w5⟩;unfold aR;rw[gs,if_pos hc];by_cases k3:aJ p=true
 ·rw[if_pos k3,(w2 k3).2.2];have:=he k3
  cases g;simp only at this hp;subst this;subst hp;rfl
 ·rw[if_neg k3,(w3 (by simpa using k3)).1,(w3 (by simpa using k3)).2]
  cases g;simp only at hp;subst hp;rfl
theorem lN{s d:BA}{p:Int}{n:Nat}(hs:s.size=4)(hd:d.size=4):(p=1→aO s d p n=⟨#[]⟩)∧(p≠1→(aO s d p n).size=12∧((0≤p∧p≤255)→bt (aO s d p n) 9=p)):=by
 unfold aO;refine⟨fun h=>if_pos ⟨h,hs⟩,fun h=>?_⟩;rw[if_neg (fun hh=>h hh.1),if_pos hs];refine⟨by simp only[UF,mT,aP,hs,hd],fun hp=>?_⟩;have q:=MR 0 p (by decide) hp;simp only[dR,UF,mT,aP,hs,hd];rw[if_pos (by omega),if_neg (by omega)];exact q.2
theorem JD{s d:BA}{p:Int}{n:Nat}{t:BA}(hs:s.size=4)(hd:d.size=4):∃z,bI (aO s d p n++t)=bI (aO s d p n)+bI t+65535*z:=by
 have h:=lN (p:=p) (n:=n) hs hd;by_cases h1:p=1
 ·rw[h.1 h1];exact nX (K:=0) rfl
 ·exact nX (K:=6) ((h.2 h1).1)
theorem yT{s d:BA}{p:Int}{t:BA}{g:Fl}(h:aU s.size p t=0)(hs:s.size=4)(hd:d.size=4)(ht:t.size≤20000)(hp:g.UU=p)(gs:g.src.size=4)(gd:g.dst.size=4)(h1:0≤g.sp∧g.sp≤65535)(h2:0≤g.dp∧g.dp≤65535)(hz:p=1→∃i,bt t i≠0) :
  dJ g.src g.dst p (jN (aR s d p t) g t)=dJ s d p t:=by
 obtain⟨h8,h20⟩:=gR h;obtain⟨z1,z2,z3,-⟩:=gN (d:=d) h;have hp4:=iO (hs ▸ kQ h);have hpb:0≤p∧p≤255:=by omega
 have hR:=NE (d:=d) h hs hp gs h1 h2;have hbd:eF (aR s d p t) t=(decide (p=17)&&decide (aL (bt t) (aY p)=0)):=by unfold eF;rw[z1,z2,hs];simp
 generalize jN (aR s d p t) g t=u at *;have hcin:∀v:BA,v.size=t.size→QH g.src g.dst p v=true∧QH s d p t=true:=fun v hv=>by
  unfold QH;rw[hv,gD gs gd,gD hs hd,hs,hd,gs,gd];have:aM p 0 255=true:=by unfold aM;simp;omega
  rw[this];simp[ht]
 unfold dJ
 cases hb:eF (aR s d p t) t with
 | true=>
  obtain⟨e,ho⟩:=hR.bare hb;rw[hb]at hbd;have hbd':=hbd.symm;simp only[TP,TU]at hbd';obtain⟨b1,b2⟩:=hbd';subst b1;have b2':aL (bt t) 6=0:=b2;have b3:aL (bt u) 6=0:=by
   unfold aL at b2' ⊢;rw[ho.ot 6 (by decide) (by decide),ho.ot 7 (by decide) (by decide)];exact b2'
  rw[(hcin u ho.sz).1,(hcin u ho.sz).2,b3,b2',hs,gs,ho.sz];simp[h8]
 | false=>
  obtain⟨hn,v,ho,ev,hsz,hot⟩:=hR.full hb;have husz:u.size=t.size:=hsz.trans ho.sz;rw[(hcin u husz).1,(hcin u husz).2];have hnp:=AP (aR s d p t) g t;obtain⟨c,c1,c2,c3,c4,c5⟩:=CG hp4;have hck:2*c+2≤t.size:=by
   by_cases h6:p=6
   ·have:=h20 h6;have:=c4 h6;omega
   ·have:=c5 h6;omega
  have hu1:(decide (p=17)&&decide (s.size=4)&&decide (8≤t.size)&&decide (aL (bt t) 6=0))=false:=by
   rw[hb]at hbd;by_cases h17:p=17
   ·subst h17;simp only[decide_true,UE]at hbd;have:aL (bt t) 6≠0:=fun e=>by
     have:decide (aL (bt t) (aY 17)=0)=true:=TT e;rw[this]at hbd;exact absurd hbd (by decide)
    simp[this]
   ·simp[h17]
  have hu2:(decide (p=17)&&decide (g.src.size=4)&&decide (8≤u.size)&&decide (aL (bt u) 6=0))=false:=by
   by_cases h17:p=17
   ·subst h17;have e:aL (bt u) 6=cL (aR s d 17 t) g t:=hn;simp[e,hnp]
   ·simp[h17]
  rw[hu1,hu2,Bool.or_false,Bool.or_false,UE,UE];have hsec:sP p=2∨sP p=1:=by unfold sP;split<;>omega
  obtain⟨y1,d1⟩:=wU (f:=bt t) (g:=bt u) (a:=0) (b:=sP p) (c:=c) (k:=(t.size+1) / 2) (by omega) (by omega) (by omega) (by omega) (by omega) (by omega) (fun i i0 i1 i2=>by
   rw[hot i (by rw[c1];omega),ho.ot i i0 i1])
  obtain⟨y2,d2⟩:=AN (aR s d p t) g t;have p1:eL (aR s d p t) t=aZ p t++aO s d p t.size:=by unfold eL aZ;rw[z1,z2,z3]
  have p2:eL g (bJ (aR s d p t) g t)=aZ p v++aO g.src g.dst p t.size:=by unfold eL aZ;rw[←ev,hp,ho.sz]
  obtain⟨y3,d3⟩:=nX (a:=aZ p t) (b:=aO s d p t.size) (K:=2) (iA _ h8);obtain⟨y4,d4⟩:=nX (a:=aZ p v) (b:=aO g.src g.dst p t.size) (K:=2) (iA _ (by rw[ho.sz];exact h8));obtain⟨y5,d5⟩:=DP p h8;obtain⟨y6,d6⟩:=DP p (t:=v) (by rw[ho.sz];exact h8);obtain⟨y7,d7⟩:=JD (p:=p) (n:=t.size) (t:=t) hs hd;obtain⟨y8,d8⟩:=JD (p:=p) (n:=u.size) (t:=u) gs gd;have v0:aL (bt v) (2*0)=aL (bt u) (2*0):=by
   unfold aL;rw[hot _ (by rw[c1];omega),hot _ (by rw[c1];omega)]
  have v1:aL (bt v) (2*sP p)=aL (bt u) (2*sP p):=by
   unfold aL;rw[hot _ (by rw[c1];omega),hot _ (by rw[c1];omega)]
  rw[p1,p2,d3,d4,d5,d6,z1]at d2;rw[c1]at d2 hn;rw[husz]at d8;have t1:gI (bt t) ((t.size+1) / 2)=bI t:=rfl;have t2:gI (bt u) ((t.size+1) / 2)=bI u:=by unfold bI;rw[husz]
  rw[t1,t2]at d1;have r1:=cV (aO s d p t.size++t);have r2:=cV (aO g.src g.dst p t.size++u);have n1:bI (aO s d p t.size++t)≠0:=by
   by_cases e1:p=1
   ·obtain⟨i,hi⟩:=hz e1;rw[(lN (p:=p) (n:=t.size) hs hd).1 e1];exact pY (i:=i) (by rw[dR,if_neg (by show ¬i < 0;omega)];exact hi)
   ·obtain⟨a,b⟩:=(lN (p:=p) (n:=t.size) hs hd).2 e1;exact pY (i:=9) (by rw[dR,if_pos (by omega),b hpb];omega)
  have n2:bI (aO g.src g.dst p t.size++u)≠0:=by
   by_cases e1:p=1
   ·rw[(lN (p:=p) (n:=t.size) gs gd).1 e1];have hw:aL (bt u) (2*c)≠0:=by rw[hn];exact hnp
    by_cases hb0:bt u (2*c)=0
    ·refine pY (i:=2*c+1) ?_;rw[dR,if_neg (by show ¬2*c+1 < 0;omega)];intro h0;exact hw (by unfold aL;rw[hb0];show 0*256+bt u (2*c+1)=0;rw[show bt u (2*c+1)=0 from h0];rfl)
    ·exact pY (i:=2*c) (by rw[dR,if_neg (by show ¬2*c < 0;omega)];exact hb0)
   ·obtain⟨a,b⟩:=(lN (p:=p) (n:=t.size) gs gd).2 e1;exact pY (i:=9) (by rw[dR,if_pos (by omega),b hpb];omega)
  have hS:xE g.src g.dst p u=bI (aO g.src g.dst p t.size++u):=by unfold xE;rw[husz]
  have hS0:xE s d p t=bI (aO s d p t.size++t):=rfl;rw[hS,hS0];have key:∃z,bI (aO g.src g.dst p t.size++u)=bI (aO s d p t.size++t)+65535*z:=by
   rw[Nat.mul_zero]at d1 v0;rw[v0,v1]at d2;rw[d7,d8,d1,hn,d2];exact⟨y8-y7+y1+y2+y3-y4+y5-y6,by omega⟩
  obtain⟨z,hzz⟩:=key;have:bI (aO g.src g.dst p t.size++u)=bI (aO s d p t.size++t):=by omega
  rw[this]
theorem JZ{p:Pl}{x:Bb}{q:P4}{now:Int}(h:(cX p x q now).code≠0):cX p x q now=gW (cX p x q now).code:=by
 unfold cX dS at h ⊢;by_cases h1:dP p x q now≠0
 ·rw[if_pos h1];rfl
 rw[if_neg h1]at h ⊢;by_cases h3:aU q.src.size q.UU q.data≠0
 ·rw[if_pos h3];rfl
 rw[if_neg h3]at h ⊢;by_cases h4:(gF p x (kV (aR q.src q.dst q.UU q.data) q.dst q.data) now).code≠0
 ·rw[if_pos h4];rfl
 rw[if_neg h4]at h;exact absurd rfl h
theorem yL{p:Pl}{x:Bb}{t:Tc}{c:Bd}{now:Int}(h:(jX p x t c now).code=0)(hp:(jX p x t c now).bind.UU=t.UU):∃s∈(jX p x t c now).bib.UZ,eR (jX p x t c now).bind t.peer t.UV s=true:=by
 unfold jX at h hp ⊢;split at h
 ·exact absurd h (by simp[lB])
 ·rename_i h1;rw[if_neg h1]at hp ⊢;split at h
  ·exact absurd h (by simp[lB])
  ·rename_i h2;rw[if_neg h2]at hp ⊢;by_cases h3:(if t.UY=true then (gG p x.VC t.UU t.addr t.port).2 else 0)≠0
   ·rw[if_pos h3]at h;exact absurd h h3
   ·rw[if_neg h3]at hp ⊢;dsimp only at hp ⊢;refine⟨_,List.mem_append_right _ (List.mem_singleton_self _),?_⟩;unfold eR gY uJ;dsimp only;rw[hp];simp
theorem FY{p:Pl}{x:Bb}{t:Tc}{now:Int}(hi:t.UY=true)(h:(gF p x t now).code=0)(hp:(gF p x t now).bind.UU=t.UU):∃s∈(gF p x t now).bib.UZ,eR (gF p x t now).bind t.peer t.UV s=true:=by
 unfold gF at h hp ⊢
 cases hf:x.VC.find? (if t.UY=true then cD t.UU t.addr t.port else dE t.UU t.addr t.port) with
 | none=>
  rw[hf]at h hp;dsimp only at h hp ⊢;rw[if_pos hi]at h hp ⊢;exact yL h hp
 | some c=>
  rw[hf]at h hp;dsimp only at h hp ⊢
  cases hs:x.UZ.findIdx? (eR c t.peer t.UV) with
  | none=>
   rw[hs]at h hp;dsimp only at h hp ⊢
   cases hg:nB p x t c with
   | true=>rw[hg]at h;exact absurd h (by simp[lB])
   | false=>
    rw[hg]at h hp;simp only[UD,if_false]at h hp ⊢;exact yL h hp
  | some i=>
   dsimp only;obtain⟨hlt,hw,_⟩:=List.findIdx?_eq_some_iff_getElem.1 hs;refine⟨lY p t now x.UZ[i],?_,hw⟩;unfold rP;rw[UJ hlt];dsimp only;exact List.mem_set hlt _
structure SV(p:Pl)(q:P4)(now:Int)(o:No)(c:Bd)(F G:Fl)(D:BA):Prop where
 fo:bK q.src q.dst q.UU q.data=F
 fp:F.UU=q.UU∧F.src=q.src∧F.dst=q.dst
 fd:0≤F.dp∧F.dp≤65535
 four:o.four={ q with src:=c.out,data:=D }
 bib:nN p o.bib
 mem:c∈o.bib.VC
 bnd:vJ (cD q.UU q.src F.sp) o.bib.VC q.src=c
 cp:c.UU=q.UU∧c.inn=q.src∧c.UW=F.sp
 cs:c.out.size=4∧(0≤c.UX∧c.UX≤65535)∧(0≤c.UW∧c.UW≤65535)∧nL p.VA c.out=true
 qs:q.src.size=4∧q.dst.size=4∧q.data.size≤1400
 pr:q.UU=6∨q.UU=17∨q.UU=1
 g:G.UU=q.UU∧G.src=c.out∧G.dst=q.dst∧G.sp=c.UX∧(0≤G.dp∧G.dp≤65535)∧(aJ q.UU=true→G.sp=G.dp)∧(aJ q.UU=false→G.dp=F.dp)
 rd:aU 4 q.UU D=0∧aR c.out q.dst q.UU D=G∧aX c.out q.dst q.UU D=0∧bK c.out q.dst q.UU D=G
 v4:iX o.four=true
 sz:D.size=q.data.size
 tl:q.UU=1→∀i,6≤i→bt D i=bt q.data i
 cr:(q.UU=1→∃i,6≤i∧bt q.data i≠0)→dJ c.out q.dst q.UU D=dJ q.src q.dst q.UU q.data
 se:∃s∈o.bib.UZ,eR c q.dst (eM q.UU F.dp) s=true
 tm:bS now=true
theorem NP{q:P4}{s d t:BA}(h:iX q=true)(hs:s.size=4)(hd:d.size=4)(ht:t.size=q.data.size):iX { q with src:=s,dst:=d,data:=t }=true:=by
 obtain⟨h1,h2,-⟩:=jZ h;unfold iX KT LD QZ at h ⊢;dsimp only;rw[hs,hd,ht];rw[h1,h2]at h;exact h
theorem MK{p:Pl}{x:Bb}{q:P4}{now:Int}(h:(cX p x q now).code=0):∃c F G D,SV p q now (cX p x q now) c F G D:=by
 unfold cX dS at h ⊢;by_cases h1:dP p x q now≠0
 ·rw[if_pos h1]at h;exact absurd h h1
 rw[if_neg h1]at h ⊢;by_cases h3:aU q.src.size q.UU q.data≠0
 ·rw[if_pos h3]at h;exact absurd h h3
 rw[if_neg h3]at h ⊢;by_cases h4:(gF p x (kV (aR q.src q.dst q.UU q.data) q.dst q.data) now).code≠0
 ·rw[if_pos h4]at h;exact absurd h h4
 rw[if_neg h4]at h ⊢;have h1':dP p x q now=0:=Decidable.not_not.1 h1;have h3':aU q.src.size q.UU q.data=0:=Decidable.not_not.1 h3;have h4':=Decidable.not_not.1 h4;obtain⟨k1,k2,k3⟩:=mI h1';obtain⟨hs4,hd4,_,hdt⟩:=jZ k2;have hto:=zW hs4 hd4 h3';obtain⟨g1,g2,g3,g4,g5⟩:=sE (jB.1 k1) k3 hto h4';obtain⟨e1,e2,e3,e4,e5⟩:=nP k1 k3 hto h4';obtain⟨z1,z2,z3,z4,z5,z6⟩:=gN (d:=q.dst) h3';have hp4:q.UU=6∨q.UU=17∨q.UU=1:=iO (by have:=kQ h3';rw[hs4]at this;exact this);have g4':=g4 rfl;have hpr:=congrArg En.UU g4';have hin:=congrArg En.addr g4';have hpo:=congrArg En.port g4';have hse:=FY (p:=p) (x:=x) (t:=kV (aR q.src q.dst q.UU q.data) q.dst q.data) (now:=now) rfl h4' hpr;have hbk:cS p (gF p x (kV (aR q.src q.dst q.UU q.data) q.dst q.data) now).bib=true:=by rw[mN];exact jB.2 g1
 have f1:=qI hbk g3 g4';have hbo:nL p.VA (gF p x (kV (aR q.src q.dst q.UU q.data) q.dst q.data) now).bind.out=true:=by
  have:=(vK.1 g1.bind).1 _ g3;unfold IO at this;simp only[TP]at this;exact this.1.2
 generalize gF p x (kV (aR q.src q.dst q.UU q.data) q.dst q.data) now=Y at *;have hN:pU q.UU=q.UU:=(lM hp4).2;have hfc:aX q.src q.dst q.UU q.data=0:=by
  unfold aX;rw[if_neg (by omega),if_neg (by rw[gD hs4 hd4];decide)];exact h3'
 unfold kV bN at hpr hin hpo;unfold kV at f1 hse;dsimp only at hpr hin hpo f1 hse;rw[z1,hN]at hpr f1;rw[z2]at hin f1;rw[z1]at hse;have hfo:bK q.src q.dst q.UU q.data=aR q.src q.dst q.UU q.data:=by unfold bK;rw[if_pos hfc]
 have hG:(gP (aR q.src q.dst q.UU q.data) Y.bind.out Y.bind.UX q.dst).UU=q.UU∧(gP (aR q.src q.dst q.UU q.data) Y.bind.out Y.bind.UX q.dst).src=Y.bind.out∧(gP (aR q.src q.dst q.UU q.data) Y.bind.out Y.bind.UX q.dst).dst=q.dst∧(gP (aR q.src q.dst q.UU q.data) Y.bind.out Y.bind.UX q.dst).sp=Y.bind.UX∧(0≤(gP (aR q.src q.dst q.UU q.data) Y.bind.out Y.bind.UX q.dst).dp∧(gP (aR q.src q.dst q.UU q.data) Y.bind.out Y.bind.UX q.dst).dp≤65535)∧(aJ q.UU=true→(gP (aR q.src q.dst q.UU q.data) Y.bind.out Y.bind.UX q.dst).sp=(gP (aR q.src q.dst q.UU q.data) Y.bind.out Y.bind.UX q.dst).dp)∧(aJ q.UU=false→(gP (aR q.src q.dst q.UU q.data) Y.bind.out Y.bind.UX q.dst).dp=(aR q.src q.dst q.UU q.data).dp):=by
  unfold gP kW;rw[z1];dsimp only;by_cases he:aJ q.UU=true
  ·rw[if_pos he,if_neg (by omega)];have:q.UU=1:=by rcases hp4 with h | h | h<;>rw[h]at he<;>first | exact h | exact absurd he (by decide)
   exact⟨this.symm,rfl,rfl,rfl,e2,fun _=>rfl,fun hn=>by rw[he]at hn;exact absurd hn (by decide)⟩
  ·rw[if_neg he];exact⟨rfl,rfl,rfl,rfl,z5,fun hn=>absurd hn he,fun _=>rfl⟩
 generalize hGG:gP (aR q.src q.dst q.UU q.data) Y.bind.out Y.bind.UX q.dst=G at *;obtain⟨a1,a2,a3,a4,a5,a6,a7⟩:=hG;have hgs:G.src.size=4:=by rw[a2];exact e1
 have hgd:G.dst.size=4:=by rw[a3];exact hd4
 have hsp:0≤G.sp∧G.sp≤65535:=by rw[a4];exact e2
 obtain⟨b1,b2,b3,b4,b5⟩:=wK (d:=q.dst) h3' hs4 a1 hgs hsp a5 a6;rw[a2,a3]at b3;have hfc2:aX Y.bind.out q.dst q.UU (jN (aR q.src q.dst q.UU q.data) G q.data)=0:=by
  unfold aX;rw[if_neg (by omega),if_neg (by rw[gD e1 hd4];decide),e1];exact b2
 refine⟨Y.bind,aR q.src q.dst q.UU q.data,G,jN (aR q.src q.dst q.UU q.data) G q.data,hfo,⟨z1,z2,z3⟩,z5,rfl,g1,g3,?_,⟨hpr,hin,hpo⟩,⟨e1,e2,e4,hbo⟩,⟨hs4,hd4,hdt⟩,hp4,⟨a1,a2,a3,a4,a5,a6,a7⟩,⟨b2,b3,hfc2,by unfold bK;rw[if_pos hfc2,b3]⟩,?_,b1,b5,fun hz=>?_,hse,k3⟩
 ·unfold vJ;rw[if_neg (by omega)];exact(congrArg (fun o=>o.getD lT) f1).trans rfl
 ·exact NP k2 e1 hd4 b1
 ·have:=yT (d:=q.dst) h3' hs4 hd4 (by omega) a1 hgs hgd hsp a5 (fun e=>by obtain⟨i,_,hi⟩:=hz e;exact⟨i,hi⟩);rw[a2,a3]at this;exact this
theorem BV{p:Pl}{q:P4}{now:Int}{o:No}{c:Bd}{F G:Fl}{D:BA}(hR:SV p q now o c F G D)(hz:q.UU=1→∃i,6≤i∧bt q.data i≠0) :
  ∃B E H,cR G ⟨q.UU,q.dst,c.out,G.dp,c.UX⟩ D=B∧dL G ⟨q.UU,q.dst,c.out,G.dp,c.UX⟩ D=0∧B.size≤1400∧(fB p o.bib ⟨0,0,false,false,0,9,q.UU,q.dst,c.out,⟨#[]⟩,B⟩ now).code=0∧(fB p o.bib ⟨0,0,false,false,0,9,q.UU,q.dst,c.out,⟨#[]⟩,B⟩ now).four=⟨0,0,false,false,0,9,q.UU,q.dst,q.src,⟨#[]⟩,E⟩∧E.size≤1400∧bK q.dst q.src q.UU E=H∧H.dp=F.sp∧dJ q.dst q.src q.UU E=dJ q.dst c.out q.UU B:=by
 obtain⟨q1,q2,q3⟩:=hR.qs;obtain⟨c1,c2,c3,c4⟩:=hR.cs;obtain⟨a1,a2,a3,a4,a5,a6,a7⟩:=hR.g;obtain⟨r1,r2,r3,r4⟩:=hR.rd;have hp4:=hR.pr;have r1':aU c.out.size q.UU D=0:=by rw[c1];exact r1
 have hDs:D.size≤1400:=by rw[hR.sz];exact q3
 have ga:aJ q.UU=true→G.dp=c.UX:=fun e=>by rw[←a6 e];exact a4
 have hfl:cF ⟨q.UU,q.dst,c.out,G.dp,c.UX⟩=true:=by
  unfold cF;dsimp only;rw[gD q2 c1,q2,gK a5.1 a5.2,gK c2.1 c2.2];have:cB q.UU 4=true:=by rcases hp4 with h | h | h<;>rw[h]<;>rfl
  rw[this]
  cases he:aJ q.UU with
  | false=>rfl
  | true=>simp[ga he]
 have hset:=tQ (d:=q.dst) (g:=⟨q.UU,q.dst,c.out,G.dp,c.UX⟩) r1' c1 q2 (by omega) hfl rfl q2;rw[r2]at hset;obtain⟨b1,b2,b3,b4,b5⟩:=wK (d:=q.dst) (g:=⟨q.UU,q.dst,c.out,G.dp,c.UX⟩) r1' c1 rfl q2 a5 c2 ga;rw[r2]at b1 b2 b3 b4 b5;dsimp only at b3;generalize jN G ⟨q.UU,q.dst,c.out,G.dp,c.UX⟩ D=B at *;have hBs:B.size≤1400:=by omega
 have b2':aU q.dst.size q.UU B=0:=by rw[q2];exact b2
 have hk4:iX ⟨0,0,false,false,0,9,q.UU,q.dst,c.out,⟨#[]⟩,B⟩=true:=by
  unfold iX KT LD QZ aM;dsimp only;have hpp:(decide (0≤q.UU)&&decide (q.UU≤255))=true:=by simp;omega
  rw[hpp,q2,c1];have:(ByteArray.mk #[]).size=0:=rfl;rw[this];simp;omega
 have hft:dP p o.bib ⟨0,0,false,false,0,9,q.UU,q.dst,c.out,⟨#[]⟩,B⟩ now=0:=by
  unfold dP;rw[jB.2 hR.bib,hk4,hR.tm];rfl
 have hT:mO ⟨q.UU,q.dst,c.out,G.dp,c.UX⟩ B=⟨q.UU,false,c.out,c.UX,q.dst,eM q.UU F.dp,fN q.UU B⟩:=by
  unfold mO;dsimp only;have:eM q.UU G.dp=eM q.UU F.dp:=by
   unfold eM
   cases he:aJ q.UU with
   | true=>rfl
   | false=>rw[a7 he]
  rw[this]
 have hfind:o.bib.VC.find? (dE q.UU c.out c.UX)=some c:=by have:=MQ hR.bib hR.mem;rw[hR.cp.1]at this;exact this
 obtain⟨s,hs1,hs2⟩:=hR.se;obtain⟨i,hi⟩: ∃i,o.bib.UZ.findIdx? (eR c q.dst (eM q.UU F.dp))=some i:=by
  cases hx:o.bib.UZ.findIdx? (eR c q.dst (eM q.UU F.dp)) with
  | some i=>exact⟨i,rfl⟩
  | none=>exact absurd hs2 (by rw[List.findIdx?_eq_none_iff.1 hx s hs1];decide)
 have hgo:gF p o.bib ⟨q.UU,false,c.out,c.UX,q.dst,eM q.UU F.dp,fN q.UU B⟩ now=⟨⟨o.bib.VC,rP o.bib.UZ i (lY p ⟨q.UU,false,c.out,c.UX,q.dst,eM q.UU F.dp,fN q.UU B⟩ now)⟩,c,0⟩:=by
  unfold gF;dsimp only;rw[if_neg (by decide),hfind];dsimp only;rw[hi]
 have hcin:c.inn.size=4:=by rw[hR.cp.2.1];exact q1
 have hcome:fB p o.bib ⟨0,0,false,false,0,9,q.UU,q.dst,c.out,⟨#[]⟩,B⟩ now=⟨⟨o.bib.VC,rP o.bib.UZ i (lY p ⟨q.UU,false,c.out,c.UX,q.dst,eM q.UU F.dp,fN q.UU B⟩ now)⟩,⟨0,0,false,false,0,9,q.UU,q.dst,c.inn,⟨#[]⟩,jN ⟨q.UU,q.dst,c.out,G.dp,c.UX⟩ (BJ ⟨q.UU,q.dst,c.out,G.dp,c.UX⟩ q.dst c.inn c.UW) B⟩,gZ,0⟩:=by
  unfold fB;rw[if_neg (by rw[hft];decide)];unfold kD;dsimp only;rw[if_neg (by rw[c4];decide),if_neg (by rw[b2'];decide),b3,hT,hgo];dsimp only;rw[if_neg (by decide),if_neg (by omega)]
 have hH:(BJ ⟨q.UU,q.dst,c.out,G.dp,c.UX⟩ q.dst c.inn c.UW).UU=q.UU∧(BJ ⟨q.UU,q.dst,c.out,G.dp,c.UX⟩ q.dst c.inn c.UW).src=q.dst∧(BJ ⟨q.UU,q.dst,c.out,G.dp,c.UX⟩ q.dst c.inn c.UW).dst=c.inn∧(0≤(BJ ⟨q.UU,q.dst,c.out,G.dp,c.UX⟩ q.dst c.inn c.UW).sp∧(BJ ⟨q.UU,q.dst,c.out,G.dp,c.UX⟩ q.dst c.inn c.UW).sp≤65535)∧(BJ ⟨q.UU,q.dst,c.out,G.dp,c.UX⟩ q.dst c.inn c.UW).dp=c.UW∧(aJ q.UU=true→(BJ ⟨q.UU,q.dst,c.out,G.dp,c.UX⟩ q.dst c.inn c.UW).sp=(BJ ⟨q.UU,q.dst,c.out,G.dp,c.UX⟩ q.dst c.inn c.UW).dp):=by
  by_cases he:aJ q.UU=true
  ·have:q.UU=1:=by rcases hp4 with h | h | h<;>rw[h]at he<;>first | exact h | exact absurd he (by decide)
   have e:BJ ⟨q.UU,q.dst,c.out,G.dp,c.UX⟩ q.dst c.inn c.UW=⟨1,q.dst,c.inn,c.UW,c.UW⟩:=by unfold BJ kW;simp[he,q2]
   rw[e];exact⟨this.symm,rfl,rfl,c3,rfl,fun _=>rfl⟩
  ·have e:BJ ⟨q.UU,q.dst,c.out,G.dp,c.UX⟩ q.dst c.inn c.UW=⟨q.UU,q.dst,c.inn,G.dp,c.UW⟩:=by unfold BJ kW;simp[he]
   rw[e];exact⟨rfl,rfl,rfl,a5,rfl,fun hn=>absurd hn he⟩
 generalize BJ ⟨q.UU,q.dst,c.out,G.dp,c.UX⟩ q.dst c.inn c.UW=H at *;obtain⟨d1,d2,d3,d4,d5,d6⟩:=hH;have hHs:H.src.size=4:=by rw[d2];exact q2
 have hHd:H.dst.size=4:=by rw[d3];exact hcin
 have d5':0≤H.dp∧H.dp≤65535:=by rw[d5];exact c3
 obtain⟨k1,k2,k3,k4,k5⟩:=wK (d:=c.out) (g:=H) b2' q2 d1 hHs d4 d5' d6;have hcr:=yT (d:=c.out) (g:=H) b2' q2 c1 (by omega) d1 hHs hHd d4 d5' (fun e=>by
  obtain⟨i,h6,hi⟩:=hz e;exact⟨i,by rw[b5 e i h6,hR.tl e i h6];exact hi⟩)
 rw[b3]at k1 k2 k3 k4 k5 hcr;rw[d2,d3,hR.cp.2.1]at k3 hcr;rw[hR.cp.2.1]at hcome;generalize jN ⟨q.UU,q.dst,c.out,G.dp,c.UX⟩ H B=E at *;refine⟨B,E,H,hset.1,hset.2,hBs,by rw[hcome],by rw[hcome],by omega,?_,by rw[d5];exact hR.cp.2.2,hcr⟩;have hfc3:aX q.dst q.src q.UU E=0:=by
  unfold aX;rw[if_neg (by omega),if_neg (by rw[gD q2 q1];decide),q2];exact k2
 unfold bK;rw[if_pos hfc3];exact k3
theorem AQ(c:Int):(gW c).bib.VC.length≤1048576∧(gW c).bib.UZ.length≤1048576:=⟨by simp[gW,NR],by simp[gW,NR]⟩
theorem MC{p:Pl}{x:Bb}{q:P4}{now:Int}(hsz:∀s∈p.VA,s.size≤1048576)(h:dP p x q now=0):(dS p x q now).bib.VC.length≤1048576∧(dS p x q now).bib.UZ.length≤1048576:=by
 by_cases hc:(dS p x q now).code=0
 ·have:=((NZ p x q now hsz).sm h hc).1;exact⟨this.1,this.2.1⟩
 ·unfold dS at hc ⊢;split
  ·exact AQ _
  ·rename_i h1;split
   ·exact AQ _
   ·rename_i h2;rw[if_neg h1,if_neg h2]at hc;exact absurd rfl hc
theorem AU(p:Pl)(x:Bb)(q:P4)(now:Int)(hsz:∀s∈p.VA,s.size≤1048576):(cX p x q now).bib.VC.length≤1048576∧(cX p x q now).bib.UZ.length≤1048576:=by
 unfold cX;split
 ·exact AQ _
 ·rename_i h;exact MC hsz (by simpa using h)
theorem vP(a:Int)(b c:BA)(d e f:Int)(W:World):(Instr.field 45 (.agg #[iV a,.string b,.string c,iV d,iV e,iV f]) 0).run Tryz.prog W=.ok (.agg (dA a b c d e).toArray) W:=by
 have h3:((Tryz.prog.fieldsOf 45)[0]?).map (fun f=>(f.type,f.offset))=some (43,0):=by kernel_rfl
 obtain⟨fd,h4,h5⟩:=Option.map_eq_some_iff.1 h3;obtain⟨h6,h7⟩:=Prod.mk.inj h5;unfold Instr.field;simp[go_sem,Tryz.underlying45,h4,h6,h7];rfl
structure tC(w:World)(ks:List (Nat × List Value))(pa:OA)(p:Pl)(ba bo:OA)(x:Bb)(xa xb:OA)(y:Bb)(wx:World):Prop where
 bx:dX w ks wx
 pl:bP bX 1 wx pa p.VA
 bb:dI wx ba bo x
 yy:dI wx xa xb y
theorem tC.kept{w:World}{ks:List (Nat × List Value)}{pa:OA}{p:Pl}{ba bo:OA}{x:Bb}{xa xb:OA}{y:Bb}{wx wy:World}(h:tC w ks pa p ba bo x xa xb y wx)(hb:Below wx.heap.size wx wy):tC w ks pa p ba bo x xa xb y wy:=⟨h.bx.kept hb,h.pl.below hb,h.bb.below hb,h.yy.below hb⟩
theorem tC.push{w:World}{ks:List (Nat × List Value)}{pa:OA}{p:Pl}{ba bo:OA}{x:Bb}{xa xb:OA}{y:Bb}{wx:World}(h:tC w ks pa p ba bo x xa xb y wx)(vs:List Value)(hv:0 < vs.length)(T:TypeId):tC w ((wx.heap.size,vs)::ks) pa p ba bo x xa xb y (wx.alloc (.cells vs.toArray T)) :=
 have hb:Below wx.heap.size wx (wx.alloc (.cells vs.toArray T)):=bR.alloc lR _;⟨h.bx.push vs hv T,h.pl.below hb,h.bb.below hb,h.yy.below hb⟩
abbrev xD(c:Bd):List Value:=(dH c)
abbrev CB(w1:World)(pa:OA)(pc:Nat)(p:Pl)(ba bo:OA)(ca cb:Nat)(x:Bb)(q:P4):List (Nat × List Value):=[(w1.heap.size+1+1,kX q),(w1.heap.size+1,rW ba bo ca cb x),(w1.heap.size,qP pa pc p)]
theorem FS(a:BA)(f:Int)(W:World):(Instr.field 55 (.agg #[.string a,iV f]) 0).run Tryz.prog W=.ok (.string a) W:=by
 have h3:((Tryz.prog.fieldsOf 55)[0]?).map (fun f=>(f.type,f.offset))=some (9,0):=by kernel_rfl
 obtain⟨fd,h4,h5⟩:=Option.map_eq_some_iff.1 h3;obtain⟨h6,h7⟩:=Prod.mk.inj h5;unfold Instr.field;simp[go_sem,Tryz.underlying55,h4,h6,h7];try rfl
end Go.Proofs.YtdkepkaflielhaaGreatDoor
