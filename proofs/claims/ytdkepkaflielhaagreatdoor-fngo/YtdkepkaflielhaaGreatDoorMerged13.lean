import Derived.Test.YtdkepkaflielhaaGreatDoorMerged12
set_option linter.unusedVariables false
set_option linter.unusedSimpArgs false
set_option maxRecDepth 100000
set_option maxHeartbeats 8000000
namespace Go.Proofs.YtdkepkaflielhaaGreatDoor
open Go.RowKit
def pD(s:Ss):Int × List UInt8 × Int × List UInt8 × Int:=(s.UU,s.inn.toList,s.UW,s.peer.toList,s.UV)
theorem KJ(s t:Ss):gS s t=decide (pD s=pD t):=by
 unfold gS pD;rw[Bool.eq_iff_iff];simp[and_assoc]
theorem LP(s:Ss)(ys:List Ss):(ys.any fun t=>gS s t)=decide (pD s∈ys.map pD):=by
 rw[Bool.eq_iff_iff];simp only[List.any_eq_true,TU,List.mem_map,KJ];constructor
 ·rintro⟨t,h1,h2⟩;exact⟨t,h1,h2.symm⟩
 ·rintro⟨t,h1,h2⟩;exact⟨t,h1,h2.symm⟩
theorem CU(c:Bd)(s:Ss):gY c s=decide (rI c=pO s):=by
 unfold gY rI pO;rw[Bool.eq_iff_iff];simp[and_assoc]
theorem zF(c:Bd)(ys:List Ss):(ys.any fun s=>gY c s)=decide (rI c∈ys.map pO):=by
 rw[Bool.eq_iff_iff];simp only[List.any_eq_true,TU,List.mem_map,CU];constructor
 ·rintro⟨t,h1,h2⟩;exact⟨t,h1,h2.symm⟩
 ·rintro⟨t,h1,h2⟩;exact⟨t,h1,h2.symm⟩
def sR(s:Ss):Bool:=decide (s.peer.size=4)&&jS s.UV&&aM s.state 1 7&&(decide (s.UU=6)||decide (s.state=3))&&aM s.untl 0 2000000000
theorem wJ(bs:List Bd)(ys:List Ss)(s:Ss):fV bs ys s=(sR s&&decide (0≤bG (cD s.UU s.inn s.UW) bs)&&!decide (pD s∈ys.map pD)):=by
 unfold fV sR;rw[LP]
theorem tY(s:Ss)(bs:List Bd):decide (0≤bG (cD s.UU s.inn s.UW) bs)=bs.any (cD s.UU s.inn s.UW):=mG _ _
structure nN(p:Pl)(x:Bb):Prop where
 pool:cT p=true
 most:(x.UZ.length:Int)≤p.most
 len:x.VC.length≤60
 bind:∀i (h:i < x.VC.length),cG p (x.VC.take i) x.VC[i]=true
 UZ:∀s∈x.UZ,sR s=true
 has:∀s∈x.UZ,x.VC.any (cD s.UU s.inn s.UW)=true
 nodup:(x.UZ.map pD).Nodup
 all:∀c∈x.VC,rI c∈x.UZ.map pO
theorem vX{α:Type}{xs:List α}:xs.Nodup↔∀i (h:i < xs.length),xs[i] ∉ xs.take i:=by
 rw[List.nodup_iff_pairwise_ne,List.pairwise_iff_getElem];constructor
 ·intro h i hi hm;obtain⟨k,hk,hki,e⟩:=sM hm;exact h k i hk hi hki e
 ·intro h i j hi hj hij e;exact h j hj (e ▸ qE hi hij)
theorem jB{p:Pl}{x:Bb}:fS p x=true↔nN p x:=by
 unfold fS;simp only[TP,TU,List.all_eq_true];constructor
 ·rintro⟨⟨⟨⟨⟨h1,h2⟩,h3⟩,h4⟩,h5⟩,h6⟩;have h5':=gV.1 h5;have key:∀i (h:i < x.UZ.length),sR x.UZ[i]=true∧x.VC.any (cD x.UZ[i].UU x.UZ[i].inn x.UZ[i].UW)=true∧pD x.UZ[i] ∉ (x.UZ.take i).map pD:=by
   intro i hi;have:=h5' i hi;rw[wJ,tY]at this;simp only[TP,Bool.not_eq_true',decide_eq_false_iff_not]at this;exact⟨this.1.1,this.1.2,this.2⟩
  refine⟨h1,h2,h3,gV.1 h4,fun s hs=>?_,fun s hs=>?_,?_,fun c hc=>?_⟩
  ·obtain⟨i,hi,rfl⟩:=UN hs;exact(key i hi).1
  ·obtain⟨i,hi,rfl⟩:=UN hs;exact(key i hi).2.1
  ·rw[vX];intro i hi;rw[List.length_map]at hi;rw[List.getElem_map,←List.map_take];exact(key i hi).2.2
  ·have:=h6 c hc;rw[zF]at this;exact of_decide_eq_true this
 ·rintro⟨h1,h2,h3,h4,h5,h6,h7,h8⟩;refine⟨⟨⟨⟨⟨h1,h2⟩,h3⟩,gV.2 h4⟩,gV.2 fun i hi=>?_⟩,fun c hc=>?_⟩
  ·rw[wJ,tY];simp only[TP,Bool.not_eq_true',decide_eq_false_iff_not];refine⟨⟨h5 _ (TY hi),h6 _ (TY hi)⟩,?_⟩;have:=vX.1 h7 i (by simpa using hi);rwa [List.getElem_map,←List.map_take]at this
  ·rw[zF];exact TT (h8 c hc)
theorem sL{α β:Type}(f:α→β)(xs:List α)(i:Nat)(hi:i < xs.length)(y:α)(h:f y=f xs[i]):(xs.set i y).map f=xs.map f:=by
 rw[List.map_set,h];apply List.ext_getElem
 ·simp
 ·intro k h1 h2;rw[List.getElem_set];split
  ·rename_i e;subst e;simp
  ·rfl
theorem BK{UU st:Int}{ins:Bool}{fl:Int}(hp:eP UU=true)(hs:aM st 1 7=true)(hf:aM fl 0 255=true):aM (aV UU st ins fl) 1 7=true∧(UU=6∨aV UU st ins fl=3):=by
 unfold eP at hp;simp only[UK,TU]at hp;unfold aV;by_cases h:cY UU=true
 ·rw[if_pos h];exact⟨by decide,.inr rfl⟩
 ·rw[if_neg h];have h6:UU=6:=by
   unfold cY at h;simp only[UK,TU,not_or]at h;rcases hp with (h1|h1)|h1
   ·exact h1
   ·exact absurd h1 h.1
   ·exact absurd h1 h.2
  rw[if_pos ⟨h6,hs,hf⟩];refine⟨?_,.inl h6⟩;unfold aM at hs ⊢;simp only[TP,TU]at hs ⊢;(repeat' split)<;>omega
theorem EP{UU:Int}{ins:Bool}{fl:Int}(h0:bB UU ins fl≠0):aM (bB UU ins fl) 1 7=true∧(UU=6∨bB UU ins fl=3):=by
 unfold bB at h0 ⊢;by_cases h1:aM fl 0 255=false
 ·rw[if_pos h1]at h0;exact absurd rfl h0
 rw[if_neg h1]at h0 ⊢;by_cases h2:cY UU=true
 ·rw[if_pos h2];exact⟨by decide,.inr rfl⟩
 rw[if_neg h2]at h0 ⊢;by_cases h3:UU=6∧eH fl 2=true∧eH fl 4=false∧eH fl 16=false
 ·rw[if_pos h3];refine⟨?_,.inl h3.1⟩;split<;>decide
 ·rw[if_neg h3]at h0;exact absurd rfl h0
theorem JE{now lf:Int}(hn:bS now=true)(h0:0≤lf)(h1:lf≤10000):aM (now+lf) 0 2000000000=true:=by
 unfold bS aM at hn;unfold aM;simp only[TP,TU]at hn ⊢;omega
theorem GO{p:Pl}{x:Bb}(h:nN p x){s:Ss}(hs:s∈x.UZ):eP s.UU=true:=by
 obtain⟨c,hc,ho⟩:=List.any_eq_true.1 (h.has s hs);obtain⟨i,hi,rfl⟩:=UN hc;have:=h.bind i hi;unfold cG at this;simp only[TP]at this;unfold cD at ho;simp only[TP,TU]at ho;rw[←ho.1.1];exact this.1.1.1.1.1
theorem vW{p:Pl}{x:Bb}{t:Tc}{now:Int}(h:nN p x)(hn:bS now=true)(ht:bY t=true){i:Nat}(hi:i < x.UZ.length)(hpr:x.UZ[i].UU=t.UU):nN p ⟨x.VC,x.UZ.set i (lY p t now x.UZ[i])⟩:=by
 have hlf:=jO p.lv t.UU (aV t.UU x.UZ[i].state t.UY t.VB);have hk5:(x.UZ.set i (lY p t now x.UZ[i])).map pD=x.UZ.map pD:=sL pD _ i hi _ rfl;have hkS:(x.UZ.set i (lY p t now x.UZ[i])).map pO=x.UZ.map pO:=sL pO _ i hi _ rfl;have hfl:aM t.VB 0 255=true:=by unfold bY at ht;simp only[TP]at ht;exact ht.2
 refine⟨h.pool,by simpa using h.most,h.len,h.bind,fun s hs=>?_,fun s hs=>?_,by rw[hk5];exact h.nodup,fun c hc=>by rw[hkS];exact h.all c hc⟩
 ·rcases List.mem_or_eq_of_mem_set hs with hs | rfl
  ·exact h.UZ s hs
  ·have h1:=h.UZ _ (TY hi);unfold sR at h1 ⊢;simp only[TP,UK,TU]at h1 ⊢;have h2:=BK (ins:=t.UY) (hpr ▸ GO h (TY hi)) h1.1.1.2 hfl;refine⟨⟨⟨h1.1.1.1,h2.1⟩,?_⟩,JE hn hlf.1 hlf.2⟩;rcases h2.2 with e|e
   ·exact .inl (hpr.trans e)
   ·exact .inr e
 ·rcases List.mem_or_eq_of_mem_set hs with hs | rfl
  ·exact h.has s hs
  ·have:=h.has x.UZ[i] (TY hi);exact this
theorem yH{f:Int→Bool}:∀(c:Nat) (lo n:Int),cK f lo c=some n→lo≤n∧n < lo+c∧f n=true
 | 0,lo,n,h=>by simp[cK]at h
 | c+1,lo,n,h=>by
  unfold cK at h;by_cases hf:f lo=true
  ·rw[if_pos hf]at h;injection h with h;subst h;exact⟨by omega,by omega,hf⟩
  ·rw[if_neg hf]at h;have:=yH c (lo+1) n h;exact⟨by omega,by omega,this.2.2⟩
theorem MH{p:Pl}{xs:List Bd}{UU:Int}{out:BA}{port n:Int}(h:jE p xs UU out port=some n):aM n p.low p.high=true∧dN xs UU out n=true:=by
 unfold jE at h;by_cases h1:(aM port p.low p.high&&dN xs UU out port)=true
 ·rw[if_pos h1]at h;injection h with h;subst h
  simp only[TP]at h1;exact h1
 ·rw[if_neg h1]at h;have fin:∀g m,cK g p.low (p.high-p.low+1).toNat=some m→aM m p.low p.high=true∧g m=true:=by
   intro g m hm;have:=yH _ _ _ hm;refine⟨?_,this.2.2⟩;unfold aM;simp only[TP,TU];omega
  cases h2:cK (fun n=>decide (n % 2=port % 2)&&dN xs UU out n) p.low (p.high-p.low+1).toNat with
  | some m=>
   rw[h2]at h;injection h with h;subst h
   have:=fin _ _ h2;simp only[TP]at this;exact⟨this.1,this.2.2⟩
  | none=>
   rw[h2]at h;exact fin _ _ h
theorem GQ{p:Pl}{x:Bb}(h:nN p x)(s:BA):nL p.VA (dQ x.VC (jL p s) s)=true:=by
 unfold dQ
 cases hf:x.VC.find? (cQ s) with
 | some c=>
  obtain⟨i,hi,rfl⟩:=UN (UP hf);have:=h.bind i hi;unfold cG at this;simp only[TP]at this;exact this.1.1.2
 | none=>
  have hp:=h.pool;unfold cT at hp;simp only[TP,TU]at hp;have h1:1≤p.VA.length:=hp.1.1.1.1.1.1.1.1;have hm:(bI s).toNat % p.VA.length < p.VA.length:=Nat.mod_lt _ (by omega);show nL p.VA (jL p s)=true;unfold jL nL;rw[UJ hm,Option.getD_some];exact List.any_eq_true.2 ⟨_,TY hm,by simp⟩
theorem MJ{p:Pl}{x:Bb}{t:Tc}{c:Bd}(h:nN p x)(ht:bY t=true)(hf:x.VC.find? (cD t.UU t.addr t.port)=none)(hl:gG p x.VC t.UU t.addr t.port=(c,0)):cG p x.VC c=true∧c.UU=t.UU∧c.inn=t.addr∧c.UW=t.port:=by
 unfold gG at hl;rw[hf]at hl;dsimp only at hl
 cases hn:jE p x.VC t.UU (dQ x.VC (jL p t.addr) t.addr) t.port with
 | none=>rw[hn]at hl;simp at hl
 | some n=>
  rw[hn]at hl;injection hl with hl _
  subst hl;have hin:=MH hn;have hpo:=GQ h t.addr;unfold bY at ht;simp only[TP]at ht;refine⟨?_,rfl,rfl,rfl⟩;unfold cG;simp only[TP,Bool.not_eq_true'];refine⟨⟨⟨⟨⟨ht.1.1.1.1.1.1,ht.1.1.1.1.1.2⟩,ht.1.1.1.2⟩,hpo⟩,hin.1⟩,?_⟩;rw[List.any_eq_false];intro b hb hcl;unfold eK at hcl;simp only[UK,TP,TU,Bool.not_eq_true',decide_eq_false_iff_not]at hcl;rcases hcl with ⟨e1,e2⟩|⟨e1,⟨e2,e3⟩|⟨e2,e3⟩⟩
  ·
   obtain⟨i,hi,rfl⟩:=UN hb;have hbk:cS p x=true:=by rw[mN];exact jB.2 h
   unfold cS at hbk;simp only[TP]at hbk;have hfi:=gV.1 hbk.1.2 i hi;unfold lU at hfi;simp only[TP,TU]at hfi;have h8:=hfi.1.2;rw[vY e1]at h8;have hsm:(x.VC.find? (cQ t.addr)).isSome=true:=by
    rw[iU];exact List.any_eq_true.2 ⟨_,hb,by unfold cQ;exact TT e1⟩
   rw[←vZ (d:=jL p t.addr) hsm]at h8;exact e2 h8.symm
  ·exact List.find?_eq_none.1 hf b hb (by unfold cD;simp[e1,e2,e3])
  ·have hfr:=hin.2;rw[CS]at hfr;simp only[Bool.not_eq_true']at hfr;exact List.any_eq_false.1 hfr b hb (by unfold dE;simp[e1,e2,e3])
theorem IA{p:Pl}{x:Bb}{s:Ss}{ys:List Bd}{c:Bd}(h:nN p x)(hm:(x.UZ.length:Int) < p.most)(hys:ys=x.VC∨(ys=x.VC++[c]∧cG p x.VC c=true))(hc:c∈ys)(hk:rI c=pO s)(hv:sR s=true)(hn:pD s ∉ x.UZ.map pD):nN p ⟨ys,x.UZ++[s]⟩:=by
 have hpm:=yQ h.pool;have hbl:x.VC.length≤x.UZ.length:=CE h.bind (fun c hc=>by rw[zF];exact TT (h.all c hc));have hsub:∀b,b∈x.VC→b∈ys:=by
  intro b hb;rcases hys with e|⟨e,_⟩<;>rw[e]
  ·exact hb
  ·exact List.mem_append_left _ hb
 have hcs:cD s.UU s.inn s.UW c=true:=by
  unfold rI pO at hk;simp only[Prod.mk.injEq]at hk;unfold cD;simp[hk.1,hk.2.1,hk.2.2]
 refine⟨h.pool,by simp;omega,?_,?_,fun q hq=>?_,fun q hq=>?_,?_,fun b hb=>?_⟩
 ·rcases hys with e | ⟨e,_⟩<;>rw[e]
  ·exact h.len
  ·simp;omega
 ·intro i hi;rcases hys with e|⟨e,h1⟩
  ·subst e;exact h.bind i hi
  ·subst e;dsimp only at hi ⊢;by_cases hlt:i < x.VC.length
   ·rw[List.getElem_append_left hlt,List.take_append_of_le_length (Nat.le_of_lt hlt)];exact h.bind i hlt
   ·have hie:i=x.VC.length:=by simp at hi;omega
    subst hie;simpa using h1
 ·rcases List.mem_append.1 hq with hq | hq
  ·exact h.UZ q hq
  ·simp at hq;subst hq;exact hv
 ·rcases List.mem_append.1 hq with hq | hq
  ·obtain⟨b,hb,ho⟩:=List.any_eq_true.1 (h.has q hq);exact List.any_eq_true.2 ⟨b,hsub b hb,ho⟩
  ·simp at hq;subst hq;exact List.any_eq_true.2 ⟨c,hc,hcs⟩
 ·rw[List.map_append,List.nodup_append];refine⟨h.nodup,by simp,?_⟩;intro a ha b hb;simp at hb;subst hb;exact fun e=>hn (e ▸ ha)
 ·rw[List.map_append];rcases hys with e|⟨e,_⟩
  ·subst e;exact List.mem_append_left _ (h.all b hb)
  ·subst e;rcases List.mem_append.1 hb with hb|hb
   ·exact List.mem_append_left _ (h.all b hb)
   ·simp at hb;subst hb;exact List.mem_append_right _ (by simp[hk])
theorem JY{c:Bd}{t:Tc}{q s:Ss}(hs:pD s=pD q)(hk:rI c=pO s)(hp:s.peer=t.peer)(hpp:s.UV=t.UV):eR c t.peer t.UV q=true:=by
 unfold eR;rw[CU];unfold pD at hs;unfold rI pO at hk;unfold rI pO;simp only[Prod.mk.injEq]at hs hk ⊢;simp only[TP,TU];exact⟨⟨⟨hk.1.trans hs.1,hk.2.1.trans hs.2.1,hk.2.2.trans hs.2.2.1⟩,by rw[←hp];exact hs.2.2.2.1.symm⟩,by rw[←hpp];exact hs.2.2.2.2.symm⟩
theorem yM{p:Pl}{x:Bb}{t:Tc}{c:Bd}{now:Int}(h:nN p x)(hn:bS now=true)(ht:bY t=true)(hst:bB t.UU t.UY t.VB≠0)(hm:(x.UZ.length:Int) < p.most)(hcp:c.UU=t.UU)
  (hb:(nU x.VC c=x.VC∧c∈x.VC)∨(nU x.VC c=x.VC++[c]∧cG p x.VC c=true)) (hno:∀q∈x.UZ,eR c t.peer t.UV q=false) :
  nN p ⟨nU x.VC c,x.UZ++[uJ p t c (bB t.UU t.UY t.VB) now]⟩:=by
 have hlf:=jO p.lv t.UU (bB t.UU t.UY t.VB);have hkk:rI c=pO (uJ p t c (bB t.UU t.UY t.VB) now):=by
  unfold rI pO uJ;rw[hcp]
 have htw:=ht;unfold bY at htw;simp only[TP,TU]at htw;refine IA (c:=c) h hm ?_ ?_ hkk ?_ ?_
 ·rcases hb with ⟨e,_⟩ | ⟨e,h1⟩
  ·exact .inl e
  ·exact .inr ⟨e,h1⟩
 ·rcases hb with ⟨e,h1⟩ | ⟨e,_⟩<;>rw[e]
  ·exact h1
  ·simp
 ·have h2:=EP hst;unfold sR uJ;simp only[TP,UK,TU];exact⟨⟨⟨⟨htw.1.1.2,htw.1.2⟩,h2.1⟩,h2.2⟩,JE hn hlf.1 hlf.2⟩
 ·intro hm;obtain⟨q,hq,e⟩:=List.mem_map.1 hm;have:=JY (c:=c) (t:=t) e.symm hkk rfl rfl;rw[hno q hq]at this;exact absurd this (by decide)
def NT(p:Pl)(x:Bb)(t:Tc)(c:Bd)(o:Bo):Prop:=nN p o.bib∧(∃k,o.bib.VC=x.VC∨(t.UY=true∧o.bib.VC=x.VC++[k]))∧o.bind∈o.bib.VC∧(t.UY=true→bN o.bind=⟨t.UU,t.addr,t.port⟩)∧(t.UY=false→o.bind=c∧o.bib.VC=x.VC)
def PT(p:Pl)(x:Bb)(t:Tc)(o:Bo):Prop:=nN p o.bib∧(∃k,o.bib.VC=x.VC∨(t.UY=true∧o.bib.VC=x.VC++[k]))∧o.bind∈o.bib.VC∧(t.UY=true→bN o.bind=⟨t.UU,t.addr,t.port⟩)∧(t.UY=false→x.VC.find? (dE t.UU t.addr t.port)=some o.bind∧o.bib.VC=x.VC)
theorem rM{p:Pl}{x:Bb}{t:Tc}{c:Bd}{now:Int}(h:nN p x)(hn:bS now=true)(ht:bY t=true)(hin:t.UY=false→c∈x.VC∧c.UU=t.UU)(hno:∀d,(t.UY=true→bN d=⟨t.UU,t.addr,t.port⟩)→(t.UY=false→d=c)→∀q∈x.UZ,eR d t.peer t.UV q=false)(hc:(jX p x t c now).code=0) :
  NT p x t c (jX p x t c now):=by
 have hbk:cS p x=true:=by rw[mN];exact jB.2 h
 unfold jX at hc ⊢;by_cases h1:bB t.UU t.UY t.VB=0
 ·rw[if_pos h1]at hc;simp[lB]at hc
 rw[if_neg h1]at hc ⊢;by_cases h2:p.most≤(x.UZ.length:Int)
 ·rw[if_pos h2]at hc;simp[lB]at hc
 rw[if_neg h2]at hc ⊢;have hm:(x.UZ.length:Int) < p.most:=by omega
 cases hi:t.UY with
 | false=>
  rw[hi]at hc;simp only[UD,if_false,ne_eq,not_true_eq_false]at hc ⊢;obtain⟨hc1,hc2⟩:=hin hi;have hnb:nU x.VC c=x.VC:=by
   unfold nU;have hf:=qI hbk hc1 (h:=bN c) rfl;rw[if_neg (fun hh=>by rw[nR]at hh;rw[show cD c.UU c.inn c.UW=cD (bN c).UU (bN c).addr (bN c).port from rfl,hf]at hh;simp at hh)]
  have:=yM (c:=c) (now:=now) h hn ht h1 hm hc2 (.inl ⟨hnb,hc1⟩) (hno c (fun e=>by rw[hi]at e;cases e) (fun _=>rfl));rw[hi]at this;refine⟨this,⟨c,.inl hnb⟩,by show c∈nU x.VC c;rw[hnb];exact hc1,fun e=>(by rw[hi]at e;cases e),fun _=>⟨rfl,hnb⟩⟩
 | true=>
  rw[hi]at hc;simp only[if_true]at hc ⊢;generalize hlv:gG p x.VC t.UU t.addr t.port=lv at *;obtain⟨d,k⟩:=lv;dsimp only at hc ⊢;by_cases hk:k≠0
  ·rw[if_pos hk]at hc;simp[lB]at hc;exact absurd hc hk
  rw[if_neg hk];have hk0:k=0:=by omega
  subst hk0;have main:((nU x.VC d=x.VC∧d∈x.VC)∨(nU x.VC d=x.VC++[d]∧cG p x.VC d=true))∧bN d=⟨t.UU,t.addr,t.port⟩:=by
   cases hf:x.VC.find? (cD t.UU t.addr t.port) with
   | some e=>
    unfold gG at hlv;rw[hf]at hlv;injection hlv with hlv _
    subst hlv;have he:bN e=⟨t.UU,t.addr,t.port⟩:=(iD (h:=⟨t.UU,t.addr,t.port⟩)).1 (UT hf);refine⟨.inl ⟨?_,UP hf⟩,he⟩;unfold nU;rw[if_neg (fun hh=>by rw[nR,show cD e.UU e.inn e.UW=cD (bN e).UU (bN e).addr (bN e).port from rfl,he,hf]at hh;simp at hh)]
   | none=>
    obtain⟨g1,g2,g3,g4⟩:=MJ h ht hf hlv;have he:bN d=⟨t.UU,t.addr,t.port⟩:=by unfold bN;rw[g2,g3,g4]
    refine⟨.inr ⟨?_,g1⟩,he⟩;unfold nU;rw[if_pos (by rw[nR,g2,g3,g4,hf];rfl)]
  obtain⟨hb,he⟩:=main;have hdp:d.UU=t.UU:=congrArg En.UU he;have:=yM (c:=d) (now:=now) h hn ht h1 hm hdp hb (hno d (fun _=>he) (fun e=>by rw[hi]at e;cases e));rw[hi]at this;refine⟨this,⟨d,?_⟩,?_,fun _=>he,fun e=>(by rw[hi]at e;cases e)⟩
  ·rcases hb with ⟨e,_⟩ | ⟨e,_⟩
   ·exact .inl e
   ·exact .inr ⟨hi,e⟩
  ·show d∈nU x.VC d;rcases hb with ⟨e,h1⟩|⟨e,_⟩<;>rw[e]
   ·exact h1
   ·simp
theorem sE{p:Pl}{x:Bb}{t:Tc}{now:Int}(h:nN p x)(hn:bS now=true)(ht:bY t=true)(hc:(gF p x t now).code=0) :
  PT p x t (gF p x t now):=by
 have hbk:cS p x=true:=by rw[mN];exact jB.2 h
 unfold gF at hc ⊢
 cases hi:t.UY with
 | true=>
  rw[hi]at hc;simp only[if_true]at hc ⊢
  cases hf:x.VC.find? (cD t.UU t.addr t.port) with
  | none=>
   rw[hf]at hc;dsimp only at hc ⊢;have:=rM (c:=lT) (now:=now) h hn ht (fun e=>by rw[hi]at e;cases e) (fun d hd _ q hq=>by
    have hd:=hd hi
    cases hw:eR d t.peer t.UV q with
    | false=>rfl
    | true=>
     unfold eR at hw;simp only[TP]at hw;have h1:gT q=bN d:=(pW _ _).1 (by rw[sS];exact hw.1.1);obtain⟨b,hb,ho⟩:=List.any_eq_true.1 (h.has q hq);have h2:bN b=gT q:=(iD (h:=gT q)).1 ho;exact absurd ((iD (h:=⟨t.UU,t.addr,t.port⟩)).2 (h2.trans (h1.trans hd))) (List.find?_eq_none.1 hf b hb)) hc
   obtain⟨a1,a2,a3,a4,a5⟩:=this;exact⟨a1,a2,a3,a4,fun e=>(by rw[hi]at e;cases e)⟩
  | some c=>
   rw[hf]at hc;dsimp only at hc ⊢;have hcm:=UP hf;have he:bN c=⟨t.UU,t.addr,t.port⟩:=(iD (h:=⟨t.UU,t.addr,t.port⟩)).1 (UT hf)
   cases hx:x.UZ.findIdx? (eR c t.peer t.UV) with
   | none=>
    rw[hx]at hc;dsimp only at hc ⊢;have hg:¬nB p x t c=true:=by unfold nB;rw[hi];simp
    rw[if_neg hg]at hc ⊢;have hne:=List.findIdx?_eq_none_iff.1 hx;have:=rM (c:=c) (now:=now) h hn ht (fun e=>by rw[hi]at e;cases e) (fun d hd _ q hq=>by
     have hd:=hd hi;have:=hne q hq;rw[qT (h:=bN c) rfl]at this;rw[qT (h:=bN c) (hd.trans he.symm)];exact this) hc
    obtain⟨a1,a2,a3,a4,a5⟩:=this;exact⟨a1,a2,a3,a4,fun e=>(by rw[hi]at e;cases e)⟩
   | some i=>
    dsimp only;obtain⟨hlt,hfd⟩:=pM hx;have hpr:x.UZ[i].UU=t.UU:=by
     have hw:=UT hfd;unfold eR gY at hw;simp only[TP,TU]at hw;rw[←hw.1.1.1.1];exact congrArg En.UU he
    have hs:rP x.UZ i (lY p t now)=x.UZ.set i (lY p t now x.UZ[i]):=by unfold rP;rw[UJ hlt]
    rw[hs];exact⟨vW h hn ht hlt hpr,⟨c,.inl rfl⟩,hcm,fun _=>he,fun e=>(by rw[hi]at e;cases e)⟩
 | false=>
  rw[hi]at hc;simp only[UD,if_false]at hc ⊢
  cases hf:x.VC.find? (dE t.UU t.addr t.port) with
  | none=>rw[hf]at hc;simp[lB]at hc
  | some c=>
   rw[hf]at hc;dsimp only at hc ⊢;have hcm:=UP hf;have hcp:c.UU=t.UU:=by
    have:=UT hf;unfold dE at this;simp only[TP,TU]at this;exact this.1.1
   cases hx:x.UZ.findIdx? (eR c t.peer t.UV) with
   | none=>
    rw[hx]at hc;dsimp only at hc ⊢;by_cases hg:nB p x t c=true
    ·rw[if_pos hg]at hc;simp[lB]at hc
    rw[if_neg hg]at hc ⊢;have hne:=List.findIdx?_eq_none_iff.1 hx;have:=rM (c:=c) (now:=now) h hn ht (fun _=>⟨hcm,hcp⟩) (fun d _ hd q hq=>by
     have:=hd hi;subst this;have:=hne q hq;simpa using this) hc
    obtain⟨a1,a2,a3,a4,a5⟩:=this;have a6:=a5 hi;exact⟨a1,a2,a3,fun e=>(by rw[hi]at e;cases e),fun _=>⟨by rw[a6.1];exact hf,a6.2⟩⟩
   | some i=>
    dsimp only;obtain⟨hlt,hfd⟩:=pM hx;have hpr:x.UZ[i].UU=t.UU:=by
     have hw:=UT hfd;unfold eR gY at hw;simp only[TP,TU]at hw;rw[←hw.1.1.1.1];exact hcp
    have hs:rP x.UZ i (lY p t now)=x.UZ.set i (lY p t now x.UZ[i]):=by unfold rP;rw[UJ hlt]
    rw[hs];exact⟨vW h hn ht hlt hpr,⟨c,.inl rfl⟩,hcm,fun e=>(by rw[hi]at e;cases e),fun _=>⟨hf,rfl⟩⟩
theorem MN(xs:List Bd)(c:Bd):(nU xs c).length≤xs.length+1:=by
 unfold nU;split
 ·simp
 ·omega
theorem ND(xs:List Ss)(i:Nat)(f:Ss→Ss):(rP xs i f).length=xs.length:=by
 unfold rP;split
 ·simp
 ·rfl
theorem DI(p:Pl)(x:Bb)(t:Tc)(c:Bd)(now:Int):(jX p x t c now).bib.VC.length≤x.VC.length+1∧(jX p x t c now).bib.UZ.length≤x.UZ.length+1:=by
 unfold jX;by_cases h1:bB t.UU t.UY t.VB=0
 ·rw[if_pos h1];exact⟨UR _,UR _⟩
 rw[if_neg h1];by_cases h2:p.most≤(x.UZ.length:Int)
 ·rw[if_pos h2];exact⟨UR _,UR _⟩
 rw[if_neg h2];by_cases h3:(if t.UY=true then (gG p x.VC t.UU t.addr t.port).2 else 0)≠0
 ·rw[if_pos h3];exact⟨UR _,UR _⟩
 rw[if_neg h3];exact⟨MN _ _,by simp⟩
theorem OI(p:Pl)(x:Bb)(t:Tc)(now:Int):(gF p x t now).bib.VC.length≤x.VC.length+1∧(gF p x t now).bib.UZ.length≤x.UZ.length+1:=by
 unfold gF;split
 ·split
  ·exact DI p x t _ now
  ·exact⟨UR _,UR _⟩
 ·split
  ·split
   ·exact⟨UR _,UR _⟩
   ·exact DI p x t _ now
  ·exact⟨by simp,by simp[ND]⟩
open Go.ChangeShapes
section
variable {P:Program} {ops:Array Oper} {Q:Exit→Act→World→Prop} {ds:List Tmp} {R:Nat→Value→World→Prop} {a0:Act} {w0:World} {last:Oper}
structure zB(ops:Array Oper)(ds:List Tmp)(n:Nat)(last:Oper):Prop where
 len:ops.size=ds.length+1
 dst:∀i o,i < ds.length→ops[i]?=some o→o.dst=some (ds.getD i 0)∧o.guard=none
 nodup:ds.Nodup
 fits:∀d∈ds,d < n
 topo:∀i o,i < ds.length→ops[i]?=some o→∀e∈o.after,Region.binds .any e=true→e.on < i
 isLast:ops[ds.length]?=some last
 lguard:last.guard=none
 ledge:∀e∈last.after,Region.binds .any e=true→e.on < ds.length
 lall:∀j,j < ds.length→(∃e∈last.after,Region.binds .any e=true∧e.on=j)∨∃i o,j < i∧i < ds.length∧ops[i]?=some o∧∃e∈o.after,Region.binds .any e=true∧e.on=j
def FW(ops:Array Oper)(ds:List Tmp)(n:Nat)(last:Oper):Bool :=
 decide (ops.size=ds.length+1)&&(List.range ds.length).all (fun i=>match ops[i]? with
  | some o=>(match o.dst with | some d=>d==ds.getD i 0 | none=>false)&&o.guard.isNone&&o.after.all (fun e=>!Region.binds .any e||decide (e.on < i))
  | none=>true)&&decide ds.Nodup&&ds.all (fun d=>decide (d < n))&&last.guard.isNone&&last.after.all (fun e=>!Region.binds .any e||decide (e.on < ds.length)) &&
  (List.range ds.length).all (fun j=>last.after.any (fun e=>Region.binds .any e&&e.on==j)||(List.range ds.length).any (fun i=>decide (j < i)&&match ops[i]? with | some o=>o.after.any (fun e=>Region.binds .any e&&e.on==j) | none=>false))
theorem zB.of{n:Nat}(hl:ops[ds.length]?=some last)(h:FW ops ds n last=true):zB ops ds n last:=by
 unfold FW at h;simp only[TP,TU,List.all_eq_true,List.mem_range]at h;obtain⟨⟨⟨⟨⟨⟨h1,h2⟩,h3⟩,h4⟩,h5⟩,h6⟩,h7⟩:=h;refine⟨h1,fun i o hi ho=>?_,h3,h4,fun i o hi ho e he hb=>?_,hl,by simpa using h5,fun e he hb=>?_,fun j hj=>?_⟩
 ·have:=h2 i hi;rw[ho]at this;simp only[TP]at this;obtain⟨⟨t1,t2⟩,_⟩:=this;refine⟨?_,by simpa using t2⟩
  cases hd:o.dst with
  | none=>rw[hd]at t1;simp at t1
  | some d=>rw[hd]at t1;simp at t1;rw[t1];simp
 ·have:=h2 i hi;rw[ho]at this;simp only[TP]at this;obtain⟨_,t3⟩:=this;have:=Array.all_eq_true_iff_forall_mem.1 t3 e he;simp[hb]at this;exact this
 ·have:=Array.all_eq_true_iff_forall_mem.1 h6 e he;simp[hb]at this;exact this
 ·have:=h7 j hj;simp only[UK]at this;rcases this with this|this
  ·obtain⟨e,he,hb⟩:=Array.any_eq_true'.1 this;simp only[TP,beq_iff_eq]at hb;exact .inl ⟨e,he,hb.1,hb.2⟩
  ·obtain⟨i,hi,hh⟩:=List.any_eq_true.1 this;simp only[TP,TU]at hh
   cases ho:ops[i]? with
   | none=>rw[ho]at hh;simp at hh
   | some o=>
    rw[ho]at hh;obtain⟨e,he,hb⟩:=Array.any_eq_true'.1 hh.2;simp only[TP,beq_iff_eq]at hb;exact .inr ⟨i,o,hh.1,List.mem_range.1 hi,ho,e,he,hb.1,hb.2⟩
end
section
variable {P:Program} {ops:Array Oper} {Q:Exit→Act→World→Prop} {ds:List Tmp} {R:Nat→Value→World→Prop} {a0:Act} {w0:World} {last:Oper} {E:World→World→Prop} {I:World→Prop}
structure RH(E:World→World→Prop)(I:World→Prop)(ops:Array Oper)(ds:List Tmp)(R:Nat→Value→World→Prop)(a0:Act)(w0:World)(listed:Array Bool)(a:Act)(w:World):Prop where
 size:listed.size=ops.size
 tsize:a.tmps.size=a0.tmps.size
 defers:a.defers=a0.defers
 outer:∀t,t ∉ ds→aD a t=aD a0 t
 inner:∀i,listed.getD i false=true→R i (aD a (ds.getD i 0)) w
 inv:I w
def LM(E:World→World→Prop)(I:World→Prop)(P:Program)(Q:Exit→Act→World→Prop)(ds:List Tmp)(R:Nat→Value→World→Prop)(a0:Act)(i:Nat)(o:Oper):Prop :=
 ∀(K':Act→World→Prop) (a:Act) (w:World),(∀t,t ∉ ds→aD a t=aD a0 t)→(∀e∈o.after,Region.binds .any e=true→R e.on (aD a (ds.getD e.on 0)) w) →
  I w→(∀v w',R i v w'→E w w'→I w'→K' (a.put o.dst v) w')→Oper.wp P o a w K' Q
theorem BN(hF:zB ops ds a0.tmps.size last)(hst:∀i v w w',R i v w→E w w'→R i v w')
  (hstep:∀i o,i < ds.length→ops[i]?=some o→LM E I P Q ds R a0 i o)
  (hlast:∀(K':Act→World→Prop) a w,a.tmps.size=a0.tmps.size→a.defers=a0.defers→(∀t,t ∉ ds→aD a t=aD a0 t)→(∀i,i < ds.length→R i (aD a (ds.getD i 0)) w)→I w→(∀a' w',Q .normal a' w'→K' a' w')→Oper.wp P last a w K' Q) :
  ∀(fuel:Nat) (listed:Array Bool) (a:Act) (w:World),vF listed ops.size≤fuel→RH E I ops ds R a0 w0 listed a w→listed.getD ds.length true=false→(∀i o,ops[i]?=some o→listed.getD i false=true→∀e∈o.after,Region.binds .any e=true→listed.getD e.on false=true)→wpAny P .any ops Q fuel listed a w:=by
 have hne:∀(listed:Array Bool),listed.size=ops.size→listed.getD ds.length true=false→Region.ready .any ops listed=[]→False:=by
  intro listed hsz hl hr;have key:∀i,i < ds.length→listed.getD i false=true:=by
   intro i;induction i using Nat.strongRecOn with
   | ind i ih=>
    intro hi;have hio:i < ops.size:=by rw[hF.len];omega
    by_cases hh:listed.getD i true=true
    ·have hlt:i < listed.size:=by omega
     simpa[hlt] using hh
    ·exfalso
     have hmem:i∈Region.ready .any ops listed:=by
      rw[mem_ready];refine⟨by simpa using hh,ops[i],by simp[hio],fun e he hb=>?_⟩;have hlt:=hF.topo i ops[i] hi (by simp[hio]) e he hb;exact ih _ hlt (by omega)
     rw[hr]at hmem;simp at hmem
  have hmem:ds.length∈Region.ready .any ops listed:=by
   rw[mem_ready];exact⟨hl,last,hF.isLast,fun e he hb=>key _ (hF.ledge e he hb)⟩
  rw[hr]at hmem;simp at hmem
 intro fuel;induction fuel with
 | zero=>
  intro listed a w hu hI hl hcl;exfalso
  have:=nZ (listed:=listed) ops.size (by omega) ds.length (by rw[hF.len];omega);rw[hl]at this;simp at this
 | succ fuel ih=>
  intro listed a w hu hI hl hcl;refine⟨fun hr=>(hne listed hI.size hl hr).elim,fun i hi=>?_⟩;rw[mem_ready]at hi;obtain⟨h0,o,ho,hdeps⟩:=hi;have hi:i < ops.size:=(UI.1 ho).1;by_cases hil:i < ds.length
  ·obtain⟨hd,hg⟩:=hF.dst i o hil ho;have hmem:ds.getD i 0∈ds:=by rw[mZ hil];exact TY hil
   refine wpOp_step ho (fun K' hK=>?_);rw[if_pos (by unfold Region.wanted;rw[hg])];refine hstep i o hil ho K' a w hI.outer (fun e he hb=>hI.inner _ (hdeps e he hb)) hI.inv (fun v w' hR hB hI'=>hK _ _ ?_);refine ih _ _ _ (by have:=oS h0 ops.size hi;omega) ⟨by simp[hI.size],?_,?_,fun t ht=>?_,fun j hj=>?_,hI'⟩ (by rw[getD_set_ne true (by omega)];exact hl) ?_;rotate_right
   ·have hset:∀j,listed.getD j false=true→(listed.setIfInBounds i true).getD j false=true:=fun j hj=>by
     by_cases e:i=j
     ·subst e;have hs:i < listed.size:=by rw[hI.size];exact hi
      simp[hs]
     ·rw[getD_set_ne false e];exact hj
    intro j o' ho' hj e he hb;by_cases hij:i=j
    ·subst hij;obtain rfl:o=o':=by rw[ho]at ho';exact Option.some.inj ho'
     exact hset _ (hdeps e he hb)
    ·rw[getD_set_ne false hij]at hj;exact hset _ (hcl j o' ho' hj e he hb)
   ·rw[hd];simp[Act.put,hI.tsize]
   ·rw[hd];simp[Act.put,hI.defers]
   ·rw[hd,eI (show ds.getD i 0≠t from fun e=>ht (e ▸ hmem))];exact hI.outer t ht
   ·rw[hd];by_cases e:i=j
    ·subst e;rw[jF (by rw[hI.tsize];exact hF.fits _ hmem)];exact hR
    ·rw[getD_set_ne false e]at hj;have hjo:j < ops.size:=by
      rw[←hI.size];rcases Nat.lt_or_ge j listed.size with h'|h'
      ·exact h'
      ·simp[Array.getElem?_eq_none h']at hj
     have hjl:j < ds.length:=by
      rcases Nat.lt_or_ge j ds.length with h'|h'
      ·exact h'
      ·exfalso
       have hjn:j=ds.length:=by have:=hF.len;omega
       have hjs:j < listed.size:=by rw[hI.size];exact hjo
       rw[←hjn]at hl;simp[hjs]at hl hj;rw[hl]at hj;simp at hj
     rw[eI (mR hF.nodup hil hjl e)];exact hst _ _ _ _ (hI.inner j hj) hB
  ·have hin:i=ds.length:=by have:=hF.len;omega
   subst hin;obtain rfl:last=o:=by have:=hF.isLast;rw[this]at ho;exact Option.some.inj ho
   refine wpOp_step ho (fun K' hK=>?_);rw[if_pos (by unfold Region.wanted;rw[hF.lguard])];have hall:∀i,i < ds.length→listed.getD i false=true:=by
    have key:∀d j,ds.length-j≤d→j < ds.length→listed.getD j false=true:=by
     intro d;induction d with
     | zero=>intro j h1 h2;omega
     | succ d ihd=>
      intro j h1 h2;rcases hF.lall j h2 with ⟨e,he,hb,hon⟩|⟨q,oq,hq1,hq2,hoq,e,he,hb,hon⟩
      ·rw[←hon];exact hdeps e he hb
      ·rw[←hon];exact hcl q oq hoq (ihd q (by omega) hq2) e he hb
    exact fun j hj=>key ds.length j (by omega) hj
   refine hlast K' a w hI.tsize hI.defers hI.outer (fun j hj=>hI.inner j (hall j hj)) hI.inv (fun a' w' hQ=>hK _ _ (wpAny_done ?_ hQ fuel));rw[List.eq_nil_iff_forall_not_mem];intro j hj;rw[mem_ready]at hj;obtain⟨g0,o',ho',_⟩:=hj;have hjo:j < ops.size:=(UI.1 ho').1;by_cases e:ds.length=j
   ·subst e;have hs:ds.length < listed.size:=by rw[hI.size];exact hi
    simp[hs]at g0
   ·rw[getD_set_ne true e]at g0;have hjl:j < ds.length:=by have:=hF.len;omega
    have:=hall j hjl;have hs:j < listed.size:=by rw[hI.size];exact hjo
    simp[hs]at g0 this;rw[g0]at this;simp at this
def tG(E:World→World→Prop)(I:World→Prop)(P:Program)(Q:Exit→Act→World→Prop)(ds:List Tmp)(R:Nat→Value→World→Prop)(a0:Act):Nat→List Oper→Prop
 | _,[]=>True
 | n,o::l=>LM E I P Q ds R a0 n o∧tG E I P Q ds R a0 (n+1) l
theorem tG.at':∀(l:List Oper) (n:Nat),tG E I P Q ds R a0 n l→∀i o,l[i]?=some o→LM E I P Q ds R a0 (n+i) o
 | [],_,_,i,o,h=>by simp at h
 | p::l,n,hs,0,o,h=>by simp at h;subst h;exact hs.1
 | p::l,n,hs,i+1,o,h=>by
  have:=tG.at' l (n+1) hs.2 i o (by simpa using h);rwa [show n+1+i=n+(i+1) by omega]at this
def cU(E:World→World→Prop)(r:Value→World→Prop):Prop:=∀v w w',r v w→E w w'→r v w'
theorem TM{Rs:List (Value→World→Prop)}(hst:∀r∈Rs,cU E r)(i:Nat)(v:Value)(w w':World)(h:aS Rs i v w)(hb:E w w'):aS Rs i v w':=by
 unfold aS at *;by_cases hi:i < Rs.length
 ·have e:Rs.getD i (fun _ _=>True)=Rs[i]:=by simp[hi]
  rw[e]at h ⊢;exact hst _ (TY hi) v w w' h hb
 ·have e:Rs.getD i (fun _ _=>True)=fun _ _=>True:=by simp[Nat.le_of_not_lt hi]
  rw[e];trivial
theorem tV{id:Nat}{Rs:List (Value→World→Prop)}(E:World→World→Prop)(I:World→Prop)(ds:List Tmp)(last:Oper)(hm:P.follows .mixedOrders=true)(hlst:ops[ds.length]?=some last)(hF:FW ops ds a0.tmps.size last=true)(hl:Rs.length=ds.length)(hI0:I w0.drew)(hst:∀r∈Rs,cU E r)
  (hstep:tG E I P Q ds (aS Rs) a0 0 (ops.toList.take ds.length))
  (hlast:∀(X:Nat→Value) (a:Act) (K':Act→World→Prop) w,a=aE X a0 0 ds→(∀i,i < ds.length→aD a (ds.getD i 0)=X i)→eW X w 0 Rs→I w→(∀a' w',Q .normal a' w'→K' a' w')→Oper.wp P last a w K' Q) :
  (Code.region id ops true).wp P Q a0 w0:=by
 have hG:=zB.of hlst hF;have jJ:=hG.len;refine wp_region_any hm (BN (E:=E) (I:=I) (w0:=w0.drew) (R:=aS Rs) hG (TM hst) (fun i o hi ho=>?_) (fun K' a w h1 h2 h3 h4 h5 h6=>?_) ops.size _ a0 w0.drew (rU _ _) ⟨by simp,rfl,rfl,fun _ _=>rfl,fun i hi=>?_,hI0⟩ ?_ (fun i o _ hi=>?_))
 ·have:=tG.at' (ops.toList.take ds.length) 0 hstep i o (by rw[List.getElem?_take_of_lt hi];simpa using ho);rwa [TX]at this
 ·have hp:aE (fun i=>aD a (ds.getD i 0)) a0 0 ds=a:=oL ds a0 0 h1.symm h2.symm (fun i _=>by rw[TX]) (fun t ht=>(h3 t ht).symm) (fun d hd=>by rw[h1];exact hG.fits d hd);exact hlast (fun i=>aD a (ds.getD i 0)) a K' w hp.symm (fun i _=>rfl) (eW.mk Rs 0 (fun i hi=>by rw[TX];exact h4 i (by omega))) h5 h6
 ·exfalso
  by_cases h:i < ops.size
  ·simp[h]at hi
  ·simp[h]at hi
 ·simp[show ds.length < ops.size by omega]
 ·exfalso
  by_cases h:i < ops.size
  ·simp[h]at hi
  ·simp[h]at hi
end
section
variable {P:Program} {ops:Array Oper} {Q:Exit→Act→World→Prop} {ds:List Tmp} {R:Nat→Value→World→Prop} {a0:Act} {w0:World} {E:World→World→Prop} {I:World→Prop}
def oB(E:World→World→Prop)(I:World→Prop)(P:Program)(ops:Array Oper)(Q:Exit→Act→World→Prop)(ds:List Tmp)(R:Nat→Value→World→Prop)(a0:Act)(i:Nat)(o:Oper):Prop :=
 ∀(K':Act→World→Prop) (a:Act) (w:World),(∀t,t ∉ ds→aD a t=aD a0 t)→(∀e∈o.after,Region.binds .any e=true→R e.on (aD a (ds.getD e.on 0)) w) →
  I w→(∀v w',R i v w'→E w w'→I w'→K' (a.put o.dst v) w')→if Region.wanted o (yielded ops a.tmps)=true then Oper.wp P o a w K' Q else K' (a.put o.dst undef) w
theorem oB.congr{R R':Nat→Value→World→Prop}{i:Nat}{o:Oper}(ht:∀e∈o.after,Region.binds .any e=true→e.on < i)(h:∀j,j≤i→R j=R' j)(hs:oB E I P ops Q ds R a0 i o):oB E I P ops Q ds R' a0 i o:=by
 intro K' a w ho hd hb hK;refine hs K' a w ho (fun e he hbd=>?_) hb (fun v w' hr=>?_)
 ·rw[h e.on (Nat.le_of_lt (ht e he hbd))];exact hd e he hbd
 ·rw[h i lR]at hr;exact hK v w' hr
theorem BO(hF:rC ops ds a0.tmps.size)(hst:∀i v w w',R i v w→E w w'→R i v w')
  (hstep:∀i o,i < ds.length→ops[i]?=some o→oB E I P ops Q ds R a0 i o)
  (hdone:∀a w,a.tmps.size=a0.tmps.size→a.defers=a0.defers→(∀t,t ∉ ds→aD a t=aD a0 t)→(∀i,i < ds.length→R i (aD a (ds.getD i 0)) w)→I w→fO P Q (ops.toList.drop ds.length) a w) :
  ∀(fuel:Nat) (listed:Array Bool) (a:Act) (w:World),vF listed ops.size≤fuel→RH E I ops ds R a0 w0 listed a w→(∀j,j < ops.size→ds.length≤j→listed.getD j false=false)→(∀i o,ops[i]?=some o→listed.getD i false=true→∀e∈o.after,Region.binds .any e=true→listed.getD e.on false=true)→wpAny P .any ops Q fuel listed a w:=by
 have ft:∀(listed:Array Bool) (j:Nat),j < listed.size→(listed.getD j true=listed.getD j false):=fun listed j hj=>by simp[hj]
 intro fuel;induction fuel with
 | zero=>
  intro listed a w hu hI hs hcl;exfalso
  have:=nZ (listed:=listed) ops.size (by omega) ds.length hF.le;rw[ft listed _ (by rw[hI.size];exact hF.le),hs _ hF.le lR]at this;simp at this
 | succ fuel ih=>
  intro listed a w hu hI hs hcl;by_cases hall:∀j,j < ds.length→listed.getD j false=true
  ·refine zA hF (fuel+1) ds.length listed a w lR (Nat.le_of_lt hF.le) hI.size (fun j hj=>⟨fun h=>?_,fun h=>hall j h⟩) ?_ (hdone a w hI.tsize hI.defers hI.outer (fun j hj=>hI.inner j (hall j hj)) hI.inv)
   ·by_cases e:j < ds.length
    ·exact e
    ·rw[hs j hj (by omega)]at h;simp at h
   ·refine UA ?_ hu;have key:∀n,n≤ops.size→n-ds.length≤vF listed n:=by
     intro n;induction n with
     | zero=>intro _;omega
     | succ n ihn=>
      intro hn;have h1:=ihn (by omega);unfold vF;by_cases e:n < ds.length
      ·omega
      ·rw[if_neg (by rw[ft listed n (by rw[hI.size];omega),hs n (by omega) (by omega)];simp)];omega
    exact key ops.size lR
  ·refine⟨fun hr=>?_,fun i hi=>?_⟩
   ·exfalso
    refine hall (fun i=>?_);induction i using Nat.strongRecOn with
    | ind i ih2=>
     intro hil;have hio:i < ops.size:=Nat.lt_trans hil hF.le;by_cases hh:listed.getD i true=true
     ·rw[ft listed i (by rw[hI.size];exact hio)]at hh;exact hh
     ·exfalso
      have hmem:i∈Region.ready .any ops listed:=by
       rw[mem_ready];refine⟨by simpa using hh,ops[i],by simp[hio],fun e he hb=>?_⟩;have hlt:=hF.topo i ops[i] (by simp[hio]) e he hb;exact ih2 _ hlt (by omega)
      rw[hr]at hmem;simp at hmem
   ·rw[mem_ready]at hi;obtain⟨h0,o,ho,hdeps⟩:=hi;have hio:i < ops.size:=(UI.1 ho).1;have hil:i < ds.length:=by
     by_cases e:i < ds.length
     ·exact e
     ·exfalso
      by_cases e2:ds.length < i
      ·obtain⟨e1,he,hb,hon⟩:=hF.swait i o e2 ho;have h1:=hdeps e1 he hb;rw[hs e1.on (by omega) (by omega)]at h1;simp at h1
      ·have hin:i=ds.length:=by omega
       refine hall ?_;have key:∀d j,ds.length-j≤d→j < ds.length→listed.getD j false=true:=by
        intro d;induction d with
        | zero=>intro j h1 h2;omega
        | succ d ihd=>
         intro j h1 h2;obtain⟨q,oq,hq1,hq2,hoq,ed,he,hb,hon⟩:=hF.lall j h2;by_cases e3:q=ds.length
         ·subst hin;subst e3;obtain rfl:o=oq:=by rw[ho]at hoq;exact Option.some.inj hoq
          rw[←hon];exact hdeps ed he hb
         ·rw[←hon];exact hcl q oq hoq (ihd q (by omega) (by omega)) ed he hb
       exact fun j hj=>key ds.length j (by omega) hj
    have hd:=hF.dst i o hil ho;have hmem:ds.getD i 0∈ds:=by rw[mZ hil];exact TY hil
    refine wpOp_step ho (fun K' hK=>?_);refine hstep i o hil ho K' a w hI.outer (fun e he hb=>hI.inner _ (hdeps e he hb)) hI.inv (fun v w' hR hB hI'=>hK _ _ ?_);refine ih _ _ _ (by have:=oS h0 ops.size hio;omega) ⟨by simp[hI.size],?_,?_,fun t ht=>?_,fun j hj=>?_,hI'⟩ (fun j hj hn=>by rw[getD_set_ne false (by omega)];exact hs j hj hn) ?_
    ·rw[hd];simp[Act.put,hI.tsize]
    ·rw[hd];simp[Act.put,hI.defers]
    ·rw[hd,eI (show ds.getD i 0≠t from fun e=>ht (e ▸ hmem))];exact hI.outer t ht
    ·rw[hd];by_cases e:i=j
     ·subst e;rw[jF (by rw[hI.tsize];exact hF.fits _ hmem)];exact hR
     ·rw[getD_set_ne false e]at hj;have hjo:j < ops.size:=by
       rw[←hI.size];rcases Nat.lt_or_ge j listed.size with h'|h'
       ·exact h'
       ·simp[Array.getElem?_eq_none h']at hj
      have hjl:j < ds.length:=by
       by_cases e2:j < ds.length
       ·exact e2
       ·rw[hs j hjo (by omega)]at hj;simp at hj
      rw[eI (mR hF.nodup hil hjl e)];exact hst _ _ _ _ (hI.inner j hj) hB
    ·have hset:∀j,listed.getD j false=true→(listed.setIfInBounds i true).getD j false=true:=fun j hj=>by
      by_cases e:i=j
      ·subst e;have hsz:i < listed.size:=by rw[hI.size];exact hio
       simp[hsz]
      ·rw[getD_set_ne false e];exact hj
     intro j o' ho' hj e he hb;by_cases hij:i=j
     ·subst hij;obtain rfl:o=o':=by rw[ho]at ho';exact Option.some.inj ho'
      exact hset _ (hdeps e he hb)
     ·rw[getD_set_ne false hij]at hj;exact hset _ (hcl j o' ho' hj e he hb)
def cP(E:World→World→Prop)(I:World→Prop)(P:Program)(ops:Array Oper)(Q:Exit→Act→World→Prop)(ds:List Tmp)(a0:Act)(suf:List Oper):List (Value→World→Prop)→List Oper→Prop
 | Rs,[]=>∀(X:Nat→Value) w,eW X w 0 Rs→I w→fO P Q suf (aE X a0 0 ds) w
 | Rs,o::l=>∃r,cU E r∧oB E I P ops Q ds (aS (Rs++[r])) a0 Rs.length o∧cP E I P ops Q ds a0 suf (Rs++[r]) l
theorem cP.all{suf:List Oper}:∀(l:List Oper) (Rs:List (Value→World→Prop)),(∀i o,l[i]?=some o→∀e∈o.after,Region.binds .any e=true→e.on < Rs.length+i)→(∀r∈Rs,cU E r)→cP E I P ops Q ds a0 suf Rs l →
  ∃Ss,(Rs++Ss).length=Rs.length+l.length∧(∀r∈Rs++Ss,cU E r)∧(∀i o,l[i]?=some o→oB E I P ops Q ds (aS (Rs++Ss)) a0 (Rs.length+i) o)∧(∀(X:Nat→Value) w,eW X w 0 (Rs++Ss)→I w→fO P Q suf (aE X a0 0 ds) w)
 | [],Rs,_,hst,h=>⟨[],by simp,by simpa using hst,fun i o ho=>by simp at ho,by rw[List.append_nil];exact h⟩
 | o::l,Rs,ht,hst,⟨r,hr,hs,hc⟩=>by
  obtain⟨Ss,h1,h2,h3,h4⟩:=cP.all l (Rs++[r]) (fun i o' ho e he hb=>by
   have:=ht (i+1) o' (by simpa using ho) e he hb;simp;omega) (fun x hx=>by
   rcases List.mem_append.1 hx with hx|hx
   ·exact hst x hx
   ·simp at hx;subst hx;exact hr) hc
  refine⟨r::Ss,by simp at h1 ⊢;omega,by simpa using h2,fun i o' ho=>?_,by simpa using h4⟩;have e:Rs++r::Ss=Rs++[r]++Ss:=by simp
  rw[e]
  cases i with
  | zero=>
   simp at ho;subst ho;refine oB.congr (ht 0 o rfl) (fun j hj=>?_) hs;exact(pV (by simp;omega)).symm
  | succ i=>
   have:=h3 i o' (by simpa using ho);rwa [show (Rs++[r]).length+i=Rs.length+(i+1) by simp;omega]at this
theorem eU{id:Nat}(E:World→World→Prop)(I:World→Prop)(ds:List Tmp)(hm:P.follows .mixedOrders=true)(hF:zV ops ds a0.tmps.size=true)(hI0:I w0.drew)(h:cP E I P ops Q ds a0 (ops.toList.drop ds.length) [] (ops.toList.take ds.length)) :
  (Code.region id ops true).wp P Q a0 w0:=by
 have hG:=rC.of hF;have hle:=hG.le;obtain⟨Ss,h1,h2,h3,h4⟩:=cP.all (ops.toList.take ds.length) [] (fun i o ho e he hb=>by
  have hi:i < ds.length:=by
   by_cases e2:i < ds.length
   ·exact e2
   ·rw[List.getElem?_eq_none (by simp;omega)]at ho;simp at ho
  rw[List.getElem?_take,if_pos hi]at ho;have:=hG.topo i o (by simpa using ho) e he hb;simpa using this) (fun r hr=>by simp at hr) h
 simp only[UB,List.length_nil,TX]at h1 h2 h3 h4;have jJ:Ss.length=ds.length:=by rw[h1];simp;omega
 refine wp_region_any hm (BO (E:=E) (I:=I) (w0:=w0.drew) (R:=aS Ss) hG (fun i v w w' h hb=>?_) (fun i o hi ho=>?_) (fun a w g1 g2 g3 g4 g5=>?_) ops.size _ a0 w0.drew (rU _ _) ⟨by simp,rfl,rfl,fun _ _=>rfl,fun i hi=>?_,hI0⟩ (fun j hj _=>by simp[hj]) (fun i o ho hi=>?_))
 ·unfold aS at *;by_cases hi:i < Ss.length
  ·have e:Ss.getD i (fun _ _=>True)=Ss[i]:=by simp[hi]
   rw[e]at h ⊢;exact h2 _ (TY hi) v w w' h hb
  ·have e:Ss.getD i (fun _ _=>True)=fun _ _=>True:=by simp[Nat.le_of_not_lt hi]
   rw[e];trivial
 ·exact h3 i o (by rw[List.getElem?_take,if_pos hi];simpa using ho)
 ·have hp:aE (fun i=>aD a (ds.getD i 0)) a0 0 ds=a:=oL ds a0 0 g1.symm g2.symm (fun i _=>by rw[TX]) (fun t ht=>(g3 t ht).symm) (fun d hd=>by rw[g1];exact hG.fits d hd);rw[←hp];exact h4 (fun i=>aD a (ds.getD i 0)) w (eW.mk Ss 0 (fun i hi=>by rw[TX];exact g4 i (by omega))) g5
 ·exfalso
  by_cases h:i < ops.size
  ·simp[h]at hi
  ·simp[h]at hi
 ·exfalso
  by_cases h:i < ops.size
  ·simp[h]at hi
  ·simp[h]at hi
theorem cP.val{suf:List Oper}{Rs:List (Value→World→Prop)}{n:Nat}{o:Oper}{l:List Oper}(Rs':Value→List (Value→World→Prop))(hR:∀v,Rs' v=Rs++[aF v])(hn:Rs.length=n)(h:∃v,oB E I P ops Q ds (aS (Rs' v)) a0 n o∧cP E I P ops Q ds a0 suf (Rs' v) l):cP E I P ops Q ds a0 suf Rs (o::l):=by
 obtain⟨v,h1,h2⟩:=h;rw[hR]at h1 h2;subst hn;exact⟨aF v,fun _ _ _ h _=>h,h1,h2⟩
theorem cP.rel{suf:List Oper}{Rs:List (Value→World→Prop)}{n:Nat}{o:Oper}{l:List Oper}(r:Value→World→Prop)(hr:cU E r)(Rs':List (Value→World→Prop))(hR:Rs'=Rs++[r])(hn:Rs.length=n)(h1:oB E I P ops Q ds (aS Rs') a0 n o)(h2:cP E I P ops Q ds a0 suf Rs' l):cP E I P ops Q ds a0 suf Rs (o::l):=by
 subst hR hn;exact⟨r,hr,h1,h2⟩
end
end Go.Proofs.YtdkepkaflielhaaGreatDoor
