import Derived.Test.YtdkepkaflielhaaGreatDoorMerged20
import Derived.Test.YtdkepkaflielhaaGreatDoorMerged19
import Derived.Test.YtdkepkaflielhaaGreatDoorSTickR
set_option linter.unusedVariables false
set_option linter.unusedSimpArgs false
set_option maxRecDepth 100000
set_option maxHeartbeats 8000000
namespace Go.Proofs.YtdkepkaflielhaaGreatDoor
open Go.RowKit
def wJ(h:En)(peer:BA)(s:Ss):Bool:=bB (hH s) h&&decide (s.peer.toList=peer.toList)
def lA(p:Pl)(x:Bb)(h:En)(peer:BA):Bool:=if p.filter=0 then true else if p.filter=1 then x.VK.any (wJ h peer) else false
def NH(p:Pl)(t:Tc)(h:En)(st now:Int):Ss:=⟨h.VF,h.addr,h.port,t.peer,t.VG,st,now+bU p.lv t.VF st⟩
def wC(p:Pl)(xs:List Bd)(h:En):List Bd:=if (xs.find? (cD h.VF h.addr h.port)).isSome=true then xs else xs++[(cP p xs h).1]
def lC(p:Pl)(x:Bb)(h:En)(t:Tc)(now:Int):Bo :=
 if bF t.VF t.VJ t.VM=0 then kY 6
 else if (!t.VJ&&!lA p x h t.peer)=true then kY 6
 else if (x.VK.length:Int)=p.most then kY 9
 else if (cP p x.VN h).2=false then kY 9
 else ⟨⟨wC p x.VN h,x.VK++[NH p t h (bF t.VF t.VJ t.VM) now]⟩,(cP p x.VN h).1,0⟩
def cL(x:Bb)(t:Tc):En × Bool:=if t.VJ=true then (⟨t.VF,t.addr,t.port⟩,true) else (bO ((x.VN.find? (cV t.VF t.addr t.port)).getD lB),(x.VN.find? (cV t.VF t.addr t.port)).isSome)
def pI(h:En)(t:Tc):Sk:=⟨h,t.peer,t.VG⟩
def IY(p:Pl)(x:Bb)(t:Tc)(now:Int):Bo :=
 if (cL x t).2=false then kY 6
 else match x.VK.findIdx? (fun s=>dK (eA s) (pI (cL x t).1 t)) with
  | none=>lC p x (cL x t).1 t now
  | some i=>⟨⟨x.VN,tQ x.VK i (nI p t now)⟩,(x.VN.find? (cD (cL x t).1.VF (cL x t).1.addr (cL x t).1.port)).getD lB,0⟩
theorem zV{a b:BA}(h:a.toList=b.toList):a=b:=by
 rw[ByteArray.toList_eq,ByteArray.toList_eq]at h;apply ByteArray.ext;exact Array.toList_inj.1 h
theorem qD(q p:En):bB q p=true↔q=p:=by
 rw[mQ];simp only[UB,UF];constructor
 ·rintro⟨⟨h1,h2⟩,h3⟩;have h4:=zV h2
  cases q;cases p;simp_all
 ·rintro rfl;simp
theorem iJ{h:En}{c:Bd}:cD h.VF h.addr h.port c=true↔bO c=h:=by
 rw[←nE];exact qD _ _
theorem qW{c:Bd}{h:En}(hc:bO c=h)(t:Tc)(s:Ss):eU c t.peer t.VG s=dK (eA s) (pI h t):=by
 unfold eU dK pI;rw[←sR,hc];show _=(bB (hH s) h&&((s.peer.toList==t.peer.toList)&&(s.VG==t.VG)));rw[Bool.eq_iff_iff];simp[and_assoc]
theorem LD{c:Bd}{h:En}(hc:bO c=h)(peer:BA)(s:Ss):kV c peer s=wJ h peer s:=by
 unfold kV wJ;rw[←sR,hc]
theorem JT{p:Pl}{x:Bb}(hok:dA p x=true){s:Ss}(hs:s∈x.VK):x.VN.any (cD s.VF s.inn s.VH)=true:=by
 unfold dA at hok;simp only[UB]at hok;obtain⟨i,hi,rfl⟩:=UY hs;have:=iA.1 hok.2 i hi;unfold nJ at this;simp only[UB]at this;exact this.1.1
theorem MA{p:Pl}{x:Bb}(hok:dA p x=true){c d:Bd}(hc:c∈x.VN)(hd:d∈x.VN)(he:bO c=bO d):c=d:=by
 unfold dA at hok;simp only[UB]at hok;have hF:=iA.1 hok.1.2;obtain⟨i,hi,rfl⟩:=UY hc;obtain⟨j,hj,rfl⟩:=UY hd;have key:∀i j (hi:i < x.VN.length) (hj:j < x.VN.length),i < j→bO x.VN[i]=bO x.VN[j]→False:=by
  intro i j hi hj hij he;have h1:=hF j hj;unfold lY at h1;simp only[UB,Bool.not_eq_true']at h1;have h6:=h1.1.1.1.2;refine List.any_eq_false.1 h6 x.VN[i] (qJ hi hij) ?_;exact(iJ (h:=bO x.VN[j])).2 he
 rcases Nat.lt_trichotomy i j with h|h|h
 ·exact(key i j hi hj h he).elim
 ·subst h;rfl
 ·exact(key j i hj hi h he.symm).elim
theorem qM{p:Pl}{x:Bb}(hok:dA p x=true){c:Bd}(hc:c∈x.VN){h:En}(he:bO c=h):x.VN.find? (cD h.VF h.addr h.port)=some c:=by
 cases hf:x.VN.find? (cD h.VF h.addr h.port) with
 | none=>
  have:=List.find?_eq_none.1 hf c hc;exact absurd (iJ.2 he) this
 | some d=>
  have h1:=VA hf;have h2:=iJ.1 (VE hf);rw[MA hok h1 hc (h2.trans he.symm)]
theorem sB(p:Pl)(xs:List Bd)(h:En):bO (cP p xs h).1=h:=by
 unfold cP;split
 ·rename_i hs
  cases hf:xs.find? (cD h.VF h.addr h.port) with
  | none=>rw[hf]at hs;simp at hs
  | some c=>exact iJ.1 (VE hf)
 ·rfl
theorem nT{α:Type}{f:α→Bool}{xs:List α}:bD f xs < 0↔(xs.find? f).isSome=false:=by
 rw[iZ,←mN];simp
theorem DA(p:Pl)(xs:List Bd)(h:En):nY xs (cP p xs h).1=wC p xs h:=by
 have e:=sB p xs h;generalize hc:(cP p xs h).1=c at *;have e2:cD c.VF c.inn c.VH=cD h.VF h.addr h.port:=by rw[←e];rfl
 unfold nY wC;rw[e2,hc]
 cases hs:(xs.find? (cD h.VF h.addr h.port)).isSome with
 | true=>rw[if_neg (fun hh=>by rw[nT,hs]at hh;exact absurd hh (by decide)),if_pos rfl]
 | false=>rw[if_pos (nT.2 hs),if_neg (by decide)]
theorem NI(p:Pl)(t:Tc)(h:En)(c:Bd)(st now:Int)(he:bO c=h)(hp:h.VF=t.VF):uK p t c st now=NH p t h st now:=by
 subst he;unfold uK NH;rw[hp];rfl
theorem CJ{p:Pl}{x:Bb}{t:Tc}(c:Bd)(now:Int)(hm:(x.VK.length:Int)≤p.most)(hin:t.VJ=true):jX p x t c now=lC p x ⟨t.VF,t.addr,t.port⟩ t now:=by
 unfold jX lC;by_cases h0:bF t.VF t.VJ t.VM=0
 ·rw[if_pos h0,if_pos h0]
 have ha:¬(!t.VJ&&!lA p x ⟨t.VF,t.addr,t.port⟩ t.peer)=true:=by rw[hin];simp
 rw[if_neg h0,if_neg h0,if_neg ha];by_cases h1:(x.VK.length:Int)=p.most
 ·have h2:p.most≤(x.VK.length:Int):=by omega
  rw[if_pos h1,if_pos h2]
 have h2:¬p.most≤(x.VK.length:Int):=by omega
 rw[if_neg h1,if_neg h2];clear h2;have hl:=zY p x.VN ⟨t.VF,t.addr,t.port⟩;dsimp only at hl;rw[hin,if_pos rfl,hl]
 cases h2:(cP p x.VN ⟨t.VF,t.addr,t.port⟩).2 with
 | false=>simp[kY]
 | true=>
  simp only[if_true,ne_eq,not_true_eq_false,if_false,Bool.true_eq_false];rw[DA,NI p t ⟨t.VF,t.addr,t.port⟩ _ _ now (sB _ _ _) rfl]
theorem JR{p:Pl}{x:Bb}{t:Tc}{c:Bd}{now:Int}(hok:dA p x=true)(hfl:p.filter=0∨p.filter=1∨p.filter=2)(hm:(x.VK.length:Int)≤p.most)(hin:t.VJ=false)(hc:c∈x.VN)(hp:c.VF=t.VF):(if mB p x t c=true then kY 6 else jX p x t c now)=lC p x (bO c) t now:=by
 have hf:=qM hok hc (h:=bO c) rfl;have hb:cP p x.VN (bO c)=(c,true):=by unfold cP;rw[hf];rfl
 have hg:mB p x t c=(!t.VJ&&!lA p x (bO c) t.peer):=by
  unfold mB lA;rw[show kV c t.peer=wJ (bO c) t.peer from funext fun s=>LD rfl _ s];rcases hfl with h|h|h<;>rw[h]<;>simp
 rw[hg];unfold jX lC
 cases hd:(!t.VJ&&!lA p x (bO c) t.peer) with
 | true=>simp
 | false=>
  simp only[UO,if_false];by_cases h0:bF t.VF t.VJ t.VM=0
  ·rw[if_pos h0,if_pos h0]
  rw[if_neg h0,if_neg h0];by_cases h1:(x.VK.length:Int)=p.most
  ·have h2:p.most≤(x.VK.length:Int):=by omega
   rw[if_pos h1,if_pos h2]
  have h2:¬p.most≤(x.VK.length:Int):=by omega
  rw[if_neg h1,if_neg h2,hb,hin];simp only[UO,if_false,ne_eq,not_true_eq_false,Bool.true_eq_false];rw[show nY x.VN c=wC p x.VN (bO c) from by rw[←DA,hb],NI p t (bO c) c _ now rfl hp]
theorem uJ{p:Pl}(h:cU p=true):p.filter=0∨p.filter=1∨p.filter=2:=by
 unfold cU at h;simp only[UB]at h;have:=eK h.1.1.2;omega
theorem OV{p:Pl}{x:Bb}{t:Tc}{now:Int}(hok:dA p x=true):IY p x t now=dO p x t now:=by
 have hk:=hok;unfold dA at hk;simp only[UB,UF]at hk;have hpo:=hk.1.1.1.1;have hm:=hk.1.1.1.2;clear hk;unfold IY dO cL
 cases hin:t.VJ with
 | true=>
  simp only[if_true,Bool.true_eq_false,if_false]
  cases hf:x.VN.find? (cD t.VF t.addr t.port) with
  | none=>
   have hn:x.VK.findIdx? (fun s=>dK (eA s) (pI ⟨t.VF,t.addr,t.port⟩ t))=none:=by
    rw[List.findIdx?_eq_none_iff];intro s hs
    cases hh:dK (eA s) (pI ⟨t.VF,t.addr,t.port⟩ t) with
    | false=>rfl
    | true=>
     unfold dK at hh;simp only[UB]at hh;have h1:hH s=⟨t.VF,t.addr,t.port⟩:=(qD _ _).1 hh.1;obtain⟨d,hd,hq⟩:=List.any_eq_true.1 (JT hok hs);have h2:bO d=hH s:=(iJ (h:=hH s)).1 hq;exact absurd ((iJ (h:=⟨t.VF,t.addr,t.port⟩)).2 (h2.trans h1)) (List.find?_eq_none.1 hf d hd)
   rw[hn];exact(CJ lB now hm hin).symm
  | some c=>
   have hc:=VA hf;have he:bO c=⟨t.VF,t.addr,t.port⟩:=(iJ (h:=⟨t.VF,t.addr,t.port⟩)).1 (VE hf);dsimp only;rw[show eU c t.peer t.VG=fun s=>dK (eA s) (pI ⟨t.VF,t.addr,t.port⟩ t) from funext fun s=>qW he t s]
   cases x.VK.findIdx? (fun s=>dK (eA s) (pI ⟨t.VF,t.addr,t.port⟩ t)) with
   | none=>
    dsimp only;rw[if_neg (by unfold mB;rw[hin];simp)];exact(CJ c now hm hin).symm
   | some i=>rfl
 | false=>
  simp only[UO,if_false]
  cases hf:x.VN.find? (cV t.VF t.addr t.port) with
  | none=>rfl
  | some c=>
   have hc:=VA hf;have hp:c.VF=t.VF:=by
    have:=VE hf;unfold cV at this;simp only[UB,UF]at this;exact this.1.1
   simp only[Option.isSome_some,Bool.true_eq_false,if_false,Option.getD_some];rw[show eU c t.peer t.VG=fun s=>dK (eA s) (pI (bO c) t) from funext fun s=>qW rfl t s]
   cases x.VK.findIdx? (fun s=>dK (eA s) (pI (bO c) t)) with
   | none=>exact(JR hok (uJ hpo) hm hin hc hp).symm
   | some i=>
    dsimp only;rw[qM hok hc rfl];rfl
theorem IL(p:Pl)(x:Bb)(t:Tc)(now:Int):(if (dA p x&&bT now&&cC t)=true then IY p x t now else kY 1)=dH p x t now:=by
 unfold dH;rw[mT];by_cases h:(fA p x&&bT now&&cC t)=true
 ·rw[if_pos h,if_pos h];refine OV ?_;rw[mT];simp only[UB]at h;exact h.1.1
 ·rw[if_neg h,if_neg h]
open Go.PlainAid
theorem mO{α:Type}{en:α→List Value}{n:Nat}(hn:∀x,(en x).length=n)(j:Nat)(hj:j < n)(v:Value):∀(xs:List α) (i:Nat) (hi:i < xs.length) (y:α),en y=(en xs[i]).set j v→dL en (xs.set i y)=(dL en xs).set (i*n+j) v
 | [],i,hi,y,_=>by simp at hi
 | x::xs,0,hi,y,hy=>by
  simp only[UZ]at hy;simp only[List.set_cons_zero,dL,Nat.zero_mul,UI,List.flatMap_cons];rw[hy,List.set_append_left _ _ (by rw[hn];exact hj)]
 | x::xs,i+1,hi,y,hy=>by
  simp only[List.getElem_cons_succ]at hy;have ih:=mO hn j hj v xs i (by simpa using hi) y hy;unfold dL at ih ⊢;simp only[List.set_cons_succ,List.flatMap_cons];have hm:(i+1)*n=n+i*n:=by rw[Nat.succ_mul];omega
  rw[ih,List.set_append_right _ _ (by rw[hn];omega),hn];congr 2
  omega
theorem BH{w:World}{base e s n g cap:Nat}{xs:List Value}(h:w.ownsRow base e s (.slice (some ⟨g,0,none⟩) n cap) n xs)(j:Nat)(hj:j < xs.length)(u:Value):(w.setCell ⟨g,j,none⟩ u).ownsRow base e s (.slice (some ⟨g,0,none⟩) n cap) n (xs.set j u):=by
 obtain⟨h1,h2⟩:=h;refine⟨by rw[List.length_set];exact h1,?_⟩;rcases h2 with ⟨e1,_⟩|⟨g',cap',cur,e1,hb,hh,hnc,hcm,hcs,hcur⟩
 ·cases e1
 ·injection e1 with i1 i2 i3
  injection i1 with i1
  injection i1 with i1
  subst i1 i3;refine .inr ⟨g,cap,cur.setIfInBounds j u,rfl,hb,?_,hnc,hcm,by rw[Array.size_setIfInBounds];exact hcs,?_⟩
  ·show (w.heap.modify g _)[g]?=_;rw[Array.getElem?_modify,if_pos rfl,hh];rfl
  ·rw[Array.toList_setIfInBounds,List.take_set,hcur]
theorem EA{xs:List Value}{j:Nat}{v:Value}(h:xs[j]?=some v):xs.set j v=xs:=by
 obtain⟨hj,rfl⟩:=List.getElem?_eq_some_iff.1 h;exact List.set_getElem_self hj
theorem mZ{w:World}{base e s n m g cap:Nat}{xs:List Value}(h:w.ownsRow base e s (.slice (some ⟨g,0,none⟩) n cap) m xs)(j:Nat):w.frozen? ⟨g,j,none⟩=false:=by
 rcases h.2 with ⟨e1,_⟩|⟨g',cap',cur,e1,hb,hh,_⟩
 ·cases e1
 ·injection e1 with i1 i2 i3
  injection i1 with i1
  injection i1 with i1
  subst i1;unfold World.frozen?;simp[hh]
theorem fH{w:World}{base e n m g cap:Nat}{xs:List Ss}(h:w.ownsRow base e 7 (.slice (some ⟨g,0,none⟩) n cap) m (dL fZ xs))(hnm:n=m)(i:Nat)(hi:i < xs.length)(j:Nat)(v:Value)(hv:(fZ xs[i])[j]?=some v):w.cell? ⟨g,i*7+j,none⟩=some v:=by
 subst hnm;have hl:=fR eD xs;have hj:j < 7:=by have:=(List.getElem?_eq_some_iff.1 hv).1;rwa [eD]at this
 have hn:=h.1;rw[hl]at hn;have hnl:n=xs.length:=by omega
 rw[World.ownsRow.cellAt h _ (by rw[hnl];omega)];have hs:=mO eD j hj v xs i hi xs[i] (by rw[EA hv]);rw[List.set_getElem_self]at hs;rw[hs,List.getElem?_set_self (by rw[hl];omega)]
theorem fK.setS{w:World}{base O g cs n:Nat}{ks:List (Nat × List Value)}{bv:Value}{ys:List Bd}{zs:List Ss}{wx:World}(h:fK w base O ks bv (.slice (some ⟨g,0,none⟩) n cs) ys zs wx)(hnz:n=zs.length)(i:Nat)(hi:i < zs.length)(j:Nat)(hj:j < 7)(v:Value)(y:Ss)(hy:fZ y=(fZ zs[i]).set j v):fK w base O ks bv (.slice (some ⟨g,0,none⟩) n cs) ys (zs.set i y) (wx.setCell ⟨g,i*7+j,none⟩ v):=by
 subst hnz;have hO:O≠g:=fun e=>h.hi.2 (by rw[e];rfl)
 have hg:=(fC h.so (g:=g) rfl).1;have hbv:bv.ownBlock≠some g:=fun e=>h.ne g e rfl
 have hwb:=h.wb;refine⟨h.o.setOther hO _,cG h.bo hbv,?_,h.ne,h.b.setCell (p:=⟨g,i*7+j,none⟩) (by show w.heap.size≤g;omega) v,fun e he=>(h.k e he).setOther (by have:=(h.kb e he).1;omega) _,h.lo,h.hi,h.wb,by simpa using h.hb,h.kb⟩;rw[List.length_set,mO eD j hj v zs i hi y hy];exact BH h.so _ (by rw[fR eD];omega) v
theorem pR{α:Type}{f:α→Bool}{xs:List α}{i:Nat}(h:xs.findIdx? f=some i):∃hi:i < xs.length,xs.find? f=some xs[i]:=by
 obtain⟨hi,hf,hn⟩:=List.findIdx?_eq_some_iff_getElem.1 h;refine⟨hi,OR hi ?_ hf⟩;rw[List.find?_eq_none];intro y hy;obtain⟨k,hk,rfl⟩:=UY hy;rw[List.length_take]at hk;rw[List.getElem_take];exact hn k (by omega)
theorem ML{α:Type}{f:α→Bool}{xs:List α}(h:xs.findIdx? f=none):xs.find? f=none:=by
 rw[List.find?_eq_none];intro y hy;have:=List.findIdx?_eq_none_iff.1 h y hy;simp[this]
def pH(s:Ss):Int × List UInt8 × Int × List UInt8 × Int:=(s.VF,s.inn.toList,s.VH,s.peer.toList,s.VG)
theorem KO(s t:Ss):gZ s t=decide (pH s=pH t):=by
 unfold gZ pH;rw[Bool.eq_iff_iff];simp[and_assoc]
theorem LW(s:Ss)(ys:List Ss):(ys.any fun t=>gZ s t)=decide (pH s∈ys.map pH):=by
 rw[Bool.eq_iff_iff];simp only[List.any_eq_true,UF,List.mem_map,KO];constructor
 ·rintro⟨t,h1,h2⟩;exact⟨t,h1,h2.symm⟩
 ·rintro⟨t,h1,h2⟩;exact⟨t,h1,h2.symm⟩
theorem DC(c:Bd)(s:Ss):gR c s=decide (rN c=pT s):=by
 unfold gR rN pT;rw[Bool.eq_iff_iff];simp[and_assoc]
theorem zU(c:Bd)(ys:List Ss):(ys.any fun s=>gR c s)=decide (rN c∈ys.map pT):=by
 rw[Bool.eq_iff_iff];simp only[List.any_eq_true,UF,List.mem_map,DC];constructor
 ·rintro⟨t,h1,h2⟩;exact⟨t,h1,h2.symm⟩
 ·rintro⟨t,h1,h2⟩;exact⟨t,h1,h2.symm⟩
def sQ(s:Ss):Bool:=decide (s.peer.size=4)&&jS s.VG&&aO s.state 1 7&&(decide (s.VF=6)||decide (s.state=3))&&aO s.untl 0 2000000000
theorem xA(bs:List Bd)(ys:List Ss)(s:Ss):fX bs ys s=(sQ s&&decide (0≤bD (cD s.VF s.inn s.VH) bs)&&!decide (pH s∈ys.map pH)):=by
 unfold fX sQ;rw[LW]
theorem tZ(s:Ss)(bs:List Bd):decide (0≤bD (cD s.VF s.inn s.VH) bs)=bs.any (cD s.VF s.inn s.VH):=mN _ _
structure oD(p:Pl)(x:Bb):Prop where
 pool:cU p=true
 most:(x.VK.length:Int)≤p.most
 len:x.VN.length≤60
 bind:∀i (h:i < x.VN.length),cK p (x.VN.take i) x.VN[i]=true
 VK:∀s∈x.VK,sQ s=true
 has:∀s∈x.VK,x.VN.any (cD s.VF s.inn s.VH)=true
 nodup:(x.VK.map pH).Nodup
 all:∀c∈x.VN,rN c∈x.VK.map pT
theorem wP{α:Type}{xs:List α}:xs.Nodup↔∀i (h:i < xs.length),xs[i] ∉ xs.take i:=by
 rw[List.nodup_iff_pairwise_ne,List.pairwise_iff_getElem];constructor
 ·intro h i hi hm;obtain⟨k,hk,hki,e⟩:=sM hm;exact h k i hk hi hki e
 ·intro h i j hi hj hij e;exact h j hj (e ▸ qJ hi hij)
theorem gI{p:Pl}{x:Bb}:fA p x=true↔oD p x:=by
 unfold fA;simp only[UB,UF,List.all_eq_true];constructor
 ·rintro⟨⟨⟨⟨⟨h1,h2⟩,h3⟩,h4⟩,h5⟩,h6⟩;have h5':=iA.1 h5;have key:∀i (h:i < x.VK.length),sQ x.VK[i]=true∧x.VN.any (cD x.VK[i].VF x.VK[i].inn x.VK[i].VH)=true∧pH x.VK[i] ∉ (x.VK.take i).map pH:=by
   intro i hi;have:=h5' i hi;rw[xA,tZ]at this;simp only[UB,Bool.not_eq_true',decide_eq_false_iff_not]at this;exact⟨this.1.1,this.1.2,this.2⟩
  refine⟨h1,h2,h3,iA.1 h4,fun s hs=>?_,fun s hs=>?_,?_,fun c hc=>?_⟩
  ·obtain⟨i,hi,rfl⟩:=UY hs;exact(key i hi).1
  ·obtain⟨i,hi,rfl⟩:=UY hs;exact(key i hi).2.1
  ·rw[wP];intro i hi;rw[List.length_map]at hi;rw[List.getElem_map,←List.map_take];exact(key i hi).2.2
  ·have:=h6 c hc;rw[zU]at this;exact of_decide_eq_true this
 ·rintro⟨h1,h2,h3,h4,h5,h6,h7,h8⟩;refine⟨⟨⟨⟨⟨h1,h2⟩,h3⟩,iA.2 h4⟩,iA.2 fun i hi=>?_⟩,fun c hc=>?_⟩
  ·rw[xA,tZ];simp only[UB,Bool.not_eq_true',decide_eq_false_iff_not];refine⟨⟨h5 _ (UJ hi),h6 _ (UJ hi)⟩,?_⟩;have:=wP.1 h7 i (by simpa using hi);rwa [List.getElem_map,←List.map_take]at this
  ·rw[zU];exact UE (h8 c hc)
theorem sL{α β:Type}(f:α→β)(xs:List α)(i:Nat)(hi:i < xs.length)(y:α)(h:f y=f xs[i]):(xs.set i y).map f=xs.map f:=by
 rw[List.map_set,h];apply List.ext_getElem
 ·simp
 ·intro k h1 h2;rw[List.getElem_set];split
  ·rename_i e;subst e;simp
  ·rfl
theorem BU{VF st:Int}{ins:Bool}{fl:Int}(hp:eN VF=true)(hs:aO st 1 7=true)(hf:aO fl 0 255=true):aO (aY VF st ins fl) 1 7=true∧(VF=6∨aY VF st ins fl=3):=by
 unfold eN at hp;simp only[UV,UF]at hp;unfold aY;by_cases h:dF VF=true
 ·rw[if_pos h];exact⟨by decide,.inr rfl⟩
 ·rw[if_neg h];have h6:VF=6:=by
   unfold dF at h;simp only[UV,UF,not_or]at h;rcases hp with (h1|h1)|h1
   ·exact h1
   ·exact absurd h1 h.1
   ·exact absurd h1 h.2
  rw[if_pos ⟨h6,hs,hf⟩];refine⟨?_,.inl h6⟩;unfold aO at hs ⊢;simp only[UB,UF]at hs ⊢;(repeat' split)<;>omega
theorem ER{VF:Int}{ins:Bool}{fl:Int}(h0:bF VF ins fl≠0):aO (bF VF ins fl) 1 7=true∧(VF=6∨bF VF ins fl=3):=by
 unfold bF at h0 ⊢;by_cases h1:aO fl 0 255=false
 ·rw[if_pos h1]at h0;exact absurd rfl h0
 rw[if_neg h1]at h0 ⊢;by_cases h2:dF VF=true
 ·rw[if_pos h2];exact⟨by decide,.inr rfl⟩
 rw[if_neg h2]at h0 ⊢;by_cases h3:VF=6∧eE fl 2=true∧eE fl 4=false∧eE fl 16=false
 ·rw[if_pos h3];refine⟨?_,.inl h3.1⟩;split<;>decide
 ·rw[if_neg h3]at h0;exact absurd rfl h0
theorem JJ{now lf:Int}(hn:bT now=true)(h0:0≤lf)(h1:lf≤10000):aO (now+lf) 0 2000000000=true:=by
 unfold bT aO at hn;unfold aO;simp only[UB,UF]at hn ⊢;omega
theorem GT{p:Pl}{x:Bb}(h:oD p x){s:Ss}(hs:s∈x.VK):eN s.VF=true:=by
 obtain⟨c,hc,ho⟩:=List.any_eq_true.1 (h.has s hs);obtain⟨i,hi,rfl⟩:=UY hc;have:=h.bind i hi;unfold cK at this;simp only[UB]at this;unfold cD at ho;simp only[UB,UF]at ho;rw[←ho.1.1];exact this.1.1.1.1.1
theorem wL{p:Pl}{x:Bb}{t:Tc}{now:Int}(h:oD p x)(hn:bT now=true)(ht:cC t=true){i:Nat}(hi:i < x.VK.length)(hpr:x.VK[i].VF=t.VF):oD p ⟨x.VN,x.VK.set i (nI p t now x.VK[i])⟩:=by
 have hlf:=jP p.lv t.VF (aY t.VF x.VK[i].state t.VJ t.VM);have hk5:(x.VK.set i (nI p t now x.VK[i])).map pH=x.VK.map pH:=sL pH _ i hi _ rfl;have hkS:(x.VK.set i (nI p t now x.VK[i])).map pT=x.VK.map pT:=sL pT _ i hi _ rfl;have hfl:aO t.VM 0 255=true:=by unfold cC at ht;simp only[UB]at ht;exact ht.2
 refine⟨h.pool,by simpa using h.most,h.len,h.bind,fun s hs=>?_,fun s hs=>?_,by rw[hk5];exact h.nodup,fun c hc=>by rw[hkS];exact h.all c hc⟩
 ·rcases List.mem_or_eq_of_mem_set hs with hs | rfl
  ·exact h.VK s hs
  ·have h1:=h.VK _ (UJ hi);unfold sQ at h1 ⊢;simp only[UB,UV,UF]at h1 ⊢;have h2:=BU (ins:=t.VJ) (hpr ▸ GT h (UJ hi)) h1.1.1.2 hfl;refine⟨⟨⟨h1.1.1.1,h2.1⟩,?_⟩,JJ hn hlf.1 hlf.2⟩;rcases h2.2 with e|e
   ·exact .inl (hpr.trans e)
   ·exact .inr e
 ·rcases List.mem_or_eq_of_mem_set hs with hs | rfl
  ·exact h.has s hs
  ·have:=h.has x.VK[i] (UJ hi);exact this
theorem yW{f:Int→Bool}:∀(c:Nat) (lo n:Int),cQ f lo c=some n→lo≤n∧n < lo+c∧f n=true
 | 0,lo,n,h=>by simp[cQ]at h
 | c+1,lo,n,h=>by
  unfold cQ at h;by_cases hf:f lo=true
  ·rw[if_pos hf]at h;injection h with h;subst h;exact⟨by omega,by omega,hf⟩
  ·rw[if_neg hf]at h;have:=yW c (lo+1) n h;exact⟨by omega,by omega,this.2.2⟩
theorem MP{p:Pl}{xs:List Bd}{VF:Int}{out:BA}{port n:Int}(h:jH p xs VF out port=some n):aO n p.low p.high=true∧dS xs VF out n=true:=by
 unfold jH at h;by_cases h1:(aO port p.low p.high&&dS xs VF out port)=true
 ·rw[if_pos h1]at h;injection h with h;subst h
  simp only[UB]at h1;exact h1
 ·rw[if_neg h1]at h;have fin:∀g m,cQ g p.low (p.high-p.low+1).toNat=some m→aO m p.low p.high=true∧g m=true:=by
   intro g m hm;have:=yW _ _ _ hm;refine⟨?_,this.2.2⟩;unfold aO;simp only[UB,UF];omega
  cases h2:cQ (fun n=>decide (n % 2=port % 2)&&dS xs VF out n) p.low (p.high-p.low+1).toNat with
  | some m=>
   rw[h2]at h;injection h with h;subst h
   have:=fin _ _ h2;simp only[UB]at this;exact⟨this.1,this.2.2⟩
  | none=>
   rw[h2]at h;exact fin _ _ h
theorem GX{p:Pl}{x:Bb}(h:oD p x)(s:BA):mW p.VL (dV x.VN (jO p s) s)=true:=by
 unfold dV
 cases hf:x.VN.find? (cY s) with
 | some c=>
  obtain⟨i,hi,rfl⟩:=UY (VA hf);have:=h.bind i hi;unfold cK at this;simp only[UB]at this;exact this.1.1.2
 | none=>
  have hp:=h.pool;unfold cU at hp;simp only[UB,UF]at hp;have h1:1≤p.VL.length:=hp.1.1.1.1.1.1.1.1;have hm:(bN s).toNat % p.VL.length < p.VL.length:=Nat.mod_lt _ (by omega);show mW p.VL (jO p s)=true;unfold jO mW;rw[UU hm,Option.getD_some];exact List.any_eq_true.2 ⟨_,UJ hm,by simp⟩
theorem MR{p:Pl}{x:Bb}{t:Tc}{c:Bd}(h:oD p x)(ht:cC t=true)(hf:x.VN.find? (cD t.VF t.addr t.port)=none)(hl:gJ p x.VN t.VF t.addr t.port=(c,0)):cK p x.VN c=true∧c.VF=t.VF∧c.inn=t.addr∧c.VH=t.port:=by
 unfold gJ at hl;rw[hf]at hl;dsimp only at hl
 cases hn:jH p x.VN t.VF (dV x.VN (jO p t.addr) t.addr) t.port with
 | none=>rw[hn]at hl;simp at hl
 | some n=>
  rw[hn]at hl;injection hl with hl _
  subst hl;have hin:=MP hn;have hpo:=GX h t.addr;unfold cC at ht;simp only[UB]at ht;refine⟨?_,rfl,rfl,rfl⟩;unfold cK;simp only[UB,Bool.not_eq_true'];refine⟨⟨⟨⟨⟨ht.1.1.1.1.1.1,ht.1.1.1.1.1.2⟩,ht.1.1.1.2⟩,hpo⟩,hin.1⟩,?_⟩;rw[List.any_eq_false];intro b hb hcl;unfold eJ at hcl;simp only[UV,UB,UF,Bool.not_eq_true',decide_eq_false_iff_not]at hcl;rcases hcl with ⟨e1,e2⟩|⟨e1,⟨e2,e3⟩|⟨e2,e3⟩⟩
  ·
   obtain⟨i,hi,rfl⟩:=UY hb;have hbk:dA p x=true:=by rw[mT];exact gI.2 h
   unfold dA at hbk;simp only[UB]at hbk;have hfi:=iA.1 hbk.1.2 i hi;unfold lY at hfi;simp only[UB,UF]at hfi;have h8:=hfi.1.2;rw[wQ e1]at h8;have hsm:(x.VN.find? (cY t.addr)).isSome=true:=by
    rw[iZ];exact List.any_eq_true.2 ⟨_,hb,by unfold cY;exact UE e1⟩
   rw[←wR (d:=jO p t.addr) hsm]at h8;exact e2 h8.symm
  ·exact List.find?_eq_none.1 hf b hb (by unfold cD;simp[e1,e2,e3])
  ·have hfr:=hin.2;rw[CZ]at hfr;simp only[Bool.not_eq_true']at hfr;exact List.any_eq_false.1 hfr b hb (by unfold cV;simp[e1,e2,e3])
theorem IF{p:Pl}{x:Bb}{s:Ss}{ys:List Bd}{c:Bd}(h:oD p x)(hm:(x.VK.length:Int) < p.most)(hys:ys=x.VN∨(ys=x.VN++[c]∧cK p x.VN c=true))(hc:c∈ys)(hk:rN c=pT s)(hv:sQ s=true)(hn:pH s ∉ x.VK.map pH):oD p ⟨ys,x.VK++[s]⟩:=by
 have hpm:=zE h.pool;have hbl:x.VN.length≤x.VK.length:=CN h.bind (fun c hc=>by rw[zU];exact UE (h.all c hc));have hsub:∀b,b∈x.VN→b∈ys:=by
  intro b hb;rcases hys with e|⟨e,_⟩<;>rw[e]
  ·exact hb
  ·exact List.mem_append_left _ hb
 have hcs:cD s.VF s.inn s.VH c=true:=by
  unfold rN pT at hk;simp only[Prod.mk.injEq]at hk;unfold cD;simp[hk.1,hk.2.1,hk.2.2]
 refine⟨h.pool,by simp;omega,?_,?_,fun q hq=>?_,fun q hq=>?_,?_,fun b hb=>?_⟩
 ·rcases hys with e | ⟨e,_⟩<;>rw[e]
  ·exact h.len
  ·simp;omega
 ·intro i hi;rcases hys with e|⟨e,h1⟩
  ·subst e;exact h.bind i hi
  ·subst e;dsimp only at hi ⊢;by_cases hlt:i < x.VN.length
   ·rw[List.getElem_append_left hlt,List.take_append_of_le_length (Nat.le_of_lt hlt)];exact h.bind i hlt
   ·have hie:i=x.VN.length:=by simp at hi;omega
    subst hie;simpa using h1
 ·rcases List.mem_append.1 hq with hq | hq
  ·exact h.VK q hq
  ·simp at hq;subst hq;exact hv
 ·rcases List.mem_append.1 hq with hq | hq
  ·obtain⟨b,hb,ho⟩:=List.any_eq_true.1 (h.has q hq);exact List.any_eq_true.2 ⟨b,hsub b hb,ho⟩
  ·simp at hq;subst hq;exact List.any_eq_true.2 ⟨c,hc,hcs⟩
 ·rw[List.map_append,List.nodup_append];refine⟨h.nodup,by simp,?_⟩;intro a ha b hb;simp at hb;subst hb;exact fun e=>hn (e ▸ ha)
 ·rw[List.map_append];rcases hys with e|⟨e,_⟩
  ·subst e;exact List.mem_append_left _ (h.all b hb)
  ·subst e;rcases List.mem_append.1 hb with hb|hb
   ·exact List.mem_append_left _ (h.all b hb)
   ·simp at hb;subst hb;exact List.mem_append_right _ (by simp[hk])
theorem KG{c:Bd}{t:Tc}{q s:Ss}(hs:pH s=pH q)(hk:rN c=pT s)(hp:s.peer=t.peer)(hpp:s.VG=t.VG):eU c t.peer t.VG q=true:=by
 unfold eU;rw[DC];unfold pH at hs;unfold rN pT at hk;unfold rN pT;simp only[Prod.mk.injEq]at hs hk ⊢;simp only[UB,UF];exact⟨⟨⟨hk.1.trans hs.1,hk.2.1.trans hs.2.1,hk.2.2.trans hs.2.2.1⟩,by rw[←hp];exact hs.2.2.2.1.symm⟩,by rw[←hpp];exact hs.2.2.2.2.symm⟩
theorem zA{p:Pl}{x:Bb}{t:Tc}{c:Bd}{now:Int}(h:oD p x)(hn:bT now=true)(ht:cC t=true)(hst:bF t.VF t.VJ t.VM≠0)(hm:(x.VK.length:Int) < p.most)(hcp:c.VF=t.VF)
  (hb:(nY x.VN c=x.VN∧c∈x.VN)∨(nY x.VN c=x.VN++[c]∧cK p x.VN c=true)) (hno:∀q∈x.VK,eU c t.peer t.VG q=false) :
  oD p ⟨nY x.VN c,x.VK++[uK p t c (bF t.VF t.VJ t.VM) now]⟩:=by
 have hlf:=jP p.lv t.VF (bF t.VF t.VJ t.VM);have hkk:rN c=pT (uK p t c (bF t.VF t.VJ t.VM) now):=by
  unfold rN pT uK;rw[hcp]
 have htw:=ht;unfold cC at htw;simp only[UB,UF]at htw;refine IF (c:=c) h hm ?_ ?_ hkk ?_ ?_
 ·rcases hb with ⟨e,_⟩ | ⟨e,h1⟩
  ·exact .inl e
  ·exact .inr ⟨e,h1⟩
 ·rcases hb with ⟨e,h1⟩ | ⟨e,_⟩<;>rw[e]
  ·exact h1
  ·simp
 ·have h2:=ER hst;unfold sQ uK;simp only[UB,UV,UF];exact⟨⟨⟨⟨htw.1.1.2,htw.1.2⟩,h2.1⟩,h2.2⟩,JJ hn hlf.1 hlf.2⟩
 ·intro hm;obtain⟨q,hq,e⟩:=List.mem_map.1 hm;have:=KG (c:=c) (t:=t) e.symm hkk rfl rfl;rw[hno q hq]at this;exact absurd this (by decide)
def OC(p:Pl)(x:Bb)(t:Tc)(c:Bd)(o:Bo):Prop:=oD p o.bib∧(∃k,o.bib.VN=x.VN∨(t.VJ=true∧o.bib.VN=x.VN++[k]))∧o.bind∈o.bib.VN∧(t.VJ=true→bO o.bind=⟨t.VF,t.addr,t.port⟩)∧(t.VJ=false→o.bind=c∧o.bib.VN=x.VN)
def QE(p:Pl)(x:Bb)(t:Tc)(o:Bo):Prop:=oD p o.bib∧(∃k,o.bib.VN=x.VN∨(t.VJ=true∧o.bib.VN=x.VN++[k]))∧o.bind∈o.bib.VN∧(t.VJ=true→bO o.bind=⟨t.VF,t.addr,t.port⟩)∧(t.VJ=false→x.VN.find? (cV t.VF t.addr t.port)=some o.bind∧o.bib.VN=x.VN)
theorem rQ{p:Pl}{x:Bb}{t:Tc}{c:Bd}{now:Int}(h:oD p x)(hn:bT now=true)(ht:cC t=true)(hin:t.VJ=false→c∈x.VN∧c.VF=t.VF)(hno:∀d,(t.VJ=true→bO d=⟨t.VF,t.addr,t.port⟩)→(t.VJ=false→d=c)→∀q∈x.VK,eU d t.peer t.VG q=false)(hc:(jX p x t c now).code=0) :
  OC p x t c (jX p x t c now):=by
 have hbk:dA p x=true:=by rw[mT];exact gI.2 h
 unfold jX at hc ⊢;by_cases h1:bF t.VF t.VJ t.VM=0
 ·rw[if_pos h1]at hc;simp[kY]at hc
 rw[if_neg h1]at hc ⊢;by_cases h2:p.most≤(x.VK.length:Int)
 ·rw[if_pos h2]at hc;simp[kY]at hc
 rw[if_neg h2]at hc ⊢;have hm:(x.VK.length:Int) < p.most:=by omega
 cases hi:t.VJ with
 | false=>
  rw[hi]at hc;simp only[UO,if_false,ne_eq,not_true_eq_false]at hc ⊢;obtain⟨hc1,hc2⟩:=hin hi;have hnb:nY x.VN c=x.VN:=by
   unfold nY;have hf:=qM hbk hc1 (h:=bO c) rfl;rw[if_neg (fun hh=>by rw[nT]at hh;rw[show cD c.VF c.inn c.VH=cD (bO c).VF (bO c).addr (bO c).port from rfl,hf]at hh;simp at hh)]
  have:=zA (c:=c) (now:=now) h hn ht h1 hm hc2 (.inl ⟨hnb,hc1⟩) (hno c (fun e=>by rw[hi]at e;cases e) (fun _=>rfl));rw[hi]at this;refine⟨this,⟨c,.inl hnb⟩,by show c∈nY x.VN c;rw[hnb];exact hc1,fun e=>(by rw[hi]at e;cases e),fun _=>⟨rfl,hnb⟩⟩
 | true=>
  rw[hi]at hc;simp only[if_true]at hc ⊢;generalize hlv:gJ p x.VN t.VF t.addr t.port=lv at *;obtain⟨d,k⟩:=lv;dsimp only at hc ⊢;by_cases hk:k≠0
  ·rw[if_pos hk]at hc;simp[kY]at hc;exact absurd hc hk
  rw[if_neg hk];have hk0:k=0:=by omega
  subst hk0;have main:((nY x.VN d=x.VN∧d∈x.VN)∨(nY x.VN d=x.VN++[d]∧cK p x.VN d=true))∧bO d=⟨t.VF,t.addr,t.port⟩:=by
   cases hf:x.VN.find? (cD t.VF t.addr t.port) with
   | some e=>
    unfold gJ at hlv;rw[hf]at hlv;injection hlv with hlv _
    subst hlv;have he:bO e=⟨t.VF,t.addr,t.port⟩:=(iJ (h:=⟨t.VF,t.addr,t.port⟩)).1 (VE hf);refine⟨.inl ⟨?_,VA hf⟩,he⟩;unfold nY;rw[if_neg (fun hh=>by rw[nT,show cD e.VF e.inn e.VH=cD (bO e).VF (bO e).addr (bO e).port from rfl,he,hf]at hh;simp at hh)]
   | none=>
    obtain⟨g1,g2,g3,g4⟩:=MR h ht hf hlv;have he:bO d=⟨t.VF,t.addr,t.port⟩:=by unfold bO;rw[g2,g3,g4]
    refine⟨.inr ⟨?_,g1⟩,he⟩;unfold nY;rw[if_pos (by rw[nT,g2,g3,g4,hf];rfl)]
  obtain⟨hb,he⟩:=main;have hdp:d.VF=t.VF:=congrArg En.VF he;have:=zA (c:=d) (now:=now) h hn ht h1 hm hdp hb (hno d (fun _=>he) (fun e=>by rw[hi]at e;cases e));rw[hi]at this;refine⟨this,⟨d,?_⟩,?_,fun _=>he,fun e=>(by rw[hi]at e;cases e)⟩
  ·rcases hb with ⟨e,_⟩ | ⟨e,_⟩
   ·exact .inl e
   ·exact .inr ⟨hi,e⟩
  ·show d∈nY x.VN d;rcases hb with ⟨e,h1⟩|⟨e,_⟩<;>rw[e]
   ·exact h1
   ·simp
theorem mU{p:Pl}{x:Bb}{t:Tc}{now:Int}(h:oD p x)(hn:bT now=true)(ht:cC t=true)(hc:(dO p x t now).code=0) :
  QE p x t (dO p x t now):=by
 have hbk:dA p x=true:=by rw[mT];exact gI.2 h
 unfold dO at hc ⊢
 cases hi:t.VJ with
 | true=>
  rw[hi]at hc;simp only[if_true]at hc ⊢
  cases hf:x.VN.find? (cD t.VF t.addr t.port) with
  | none=>
   rw[hf]at hc;dsimp only at hc ⊢;have:=rQ (c:=lB) (now:=now) h hn ht (fun e=>by rw[hi]at e;cases e) (fun d hd _ q hq=>by
    have hd:=hd hi
    cases hw:eU d t.peer t.VG q with
    | false=>rfl
    | true=>
     unfold eU at hw;simp only[UB]at hw;have h1:hH q=bO d:=(qD _ _).1 (by rw[sR];exact hw.1.1);obtain⟨b,hb,ho⟩:=List.any_eq_true.1 (h.has q hq);have h2:bO b=hH q:=(iJ (h:=hH q)).1 ho;exact absurd ((iJ (h:=⟨t.VF,t.addr,t.port⟩)).2 (h2.trans (h1.trans hd))) (List.find?_eq_none.1 hf b hb)) hc
   obtain⟨a1,a2,a3,a4,a5⟩:=this;exact⟨a1,a2,a3,a4,fun e=>(by rw[hi]at e;cases e)⟩
  | some c=>
   rw[hf]at hc;dsimp only at hc ⊢;have hcm:=VA hf;have he:bO c=⟨t.VF,t.addr,t.port⟩:=(iJ (h:=⟨t.VF,t.addr,t.port⟩)).1 (VE hf)
   cases hx:x.VK.findIdx? (eU c t.peer t.VG) with
   | none=>
    rw[hx]at hc;dsimp only at hc ⊢;have hg:¬mB p x t c=true:=by unfold mB;rw[hi];simp
    rw[if_neg hg]at hc ⊢;have hne:=List.findIdx?_eq_none_iff.1 hx;have:=rQ (c:=c) (now:=now) h hn ht (fun e=>by rw[hi]at e;cases e) (fun d hd _ q hq=>by
     have hd:=hd hi;have:=hne q hq;rw[qW (h:=bO c) rfl]at this;rw[qW (h:=bO c) (hd.trans he.symm)];exact this) hc
    obtain⟨a1,a2,a3,a4,a5⟩:=this;exact⟨a1,a2,a3,a4,fun e=>(by rw[hi]at e;cases e)⟩
   | some i=>
    dsimp only;obtain⟨hlt,hfd⟩:=pR hx;have hpr:x.VK[i].VF=t.VF:=by
     have hw:=VE hfd;unfold eU gR at hw;simp only[UB,UF]at hw;rw[←hw.1.1.1.1];exact congrArg En.VF he
    have hs:tQ x.VK i (nI p t now)=x.VK.set i (nI p t now x.VK[i]):=by unfold tQ;rw[UU hlt]
    rw[hs];exact⟨wL h hn ht hlt hpr,⟨c,.inl rfl⟩,hcm,fun _=>he,fun e=>(by rw[hi]at e;cases e)⟩
 | false=>
  rw[hi]at hc;simp only[UO,if_false]at hc ⊢
  cases hf:x.VN.find? (cV t.VF t.addr t.port) with
  | none=>rw[hf]at hc;simp[kY]at hc
  | some c=>
   rw[hf]at hc;dsimp only at hc ⊢;have hcm:=VA hf;have hcp:c.VF=t.VF:=by
    have:=VE hf;unfold cV at this;simp only[UB,UF]at this;exact this.1.1
   cases hx:x.VK.findIdx? (eU c t.peer t.VG) with
   | none=>
    rw[hx]at hc;dsimp only at hc ⊢;by_cases hg:mB p x t c=true
    ·rw[if_pos hg]at hc;simp[kY]at hc
    rw[if_neg hg]at hc ⊢;have hne:=List.findIdx?_eq_none_iff.1 hx;have:=rQ (c:=c) (now:=now) h hn ht (fun _=>⟨hcm,hcp⟩) (fun d _ hd q hq=>by
     have:=hd hi;subst this;have:=hne q hq;simpa using this) hc
    obtain⟨a1,a2,a3,a4,a5⟩:=this;have a6:=a5 hi;exact⟨a1,a2,a3,fun e=>(by rw[hi]at e;cases e),fun _=>⟨by rw[a6.1];exact hf,a6.2⟩⟩
   | some i=>
    dsimp only;obtain⟨hlt,hfd⟩:=pR hx;have hpr:x.VK[i].VF=t.VF:=by
     have hw:=VE hfd;unfold eU gR at hw;simp only[UB,UF]at hw;rw[←hw.1.1.1.1];exact hcp
    have hs:tQ x.VK i (nI p t now)=x.VK.set i (nI p t now x.VK[i]):=by unfold tQ;rw[UU hlt]
    rw[hs];exact⟨wL h hn ht hlt hpr,⟨c,.inl rfl⟩,hcm,fun e=>(by rw[hi]at e;cases e),fun _=>⟨hf,rfl⟩⟩
def SV(n B:Nat):Value→World→Prop:=fun v w=>∃(g k:Nat) (h mo fi:Int) (l:Lv),v=.agg #[.slice (some ⟨g,0,none⟩) k 2,iV 1000,iV h,iV mo,iV fi,iV l.udp,iV l.echo,iV l.opening,iV l.opn,iV l.closing]∧1≤k∧k≤2∧n≤g∧g≠B∧aA w g [.string ⟨#[203,0,113,1]⟩,.string ⟨#[203,0,113,2]⟩]
theorem RE(n B:Nat):cX (EB B) (SV n B):=fun v w w' ⟨g,k,h,mo,fi,l,h1,h2,h3,h4,h5,h6⟩ he=>⟨g,k,h,mo,fi,l,h1,h2,h3,h4,h5,EB.holds he h6 (by simp) h5⟩
theorem AG(B:Nat)(sa:OA)(len cap:Nat)(size:Int)(w:World)(hl:len≤1048576)(hs:iY w B sa len cap size) :
  Calls Tryz.prog 88 #[.pointer (some ⟨B,0,none⟩)] w fun e w'=>∃pa pc p,e=.returned (iK pa pc p)∧pL p∧p.VL.length≤pc∧bP cB 1 w' pa p.VL∧(∀g o,pa=some ⟨g,o,none⟩→w.heap.size≤g)∧iY w' B sa len cap size∧w.grownBy w' (some B):=by
 have hBW:B < w.heap.size:=(Dr.start hs).hB;have O0:Hid (aA (w.alloc (.cells jU.toArray 27)) w.heap.size gS):=aA.new w gS _;have D0:Hid (Dr w B sa len cap size (w.alloc (.cells jU.toArray 27))):=(Dr.start hs).alloc _;clear hs;go_enter Tryz.func88,Tryz.ntmps88
 go_upto_region 1 with fail
 have hRW:w.heap.size < (w.alloc (.cells jU.toArray 27)).heap.size:=O0.out.lt (by simp[gS]);generalize (w.alloc (.cells jU.toArray 27))=W at *;go_cut [3] (fun v wx=>∃X pa pc p,v=.pointer (some ⟨X,0,none⟩)∧PS w B sa len cap size w.heap.size X pa pc p wx∧p.VL.length≤2)
 case first=>
  rename_i J K2 hJ hK2;refine dY (EB B) (fun wx=>Dr w B sa len cap size wx∧aA wx w.heap.size gS∧W.heap.size≤wx.heap.size) [4,5,6,7,8,9,10,11,12,13,14,15,16,17,18,19,3] (by kernel_rfl) (by kernel_rfl) (⟨D0.out.below bR.drew,O0.out.drew,Nat.le_refl _⟩) ?_;refine cS.rel (n:=0) (FI W.drew.heap.size B [.string ⟨#[203,0,113,1]⟩,.string ⟨#[203,0,113,2]⟩]) (JG (by simp)) [FI W.drew.heap.size B [.string ⟨#[203,0,113,1]⟩,.string ⟨#[203,0,113,2]⟩]] rfl rfl ?_ ?_
  ·intro K' a wy ho hd hI hK;rw[wN rfl];clear hd ho;go_simp;exact hK _ _ ⟨wy.heap.size,rfl,hI.2.2,by have:=hI.1.le;omega,aA.new wy [.string ⟨#[203,0,113,1]⟩,.string ⟨#[203,0,113,2]⟩] _⟩ (EB.of (bR.alloc lR _)) ⟨hI.1.alloc _,hI.2.1.alloc _,by simp;omega⟩
  (apply cS.u xQ rfl;(·intro K' a wy ho hd hI hK;simp[aU,aG,aD,Region.binds]at ho hd;go_simp;(try go_bits);exact hK _ rfl);dsimp only[nA,cA])
  refine cS.rel (n:=2) (XR 0 1) (qG _ _ _) [_,_,XR 0 1] rfl rfl ?_ ?_
  ·intro K' a wy ho hd hI hK;rw[wN rfl];have q1:=hd ⟨1,.data⟩ (by simp) rfl;simp[aU,aG,aD]at q1;clear hd ho;go_simp;refine(eQ 2 B sa len cap size wy (by omega) hl hI.1.src).mono ?_;rintro e wz ⟨r,rfl,h0,h1,hsz,hgz⟩;exact hK _ _ ⟨r,rfl,by omega,by omega⟩ hgz ⟨hI.1.draw hsz hgz,hI.2.1.grown (by simp[gS]) hgz (by simp;omega),UL hI.2.2 hgz.size⟩
  refine cS.rel (n:=3) (XR 1 2) (qG _ _ _) [_,_,_,XR 1 2] rfl rfl ?_ ?_
  ·intro K' a wy ho hd hI hK;rw[wN rfl];obtain⟨r2,e2,l2,u2⟩: XR 0 1 (aD a 6) wy:=hd ⟨2,.data⟩ (by simp) rfl;simp[aD]at e2;clear hd ho;have hw:IntKind.i64.wrap (1+r2)=1+r2:=by rw[IntKind.wrap_i64];omega
   go_simp;exact hK _ _ ⟨1+r2,rfl,by omega,by omega⟩ (EB.of bR) hI
  refine cS.rel (n:=4) (OG W.drew.heap.size B [.string ⟨#[203,0,113,1]⟩,.string ⟨#[203,0,113,2]⟩]) (PH (by simp)) [_,_,_,_,OG W.drew.heap.size B [.string ⟨#[203,0,113,1]⟩,.string ⟨#[203,0,113,2]⟩]] rfl rfl ?_ ?_
  ·intro K' a wy ho hd hI hK;rw[wN rfl];obtain⟨g0,e0,n0,nb0,c0⟩: FI W.drew.heap.size B [.string ⟨#[203,0,113,1]⟩,.string ⟨#[203,0,113,2]⟩] (aD a 4) wy:=hd ⟨0,.data⟩ (by simp) rfl;simp[aD]at e0;obtain⟨r3,e3,l3,u3⟩: XR 1 2 (aD a 7) wy:=hd ⟨3,.data⟩ (by simp) rfl;simp[aD]at e3;clear hd ho;obtain⟨kk,hkk⟩:=UK (a:=r3) (by omega);subst hkk;have i0:(kk:Int)≤2:=by omega
   have i1:¬(kk:Int) < 0:=by omega
   go_simp;exact hK _ _ ⟨g0,kk,rfl,by omega,by simp;omega,n0,nb0,c0⟩ (EB.of bR) hI
  (apply cS.u xQ rfl;(·intro K' a wy ho hd hI hK;simp[aU,aG,aD,Region.binds]at ho hd;go_simp;(try go_bits);exact hK _ rfl);dsimp only[nA,cA])
  refine cS.rel (n:=6) (XR 0 5) (qG _ _ _) [_,_,_,_,_,_,XR 0 5] rfl rfl ?_ ?_
  ·intro K' a wy ho hd hI hK;rw[wN rfl];have q5:=hd ⟨5,.data⟩ (by simp) rfl;simp[aU,aG,aD]at q5;clear hd ho;go_simp;refine(eQ 6 B sa len cap size wy (by omega) hl hI.1.src).mono ?_;rintro e wz ⟨r,rfl,h0,h1,hsz,hgz⟩;exact hK _ _ ⟨r,rfl,by omega,by omega⟩ hgz ⟨hI.1.draw hsz hgz,hI.2.1.grown (by simp[gS]) hgz (by simp;omega),UL hI.2.2 hgz.size⟩
  refine cS.rel (n:=7) (XR 1000 1005) (qG _ _ _) [_,_,_,_,_,_,_,XR 1000 1005] rfl rfl ?_ ?_
  ·intro K' a wy ho hd hI hK;rw[wN rfl];obtain⟨r6,e6,l6,u6⟩: XR 0 5 (aD a 10) wy:=hd ⟨6,.data⟩ (by simp) rfl;simp[aD]at e6;clear hd ho;have hw:IntKind.i64.wrap (1000+r6)=1000+r6:=by rw[IntKind.wrap_i64];omega
   go_simp;exact hK _ _ ⟨1000+r6,rfl,by omega,by omega⟩ (EB.of bR) hI
  (apply cS.u xQ rfl;(·intro K' a wy ho hd hI hK;simp[aU,aG,aD,Region.binds]at ho hd;go_simp;(try go_bits);exact hK _ rfl);dsimp only[nA,cA])
  refine cS.rel (n:=9) (XR 0 7) (qG _ _ _) [_,_,_,_,_,_,_,_,_,XR 0 7] rfl rfl ?_ ?_
  ·intro K' a wy ho hd hI hK;rw[wN rfl];have q8:=hd ⟨8,.data⟩ (by simp) rfl;simp[aU,aG,aD]at q8;clear hd ho;go_simp;refine(eQ 8 B sa len cap size wy (by omega) hl hI.1.src).mono ?_;rintro e wz ⟨r,rfl,h0,h1,hsz,hgz⟩;exact hK _ _ ⟨r,rfl,by omega,by omega⟩ hgz ⟨hI.1.draw hsz hgz,hI.2.1.grown (by simp[gS]) hgz (by simp;omega),UL hI.2.2 hgz.size⟩
  refine cS.rel (n:=10) (XR 2 9) (qG _ _ _) [_,_,_,_,_,_,_,_,_,_,XR 2 9] rfl rfl ?_ ?_
  ·intro K' a wy ho hd hI hK;rw[wN rfl];obtain⟨r9,e9,l9,u9⟩: XR 0 7 (aD a 13) wy:=hd ⟨9,.data⟩ (by simp) rfl;simp[aD]at e9;clear hd ho;have hw:IntKind.i64.wrap (2+r9)=2+r9:=by rw[IntKind.wrap_i64];omega
   go_simp;exact hK _ _ ⟨2+r9,rfl,by omega,by omega⟩ (EB.of bR) hI
  (apply cS.u xQ rfl;(·intro K' a wy ho hd hI hK;simp[aU,aG,aD,Region.binds]at ho hd;go_simp;(try go_bits);exact hK _ rfl);dsimp only[nA,cA])
  refine cS.rel (n:=12) (XR 0 2) (qG _ _ _) [_,_,_,_,_,_,_,_,_,_,_,_,XR 0 2] rfl rfl ?_ ?_
  ·intro K' a wy ho hd hI hK;rw[wN rfl];have q11:=hd ⟨11,.data⟩ (by simp) rfl;simp[aU,aG,aD]at q11;clear hd ho;go_simp;refine(eQ 3 B sa len cap size wy (by omega) hl hI.1.src).mono ?_;rintro e wz ⟨r,rfl,h0,h1,hsz,hgz⟩;exact hK _ _ ⟨r,rfl,by omega,by omega⟩ hgz ⟨hI.1.draw hsz hgz,hI.2.1.grown (by simp[gS]) hgz (by simp;omega),UL hI.2.2 hgz.size⟩
  (apply cS.u xQ rfl;(·intro K' a wy ho hd hI hK;simp[aU,aG,aD,Region.binds]at ho hd;go_simp;(try go_bits);exact hK _ rfl);dsimp only[nA,cA])
  refine cS.rel (n:=14) (SG) (RC) [_,_,_,_,_,_,_,_,_,_,_,_,_,_,SG] rfl rfl ?_ ?_
  ·intro K' a wy ho hd hI hK;rw[wN rfl];have q13:=hd ⟨13,.data⟩ (by simp) rfl;simp[aU,aG,aD]at q13;clear hd ho;go_simp;refine(yB B sa len cap size wy hl hI.1.src).mono ?_;rintro e wz ⟨l,rfl,hd,hsz,hgz⟩;exact hK _ _ ⟨l,rfl,hd⟩ hgz ⟨hI.1.draw hsz hgz,hI.2.1.grown (by simp[gS]) hgz (by simp;omega),UL hI.2.2 hgz.size⟩
  refine cS.rel (n:=15) (SV W.drew.heap.size B) (RE _ _) [_,_,_,_,_,_,_,_,_,_,_,_,_,_,_,SV W.drew.heap.size B] rfl rfl ?_ ?_
  ·intro K' a wy ho hd hI hK;rw[wN rfl];obtain⟨g4,k4,e4,l4,u4,n4,nb4,c4⟩: OG W.drew.heap.size B [.string ⟨#[203,0,113,1]⟩,.string ⟨#[203,0,113,2]⟩] (aD a 8) wy:=hd ⟨4,.data⟩ (by simp) rfl;simp[aD]at e4;obtain⟨r7,e7,l7,u7⟩: XR 1000 1005 (aD a 11) wy:=hd ⟨7,.data⟩ (by simp) rfl;simp[aD]at e7;obtain⟨r10,e10,l10,u10⟩: XR 2 9 (aD a 14) wy:=hd ⟨10,.data⟩ (by simp) rfl;simp[aD]at e10;obtain⟨r12,e12,l12,u12⟩: XR 0 2 (aD a 16) wy:=hd ⟨12,.data⟩ (by simp) rfl;simp[aD]at e12;obtain⟨l14,e14,d14⟩: SG (aD a 18) wy:=hd ⟨14,.data⟩ (by simp) rfl;simp[aD]at e14;clear hd ho;unfold yI at e14;go_simp;exact hK _ _ ⟨g4,k4,r7,r10,r12,l14,rfl,l4,by simpa using u4,n4,nb4,c4⟩ (EB.of bR) hI
  refine cS.rel (n:=16) (zT W.drew.heap.size B gS) (vR (by simp[gS])) [_,_,_,_,_,_,_,_,_,_,_,_,_,_,_,_,zT W.drew.heap.size B gS] rfl rfl ?_ ?_
  ·intro K' a wy ho hd hI hK;rw[wN rfl];clear hd ho;go_simp;exact hK _ _ ⟨wy.heap.size,rfl,hI.2.2,by have:=hI.1.le;omega,aA.new wy gS _⟩ (EB.of (bR.alloc lR _)) ⟨hI.1.alloc _,hI.2.1.alloc _,by simp;omega⟩
  intro X wz hR hI;obtain⟨x0,x1,x2,x3,x4,x5,x6,x7,x8,x9,x10,x11,x12,x13,x14,x15,x16,-⟩:=hR;obtain⟨g,k,h,mo,fi,l,e15,hk1,hk2,hgn,hgB,hgc⟩:=x15;obtain⟨X,e16,hXn,hXB,hXc⟩:=x16;simp only[aG]at x1 x5 x8 x11 x13;simp only[aE,aE,x1,aE,aE,aE,x5,aE,aE,x8,aE,aE,x11,aE,x13,aE,e15,e16];clear x1 x5 x8 x11 x13;have hn:W.heap.size≤g:=hgn;have hXn':W.heap.size≤X:=hXn;have hgX:g≠X:=ON hgc hXc;have hXR:X≠w.heap.size:=by omega
  have z0:=hXc.cell (j:=0) rfl;have zf0:=hXc.free (j:=0) (by simp[gS]);have z1:=hXc.cell (j:=1) rfl;have zf1:=hXc.free (j:=1) (by simp[gS]);have z2:=hXc.cell (j:=2) rfl;have zf2:=hXc.free (j:=2) (by simp[gS]);have z3:=hXc.cell (j:=3) rfl;have zf3:=hXc.free (j:=3) (by simp[gS]);have z4:=hXc.cell (j:=4) rfl;have zf4:=hXc.free (j:=4) (by simp[gS]);have z5:=hXc.cell (j:=5) rfl;have zf5:=hXc.free (j:=5) (by simp[gS]);have z6:=hXc.cell (j:=6) rfl;have zf6:=hXc.free (j:=6) (by simp[gS]);have z7:=hXc.cell (j:=7) rfl;have zf7:=hXc.free (j:=7) (by simp[gS]);have z8:=hXc.cell (j:=8) rfl;have zf8:=hXc.free (j:=8) (by simp[gS]);have z9:=hXc.cell (j:=9) rfl;have zf9:=hXc.free (j:=9) (by simp[gS]);have HC:Hid (aA ((sW (sW (sW (sW (sW (sW (sW (sW (sW wz X 0 (.slice (some ⟨g,0,none⟩) k 2)) X 1 (iV 1000)) X 2 (iV h)) X 3 (iV mo)) X 4 (iV fi)) X 5 (iV l.udp)) X 6 (iV l.echo)) X 7 (iV l.opening)) X 8 (iV l.opn)).setCell ⟨X,9,none⟩ (iV l.closing)) g [.string ⟨#[203,0,113,1]⟩,.string ⟨#[203,0,113,2]⟩]):=(aA.setOther (aA.setOther (aA.setOther (aA.setOther (aA.setOther (aA.setOther (aA.setOther (aA.setOther (aA.setOther (aA.setOther hgc hgX (.slice (some ⟨g,0,none⟩) k 2)) hgX (iV 1000)) hgX (iV h)) hgX (iV mo)) hgX (iV fi)) hgX (iV l.udp)) hgX (iV l.echo)) hgX (iV l.opening)) hgX (iV l.opn)) hgX (iV l.closing));have HP:Hid (PS w B sa len cap size w.heap.size X (some ⟨g,0,none⟩) 2 ⟨([⟨#[203,0,113,1]⟩,⟨#[203,0,113,2]⟩]:List BA).take k,1000,h,mo,fi,l⟩ ((sW (sW (sW (sW (sW (sW (sW (sW (sW wz X 0 (.slice (some ⟨g,0,none⟩) k 2)) X 1 (iV 1000)) X 2 (iV h)) X 3 (iV mo)) X 4 (iV fi)) X 5 (iV l.udp)) X 6 (iV l.echo)) X 7 (iV l.opening)) X 8 (iV l.opn)).setCell ⟨X,9,none⟩ (iV l.closing))):=by
   have hlk:(([⟨#[203,0,113,1]⟩,⟨#[203,0,113,2]⟩]:List BA).take k).length=k:=by simp;omega
   refine⟨((((((((((hI.1.set X 0 (.slice (some ⟨g,0,none⟩) k 2) (by omega)).set X 1 (iV 1000) (by omega)).set X 2 (iV h) (by omega)).set X 3 (iV mo) (by omega)).set X 4 (iV fi) (by omega)).set X 5 (iV l.udp) (by omega)).set X 6 (iV l.echo) (by omega)).set X 7 (iV l.opening) (by omega)).set X 8 (iV l.opn) (by omega)).set X 9 (iV l.closing) (by omega)),(aA.setOther (aA.setOther (aA.setOther (aA.setOther (aA.setOther (aA.setOther (aA.setOther (aA.setOther (aA.setOther (aA.setOther hI.2.1 hXR.symm (.slice (some ⟨g,0,none⟩) k 2)) hXR.symm (iV 1000)) hXR.symm (iV h)) hXR.symm (iV mo)) hXR.symm (iV fi)) hXR.symm (iV l.udp)) hXR.symm (iV l.echo)) hXR.symm (iV l.opening)) hXR.symm (iV l.opn)) hXR.symm (iV l.closing)),?_,⟨by rw[hlk];exact hk1,by rw[hlk];omega,fun s hs=>?_⟩,by rw[hlk];exact hk2,GE [⟨#[203,0,113,1]⟩,⟨#[203,0,113,2]⟩] k (by simpa using hk2) HC.out (by simp),fun g' o e=>?_,by omega,Nat.le_refl _,hXR⟩
   ·have hb:=((((((((((hXc.set 0 (.slice (some ⟨g,0,none⟩) k 2)).set 1 (iV 1000)).set 2 (iV h)).set 3 (iV mo)).set 4 (iV fi)).set 5 (iV l.udp)).set 6 (iV l.echo)).set 7 (iV l.opening)).set 8 (iV l.opn)).set 9 (iV l.closing));unfold FA;rw[hlk];exact hb
   ·have:=List.mem_of_mem_take hs;simp at this;rcases this with rfl|rfl<;>decide
   ·injection e with e
    injection e with e _
    omega
  clear HC hgc hXc hI;intro K5 hK5;go_simp;refine hK5 _ _ ?_;show Exit.then _ _ _ _ _;refine hK2 _ _ (hJ _ _ ?_);(repeat apply Exists.intro)
  exact⟨⟨X,_,_,_,rfl,HP.out,by simp;omega⟩,rfl⟩
 case rest=>
 obtain⟨PX,pa,pc,p,rfl,hS,hp2⟩:=hcut;have S1:Hid (PS w B sa len cap size w.heap.size PX pa pc p wc):=hS;clear hS D0 O0;generalize wc=W1 at *;go_wp2_with fail
 refine(bS 2 B sa len cap size _ (by omega) hl S1.out.dr.src).mono ?_;rintro e W2 ⟨c2,rfl,hs,hg⟩;have S2:Hid (PS w B sa len cap size w.heap.size PX pa pc p W2):=S1.out.draw hs hg;clear hs hg S1;go_upto_if 21 with fail
 go_cut [] (fun wx=>∃p,PS w B sa len cap size w.heap.size PX pa pc p wx∧p.VL.length≤2)
 case first=>
  cases c2 with
  | false=>
   go_wp2_with fail
   go_meet;exact⟨p,S2.out,hp2⟩
  | true=>
   have HHp:aA W2 PX (bG pa pc p):=S2.out.box;have p2:=HHp.cell (j:=2) rfl;have pf2:=HHp.free (j:=2) (by simp);clear HHp;have S3:Hid _:=S2.out.set 2 (iV 1100) { p with high:=1100 } rfl rfl;go_wp2_with fail
   go_meet;exact⟨_,S3.out,hp2⟩
 case rest=>
 obtain⟨q,hS,hq2⟩:=hcut;have S4:Hid (PS w B sa len cap size w.heap.size PX pa pc q wc):=hS;clear hS S2;generalize wc=W4 at *;go_wp2_with fail
 refine(bS 25 B sa len cap size _ (by omega) hl S4.out.dr.src).mono ?_;rintro e W5 ⟨c5,rfl,hs,hg⟩;have S5:Hid (PS w B sa len cap size w.heap.size PX pa pc q W5):=S4.out.draw hs hg;clear hs hg S4;go_upto_if 24 with fail
 go_cut [] (fun wx=>∃pa pc q,PS w B sa len cap size w.heap.size PX pa pc q wx)
 case first=>
  cases c5 with
  | false=>
   go_wp2_with fail
   go_meet;exact⟨_,_,q,S5.out⟩
  | true=>
   go_wp2_with fail
   refine(aV 5 B sa len cap size _ (by omega) (by omega) hl S5.out.dr.src).mono ?_;rintro e W6 ⟨r5,rfl,lo5,hi5,hs,hg⟩;have S6:Hid (PS w B sa len cap size w.heap.size PX pa pc q W6):=S5.out.draw hs hg;clear hs hg S5;by_cases d0:r5=0
   case pos=>
    subst d0;clear lo5 hi5;obtain⟨gp,op,hpa,hgp,-⟩:=S6.out.sl.at (k:=0) (by have:=S6.out.ok.1;omega);subst hpa;have hq0:0 < q.VL.length:=by have:=S6.out.ok.1;omega
    have hq0I:(0:Int) < (q.VL.length:Int):=by omega
    have hqn:q.VL≠[]:=fun e=>by rw[e]at hq0;simp at hq0
    have hq3:q.VL.length≤3:=S6.out.ok.2.1;have hql:q.VL.length≤1048576:=by omega
    obtain⟨s0,hs⟩: ∃s,s=q.VL[0]:=⟨_,rfl⟩;have hz0:s0.size≤4:=by rw[hs];exact S6.out.ok.2.2 _ (UJ _)
    have HS0:Hid (s0=q.VL[0]):=hs;clear hs;have hle6:w.heap.size≤W6.heap.size:=S6.out.dr.le;have hB6:B < W6.drew.heap.size:=UX S6.out.dr.hB hle6;have hX6:PX < W6.heap.size:=S6.out.box.lt (by simp[FA]);have hR6:w.heap.size < W6.heap.size:=S6.out.out.lt (by simp[gS]);have HQZ:Hid (∀s∈q.VL,s.size≤4):=S6.out.ok.2.2;go_upto_region 8 with fail
    refine dY (EB B) (fun wx=>PS w B sa len cap size w.heap.size PX (some ⟨gp,op,none⟩) pc q wx∧W6.heap.size≤wx.heap.size) [35,36,37,38,39,40,41,42,43,44,45,46,47,48] (by kernel_rfl) (by kernel_rfl) (⟨S6.out.below bR.drew,Nat.le_refl _⟩) ?_;refine cS.rel (n:=0) (SH W6.drew.heap.size 9) (RD hB6) [SH W6.drew.heap.size 9] rfl rfl ?_ ?_
    ·intro K' a wy ho hd hI hK;rw[wN rfl];clear hd ho;go_simp;exact hK _ _ ⟨wy.heap.size,rfl,World.ownsRow_made wy #[] 0 hI.2 (by unfold maxLen;omega) rfl⟩ (EB.of (bR.alloc lR _)) ⟨hI.1.alloc _,by simp;omega⟩
    (apply cS.u xQ rfl;(·intro K' a wy ho hd hI hK;simp[aU,aG,aD,Region.binds]at ho hd;go_simp;(try go_bits);exact hK _ rfl);dsimp only[nA,cA])
    refine cS.val (n:=2) (fun v=>[_,_,aG v]) (fun _=>rfl) rfl ?_;apply Exists.intro;refine And.intro ?_ ?_
    ·intro K' a wy ho hd hI hK;rw[wN rfl];have q1:=hd ⟨1,.data⟩ (by simp) rfl;simp[aU,aG,aD]at q1;clear hd ho;have p0:=hI.1.box.cell (j:=0) rfl;obtain⟨g9,o9,e9,_,hat⟩:=hI.1.sl.at hq0;injection e9 with e9
     injection e9 with e91 e92
     subst e91 e92;have hs0:wy.cell? ⟨gp,op,none⟩=some (.string s0):=by
      have h:=hat 0 hq0 0 _ rfl;rw[←HS0.out]at h;simpa using h
     go_simp;try go_bits
     exact hK _ _ rfl (EB.of bR) hI
    refine cS.rel (n:=3) (SJ W6.drew.heap.size 9 q.VL) (RF hB6) [_,_,_,SJ W6.drew.heap.size 9 q.VL] rfl rfl ?_ ?_
    ·intro K' a wy ho hd hI hK;rw[wN rfl];obtain⟨g0,e0,r0⟩: SH W6.drew.heap.size 9 (aD a 35) wy:=hd ⟨0,.data⟩ (by simp) rfl;simp[aD]at e0;have q2:=hd ⟨2,.data⟩ (by simp) rfl;simp[aU,aG,aD]at q2;clear hd ho;obtain⟨v2,w2,hrun,h22,h23⟩:=CS (ty:=23) (cap:=pc) (g0:=g0) hI.1.sl hqn hql hI.2;refine dI (.tmp 35) (.tmp 37) _ rfl ?_ ?_ hrun (hK _ _ h22 (EB.of h23) ⟨hI.1.below h23,UL hI.2 h23.size⟩)
     ·simpa[Act.eval] using e0
     ·simpa[Act.eval] using q2
    (apply cS.u xQ rfl;(·intro K' a wy ho hd hI hK;simp[aU,aG,aD,Region.binds]at ho hd;go_simp;(try go_bits);exact hK _ rfl);dsimp only[nA,cA])
    refine cS.val (n:=5) (fun v=>[_,_,_,_,_,aG v]) (fun _=>rfl) rfl ?_;apply Exists.intro;refine And.intro ?_ ?_
    ·intro K' a wy ho hd hI hK;rw[wN rfl];have q4:=hd ⟨4,.data⟩ (by simp) rfl;simp[aU,aG,aD]at q4;clear hd ho;have p0:=hI.1.box.cell (j:=0) rfl;obtain⟨g9,o9,e9,_,hat⟩:=hI.1.sl.at hq0;injection e9 with e9
     injection e9 with e91 e92
     subst e91 e92;have hs0:wy.cell? ⟨gp,op,none⟩=some (.string s0):=by
      have h:=hat 0 hq0 0 _ rfl;rw[←HS0.out]at h;simpa using h
     go_simp;try go_bits
     exact hK _ _ rfl (EB.of bR) hI
    (apply cS.u xQ rfl;(·intro K' a wy ho hd hI hK;simp[aU,aG,aD,Region.binds]at ho hd;go_simp;(try go_bits);exact hK _ rfl);dsimp only[nA,cA])
    refine cS.val (n:=7) (fun v=>[_,_,_,_,_,_,_,aG v]) (fun _=>rfl) rfl ?_;apply Exists.intro;refine And.intro ?_ ?_
    ·intro K' a wy ho hd hI hK;rw[wN rfl];have q6:=hd ⟨6,.data⟩ (by simp) rfl;simp[aU,aG,aD]at q6;clear hd ho;have p0:=hI.1.box.cell (j:=0) rfl;obtain⟨g9,o9,e9,_,hat⟩:=hI.1.sl.at hq0;injection e9 with e9
     injection e9 with e91 e92
     subst e91 e92;have hs0:wy.cell? ⟨gp,op,none⟩=some (.string s0):=by
      have h:=hat 0 hq0 0 _ rfl;rw[←HS0.out]at h;simpa using h
     go_simp;try go_bits
     exact hK _ _ rfl (EB.of bR) hI
    refine cS.rel (n:=8) (FI W6.drew.heap.size B [.string s0,.string ⟨#[97,98,99]⟩]) (JG (by simp)) [_,_,_,_,_,_,_,_,FI W6.drew.heap.size B [.string s0,.string ⟨#[97,98,99]⟩]] rfl rfl ?_ ?_
    ·intro K' a wy ho hd hI hK;rw[wN rfl];have q7:=hd ⟨7,.data⟩ (by simp) rfl;simp[aU,aG,aD]at q7;clear hd ho;go_simp;exact hK _ _ ⟨wy.heap.size,rfl,hI.2,by have:=hI.1.dr.le;have:=hI.1.dr.hB;omega,aA.new wy [.string s0,.string ⟨#[97,98,99]⟩] _⟩ (EB.of (bR.alloc lR _)) ⟨hI.1.alloc _,by simp;omega⟩
    (apply cS.u xQ rfl;(·intro K' a wy ho hd hI hK;simp[aU,aG,aD,Region.binds]at ho hd;go_simp;(try go_bits);exact hK _ rfl);dsimp only[nA,cA])
    refine cS.rel (n:=10) (XR 0 1) (qG _ _ _) [_,_,_,_,_,_,_,_,_,_,XR 0 1] rfl rfl ?_ ?_
    ·intro K' a wy ho hd hI hK;rw[wN rfl];have q9:=hd ⟨9,.data⟩ (by simp) rfl;simp[aU,aG,aD]at q9;clear hd ho;go_simp;refine(eQ 2 B sa len cap size wy (by omega) hl hI.1.dr.src).mono ?_;rintro e wz ⟨r,rfl,h0,h1,hsz,hgz⟩;exact hK _ _ ⟨r,rfl,by omega,by omega⟩ hgz ⟨hI.1.draw hsz hgz,UL hI.2 hgz.size⟩
    refine cS.rel (n:=11) (QJ B 4) (NO) [_,_,_,_,_,_,_,_,_,_,_,QJ B 4] rfl rfl ?_ ?_
    ·intro K' a wy ho hd hI hK;rw[wN rfl];obtain⟨g8,e8,n8,nb8,c8⟩: FI W6.drew.heap.size B [.string s0,.string ⟨#[97,98,99]⟩] (aD a 43) wy:=hd ⟨8,.data⟩ (by simp) rfl;simp[aD]at e8;obtain⟨r10,e10,l10,u10⟩: XR 0 1 (aD a 45) wy:=hd ⟨10,.data⟩ (by simp) rfl;simp[aD]at e10;clear hd ho;obtain⟨kk,hkk⟩:=UK (a:=r10) (by omega);subst hkk;have i0:(kk:Int) < 2:=by omega
     obtain⟨ss,hss,hzz⟩: ∃ss,wy.cell? ⟨g8,kk,none⟩=some (.string ss)∧ss.size≤4:=by
      have hk2:kk=0∨kk=1:=by omega
      rcases hk2 with rfl|rfl
      ·exact⟨s0,c8.cell rfl,hz0⟩
      ·exact⟨⟨#[97,98,99]⟩,c8.cell rfl,by decide⟩
     go_simp;exact hK _ _ ⟨g8,kk,ss,rfl,nb8,hss,hzz⟩ (EB.of bR) hI
    refine cS.rel (n:=12) (JN 4) (JH) [_,_,_,_,_,_,_,_,_,_,_,_,JN 4] rfl rfl ?_ ?_
    ·intro K' a wy ho hd hI hK;rw[wN rfl];obtain⟨b11,k11,s11,e11,nb11,c11,z11⟩: QJ B 4 (aD a 46) wy:=hd ⟨11,.data⟩ (by simp) rfl;simp[aD]at e11;clear hd ho;have p0:=hI.1.box.cell (j:=0) rfl;obtain⟨g9,o9,e9,_,hat⟩:=hI.1.sl.at hq0;injection e9 with e9
     injection e9 with e91 e92
     subst e91 e92;have hs0:wy.cell? ⟨gp,op,none⟩=some (.string s0):=by
      have h:=hat 0 hq0 0 _ rfl;rw[←HS0.out]at h;simpa using h
     go_simp;exact hK _ _ ⟨s11,rfl,z11⟩ (EB.of bR) hI
    refine cS.rel (n:=13) (LR B 4) (NR) [_,_,_,_,_,_,_,_,_,_,_,_,_,LR B 4] rfl rfl ?_ ?_
    ·intro K' a wy ho hd hI hK;rw[wN rfl];obtain⟨s12,e12,z12⟩: JN 4 (aD a 47) wy:=hd ⟨12,.data⟩ (by simp) rfl;simp[aD]at e12;clear hd ho;go_simp;exact hK _ _ ⟨wy.heap.size,s12,rfl,by have:=hI.1.dr.le;have:=hI.1.dr.hB;omega,z12,aA.new wy [.string s12] _⟩ (EB.of (bR.alloc lR _)) ⟨hI.1.alloc _,by simp;omega⟩
    intro X wz hR hI;obtain⟨x0,x1,x2,x3,x4,x5,x6,x7,x8,x9,x10,x11,x12,x13,-⟩:=hR;have r3:=x3;obtain⟨g13,s13,e13,nb13,z13,c13⟩:=x13;simp only[aG]at x1 x2 x4 x5 x6 x7 x9;simp only[aE,aE,x1,x2,aE,x4,x5,x6,x7,aE,x9,aE,aE,aE,e13];clear x1 x2 x4 x5 x6 x7 x9;obtain⟨i0,hi,hi0,hi1,hi2⟩:=info_parts Tryz.infoTx;obtain⟨a3,c3,e3,hc3,-⟩:=(xV.shape mL (w0:=wz) ⟨r3,Below.refl _ _⟩: ∃a' cap,X 3=.slice a' q.VL.length cap∧q.VL.length≤cap∧eX cB 1 W6.drew.heap.size wz a' q.VL);unfold SJ at r3;rw[e3]at r3;obtain⟨v6,w6,hrun,h62,h63,-,-⟩:=run_append_own_at (P:=Tryz.prog) wz W6.drew.heap.size 23 23 9 i0 _ 1 _ Tryz.underlying23 hi hi0 hi1 hi2 rfl (by decide) _ _ _ r3 ⟨g13,0,none⟩ 1 1 [.string s13] rfl (fun i u hu=>by rw[rK];exact c13.cell hu) (fun u hu=>by simp at hu;subst hu;rfl) (by unfold maxLen;omega) (by omega) hI.2;have hown:w6.ownsRow W6.drew.heap.size 9 1 v6 (q.VL++[s13]).length (dL cB (q.VL++[s13])):=by rw[kB,List.length_append];exact h62
    obtain⟨a6,c6,e6,hc6,hs6⟩:=(xV.shape mL (w0:=w6) ⟨hown,Below.refl _ _⟩: ∃a' cap,v6=.slice a' (q.VL++[s13]).length cap∧(q.VL++[s13]).length≤cap∧eX cB 1 W6.drew.heap.size w6 a' (q.VL++[s13]));subst e6;have P6:=hI.1.row h63 W6.heap.size (fun k e=>(fC r3 e).1) hle6 hX6 hR6 (fun g o e=>by injection e with e;injection e with e1 _;omega);have hall:∀s∈q.VL++[s13],s.size≤4:=fun s hs=>by
     rcases List.mem_append.1 hs with h|h
     ·exact HQZ.out s h
     ·simp at h;subst h;exact z13
    have hokp:pL { q with VL:=q.VL++[s13] }:=⟨by simp,by simp;omega,hall⟩;have hfar:∀g o,a6=some ⟨g,o,none⟩→w.heap.size≤g∧g≠PX∧g≠w.heap.size:=fun g o e=>by
     have h9:=(fC hown (g:=g) (by rw[e];rfl)).1;have h8:W6.heap.size≤g:=h9;exact⟨by omega,by omega,by omega⟩
    obtain⟨ln,hln⟩: ∃n,n=(q.VL++[s13]).length:=⟨_,rfl⟩;have HP:Hid (PS w B sa len cap size w.heap.size PX a6 c6 { q with VL:=q.VL++[s13] } (w6.setCell ⟨PX,0,none⟩ (.slice a6 ln c6))):=by unfold Hid;rw[hln];exact P6.setA a6 c6 (q.VL++[s13]) hokp hc6 hs6.is hfar
    rw[←hln]at hrun;clear hln;have HRUN:Hid _:=hrun;have p1:=P6.box.cell (j:=0) rfl;have p2:=P6.box.free (j:=0) (by simp[FA]);clear hrun hown hs6 P6 r3 c13 hI hall hokp hfar h62 h63;simp only[e3,e13];simp only[List.length_cons,List.length_nil,List.drop_succ_cons,List.drop_zero,UI,Nat.reduceAdd];intro K5 hK5;with_reducible refine dI (.tmp 38) (.tmp 48) _ rfl ?_ ?_ HRUN.out (hK5 _ _ ?_)
    ·simp[Act.eval,Act.put]
    ·simp[Act.eval,Act.put]
    intro K6 hK6;go_simp;refine hK6 _ _ ?_;intro K7 hK7;go_simp;refine hK7 _ _ ?_;simp only[fN];go_wp2_with fail
    go_meet;exact⟨_,_,_,HP.out⟩
   have b0:(r5==0)=false:=by simp[d0]
   by_cases d1:r5=1
   case pos=>
    subst d1;clear lo5 hi5;have A6:Hid (PS w B sa len cap size w.heap.size PX pa pc q (W6.alloc (.cells #[iV 0,iV 1,iV 65535,iV 65536] 2))):=S6.out.alloc _;have hB6:B < W6.heap.size:=UX S6.out.dr.hB S6.out.dr.le;go_wp2_with fail
    refine(aV 4 B sa len cap size _ (by omega) (by omega) hl A6.out.dr.src).mono ?_;rintro e W7 ⟨r,rfl,r0,r1,hs2,hg2⟩;obtain⟨k,rfl⟩:=UK r0;obtain⟨y,hcell,hy⟩:=qA (k:=k) [0,1,65535,65536] hg2 hB6 (by simp;omega);have r1':(k:Int) < 4:=by omega
    have S7:Hid (PS w B sa len cap size w.heap.size PX pa pc q W7):=A6.out.draw hs2 hg2;clear hs2 hg2 r0 r1 A6 S6 hy;have HHp:aA W7 PX (bG pa pc q):=S7.out.box;have p1:=HHp.cell (j:=1) rfl;have pf1:=HHp.free (j:=1) (by simp);clear HHp;have S8:Hid _:=S7.out.set 1 (iV y) { q with low:=y } rfl rfl;clear S7;go_wp2_with fail
    go_meet;exact⟨_,_,_,S8.out⟩
   have b1:(r5==1)=false:=by simp[d1]
   by_cases d2:r5=2
   case pos=>
    subst d2;clear lo5 hi5;have A6:Hid (PS w B sa len cap size w.heap.size PX pa pc q (W6.alloc (.cells #[iV 0,iV 60,iV 61] 2))):=S6.out.alloc _;have hB6:B < W6.heap.size:=UX S6.out.dr.hB S6.out.dr.le;go_wp2_with fail
    refine(aV 3 B sa len cap size _ (by omega) (by omega) hl A6.out.dr.src).mono ?_;rintro e W7 ⟨r,rfl,r0,r1,hs2,hg2⟩;obtain⟨k,rfl⟩:=UK r0;obtain⟨y,hcell,hy⟩:=qA (k:=k) [0,60,61] hg2 hB6 (by simp;omega);have r1':(k:Int) < 3:=by omega
    have S7:Hid (PS w B sa len cap size w.heap.size PX pa pc q W7):=A6.out.draw hs2 hg2;clear hs2 hg2 r0 r1 A6 S6 hy;have HHp:aA W7 PX (bG pa pc q):=S7.out.box;have p3:=HHp.cell (j:=3) rfl;have pf3:=HHp.free (j:=3) (by simp);clear HHp;have S8:Hid _:=S7.out.set 3 (iV y) { q with most:=y } rfl rfl;clear S7;go_wp2_with fail
    go_meet;exact⟨_,_,_,S8.out⟩
   have b2:(r5==2)=false:=by simp[d2]
   by_cases d3:r5=3
   case pos=>
    subst d3;clear lo5 hi5;have A6:Hid (PS w B sa len cap size w.heap.size PX pa pc q (W6.alloc (.cells #[iV (-1),iV 3] 2))):=S6.out.alloc _;have hB6:B < W6.heap.size:=UX S6.out.dr.hB S6.out.dr.le;go_wp2_with fail
    refine(aV 2 B sa len cap size _ (by omega) (by omega) hl A6.out.dr.src).mono ?_;rintro e W7 ⟨r,rfl,r0,r1,hs2,hg2⟩;obtain⟨k,rfl⟩:=UK r0;obtain⟨y,hcell,hy⟩:=qA (k:=k) [(-1),3] hg2 hB6 (by simp;omega);have r1':(k:Int) < 2:=by omega
    have S7:Hid (PS w B sa len cap size w.heap.size PX pa pc q W7):=A6.out.draw hs2 hg2;clear hs2 hg2 r0 r1 A6 S6 hy;have HHp:aA W7 PX (bG pa pc q):=S7.out.box;have p4:=HHp.cell (j:=4) rfl;have pf4:=HHp.free (j:=4) (by simp);clear HHp;have S8:Hid _:=S7.out.set 4 (iV y) { q with filter:=y } rfl rfl;clear S7;go_wp2_with fail
    go_meet;exact⟨_,_,_,S8.out⟩
   have b3:(r5==3)=false:=by simp[d3]
   have A6:Hid (PS w B sa len cap size w.heap.size PX pa pc q (W6.alloc (.cells #[iV 65535,iV 65536,iV 999] 2))):=S6.out.alloc _;have hB6:B < W6.heap.size:=UX S6.out.dr.hB S6.out.dr.le;go_wp2_with fail
   refine(aV 3 B sa len cap size _ (by omega) (by omega) hl A6.out.dr.src).mono ?_;rintro e W7 ⟨r,rfl,r0,r1,hs2,hg2⟩;obtain⟨k,rfl⟩:=UK r0;obtain⟨y,hcell,hy⟩:=qA (k:=k) [65535,65536,999] hg2 hB6 (by simp;omega);have r1':(k:Int) < 3:=by omega
   have S7:Hid (PS w B sa len cap size w.heap.size PX pa pc q W7):=A6.out.draw hs2 hg2;clear hs2 hg2 r0 r1 A6 S6 hy;have HHp:aA W7 PX (bG pa pc q):=S7.out.box;have p2:=HHp.cell (j:=2) rfl;have pf2:=HHp.free (j:=2) (by simp);clear HHp;have S8:Hid _:=S7.out.set 2 (iV y) { q with high:=y } rfl rfl;clear S7;go_wp2_with fail
   go_meet;exact⟨_,_,_,S8.out⟩
 case rest=>
 obtain⟨pa',pc',q',hS⟩:=hcut;have S9:Hid (PS w B sa len cap size w.heap.size PX pa' pc' q' wc):=hS;clear hS S5;generalize wc=W9 at *;have HHp:aA W9 PX (bG pa' pc' q'):=S9.out.box;obtain⟨p0,p1,p2,p3,p4,p5,p6,p7,p8,p9⟩:=HHp.c10;clear HHp;have HHz:aA W9 w.heap.size jU:=S9.out.out;obtain⟨z0,z1,z2,z3,z4,z5,z6,z7,z8,z9⟩:=HHz.c10;obtain⟨zf0,zf1,zf2,zf3,zf4,zf5,zf6,zf7,zf8,zf9⟩:=HHz.f10;have HRR:Hid (aA ((sW (sW (sW (sW (sW (sW (sW (sW (sW W9 w.heap.size 0 (.slice pa' q'.VL.length pc')) w.heap.size 1 (iV q'.low)) w.heap.size 2 (iV q'.high)) w.heap.size 3 (iV q'.most)) w.heap.size 4 (iV q'.filter)) w.heap.size 5 (iV q'.lv.udp)) w.heap.size 6 (iV q'.lv.echo)) w.heap.size 7 (iV q'.lv.opening)) w.heap.size 8 (iV q'.lv.opn)).setCell ⟨w.heap.size,9,none⟩ (iV q'.lv.closing)) w.heap.size (bG pa' pc' q')):=((((((((((HHz.set 0 (.slice pa' q'.VL.length pc')).set 1 (iV q'.low)).set 2 (iV q'.high)).set 3 (iV q'.most)).set 4 (iV q'.filter)).set 5 (iV q'.lv.udp)).set 6 (iV q'.lv.echo)).set 7 (iV q'.lv.opening)).set 8 (iV q'.lv.opn)).set 9 (iV q'.lv.closing));have DD:Hid (Dr w B sa len cap size ((sW (sW (sW (sW (sW (sW (sW (sW (sW W9 w.heap.size 0 (.slice pa' q'.VL.length pc')) w.heap.size 1 (iV q'.low)) w.heap.size 2 (iV q'.high)) w.heap.size 3 (iV q'.most)) w.heap.size 4 (iV q'.filter)) w.heap.size 5 (iV q'.lv.udp)) w.heap.size 6 (iV q'.lv.echo)) w.heap.size 7 (iV q'.lv.opening)) w.heap.size 8 (iV q'.lv.opn)).setCell ⟨w.heap.size,9,none⟩ (iV q'.lv.closing))):=((((((((((S9.out.dr.set w.heap.size 0 (.slice pa' q'.VL.length pc') lR).set w.heap.size 1 (iV q'.low) lR).set w.heap.size 2 (iV q'.high) lR).set w.heap.size 3 (iV q'.most) lR).set w.heap.size 4 (iV q'.filter) lR).set w.heap.size 5 (iV q'.lv.udp) lR).set w.heap.size 6 (iV q'.lv.echo) lR).set w.heap.size 7 (iV q'.lv.opening) lR).set w.heap.size 8 (iV q'.lv.opn) lR).set w.heap.size 9 (iV q'.lv.closing) lR);have SS:Hid (bP cB 1 ((sW (sW (sW (sW (sW (sW (sW (sW (sW W9 w.heap.size 0 (.slice pa' q'.VL.length pc')) w.heap.size 1 (iV q'.low)) w.heap.size 2 (iV q'.high)) w.heap.size 3 (iV q'.most)) w.heap.size 4 (iV q'.filter)) w.heap.size 5 (iV q'.lv.udp)) w.heap.size 6 (iV q'.lv.echo)) w.heap.size 7 (iV q'.lv.opening)) w.heap.size 8 (iV q'.lv.opn)).setCell ⟨w.heap.size,9,none⟩ (iV q'.lv.closing)) pa' q'.VL):=(bP.grown (bP.grown (bP.grown (bP.grown (bP.grown (bP.grown (bP.grown (bP.grown (bP.grown (bP.grown S9.out.sl (aH _ w.heap.size 0 _) (.inr fun g o e=>(S9.out.far g o e).2.2)) (aH _ w.heap.size 1 _) (.inr fun g o e=>(S9.out.far g o e).2.2)) (aH _ w.heap.size 2 _) (.inr fun g o e=>(S9.out.far g o e).2.2)) (aH _ w.heap.size 3 _) (.inr fun g o e=>(S9.out.far g o e).2.2)) (aH _ w.heap.size 4 _) (.inr fun g o e=>(S9.out.far g o e).2.2)) (aH _ w.heap.size 5 _) (.inr fun g o e=>(S9.out.far g o e).2.2)) (aH _ w.heap.size 6 _) (.inr fun g o e=>(S9.out.far g o e).2.2)) (aH _ w.heap.size 7 _) (.inr fun g o e=>(S9.out.far g o e).2.2)) (aH _ w.heap.size 8 _) (.inr fun g o e=>(S9.out.far g o e).2.2)) (aH _ w.heap.size 9 _) (.inr fun g o e=>(S9.out.far g o e).2.2))
 have OK:Hid (pL q'∧q'.VL.length≤pc'∧∀g o,pa'=some ⟨g,o,none⟩→w.heap.size≤g):=⟨S9.out.ok,S9.out.cap,fun g o e=>(S9.out.far g o e).1⟩;clear HHz S9;go_wp2_with fail
 exact VB (aF Tryz.results88 _ _ _ _ _ rfl HRR.out Tryz.underlying27 rfl (show (Tryz.prog.info? 27).map (·.size)=some 10 by kernel_rfl)) rfl ⟨pa',pc',q',rfl,OK.out.1,OK.out.2.1,SS.out,OK.out.2.2,DD.out.src,DD.out.grown⟩
structure DB(w:World)(B:Nat)(sa:OA)(len cap:Nat)(size:Int)(ks:List (Nat × List Value))(wx:World):Prop where
 dr:Dr w B sa len cap size wx
 k:∀e∈ks,aA wx e.1 e.2
 z:∀e∈ks,0 < e.2.length
 n:∀e∈ks,w.heap.size≤e.1
section
variable {w wx wy:World} {B:Nat} {sa:OA} {len cap:Nat} {size:Int} {ks:List (Nat × List Value)}
theorem DB.draw(h:DB w B sa len cap size ks wx)(hs:iY wy B sa len cap size)(hg:wx.grownBy wy (some B)):DB w B sa len cap size ks wy :=
 ⟨h.dr.draw hs hg,fun e he=>(h.k e he).grown (h.z e he) hg (by have:=h.n e he;have:=h.dr.hB;simp;omega),h.z,h.n⟩
theorem DB.below(h:DB w B sa len cap size ks wx)(hb:Below wx.heap.size wx wy):DB w B sa len cap size ks wy :=
 ⟨h.dr.below hb,fun e he=>(h.k e he).kept (h.z e he) hb,h.z,h.n⟩
theorem DB.push(h:DB w B sa len cap size ks wx)(vs:List Value)(hv:0 < vs.length)(T:TypeId):DB w B sa len cap size ((wx.heap.size,vs)::ks) (wx.alloc (.cells vs.toArray T)):=by
 have h2:=h.below ((Below.refl wx.heap.size wx).alloc lR (.cells vs.toArray T));refine⟨h2.dr,fun e he=>?_,fun e he=>?_,fun e he=>?_⟩
 ·rcases UH.1 he with rfl | he
  ·exact aA.new wx vs T
  ·exact h2.k e he
 ·rcases UH.1 he with rfl | he
  ·exact hv
  ·exact h.z e he
 ·rcases UH.1 he with rfl | he
  ·exact h.dr.le
  ·exact h.n e he
theorem DB.at{X:Nat}{l:List Value}(h:DB w B sa len cap size ks wx)(hm:(X,l)∈ks):aA wx X l:=h.k _ hm
theorem DB.set{X:Nat}{vs vs':List Value}(h:DB w B sa len cap size ((X,vs)::ks) wx)(j:Nat)(v:Value)(hv:vs.set j v=vs')(hne:∀e∈ks,e.1≠X):DB w B sa len cap size ((X,vs')::ks) (wx.setCell ⟨X,j,none⟩ v):=by
 subst hv;refine⟨h.dr.set X j v (h.n _ (List.mem_cons_self ..)),fun e he=>?_,fun e he=>?_,fun e he=>?_⟩
 ·rcases UH.1 he with rfl | he
  ·exact(h.k _ (List.mem_cons_self ..)).set j v
  ·exact(h.k e (List.mem_cons_of_mem _ he)).setOther (hne e he) v
 ·rcases UH.1 he with rfl | he
  ·have:=h.z _ (List.mem_cons_self ..);simpa using this
  ·exact h.z e (List.mem_cons_of_mem _ he)
 ·rcases UH.1 he with rfl | he
  ·exact h.n (X,vs) (List.mem_cons_self ..)
  ·exact h.n e (List.mem_cons_of_mem _ he)
theorem DB.tail{e:Nat × List Value}(h:DB w B sa len cap size (e::ks) wx):DB w B sa len cap size ks wx:=⟨h.dr,fun x hx=>h.k x (List.mem_cons_of_mem _ hx),fun x hx=>h.z x (List.mem_cons_of_mem _ hx),fun x hx=>h.n x (List.mem_cons_of_mem _ hx)⟩
theorem DB.swap{e f:Nat × List Value}(h:DB w B sa len cap size (e::f::ks) wx):DB w B sa len cap size (f::e::ks) wx :=
 ⟨h.dr,fun x hx=>h.k x (by simp at hx ⊢;rcases hx with h|h|h<;>simp[h]),fun x hx=>h.z x (by simp at hx ⊢;rcases hx with h|h|h<;>simp[h]),fun x hx=>h.n x (by simp at hx ⊢;rcases hx with h|h|h<;>simp[h])⟩
theorem DB.sub{ks':List (Nat × List Value)}(h:DB w B sa len cap size ks wx)(hs:∀e∈ks',e∈ks):DB w B sa len cap size ks' wx:=⟨h.dr,fun e he=>h.k e (hs e he),fun e he=>h.z e (hs e he),fun e he=>h.n e (hs e he)⟩
theorem DB.lts(h:DB w B sa len cap size ks wx):∀e∈ks,e.1 < wx.heap.size:=fun e he=>(h.k e he).lt (h.z e he)
end
def NZ(n:Nat):Value→World→Prop:=fun v _=>∃k:Nat,v=iV k∧k < n
theorem IJ{B n:Nat}:cX (EB B) (NZ n):=fun _ _ _ h _=>h
def vP(n:Int):Prop:=-3000000000≤n∧n≤3000000000
def uY(q:Bd):Prop:=q.inn.size≤1000∧q.out.size≤1000∧vP q.VF∧vP q.VH∧vP q.VI
def LQ(s:Ss):Prop:=s.inn.size≤1000∧s.peer.size≤1000∧vP s.VF∧vP s.VH∧vP s.VG
def nQ(x:Bb):Prop:=x.VN.length≤100∧x.VK.length≤100∧(∀q∈x.VN,uY q)∧∀s∈x.VK,LQ s
def oH(t:Tc):Prop:=t.addr.size≤1000∧t.peer.size≤1000∧vP t.VF
theorem wH{n:Int}(h:vP n):gV n:=by unfold vP at h;unfold gV;constructor<;>omega
theorem uY.good{q:Bd}(h:uY q):fG q:=⟨by have:=h.1;omega,by have:=h.2.1;omega,wH h.2.2.1,wH h.2.2.2.1,wH h.2.2.2.2⟩
theorem LQ.good{s:Ss}(h:LQ s):iI s:=⟨by have:=h.1;omega,by have:=h.2.1;omega,wH h.2.2.1,wH h.2.2.2.1⟩
theorem tY(B:Nat)(a:OA)(len cap:Nat)(size:Int)(w:World)(hl:len≤1048576)(hs:iY w B a len cap size) :
  Calls Tryz.prog 95 #[.pointer (some ⟨B,0,none⟩)] w fun e w'=>∃r,e=.returned (iV r)∧iY w' B a len cap size∧w.grownBy w' (some B):=by
 have D0:Hid (Dr w B a len cap size w):=Dr.start hs;clear hs;go_enter Tryz.func95,Tryz.ntmps95
 go_wp2_with fail
 refine(bS 12 B a len cap size _ (by omega) hl D0.out.src).mono ?_;rintro e w1 ⟨c,rfl,hs,hg⟩;have D1:Hid (Dr w B a len cap size w1):=D0.out.draw hs hg;clear hs hg D0
 cases c with
 | true=>
  go_wp2_with fail
  refine(sD B a len cap size _ hl D1.out.src).mono ?_;rintro e w2 ⟨r2,rfl,-,hs,hg⟩;have D2:Hid (Dr w B a len cap size w2):=D1.out.draw hs hg;clear hs hg D1;have D3:Hid (Dr w B a len cap size (w2.alloc (.cells #[iV (-1),iV 65536,iV r2] 2))):=D2.out.alloc _;have hB2:B < w2.heap.size:=UX D2.out.hB D2.out.le;go_wp2_with fail
  refine(aV 3 B a len cap size _ (by omega) (by omega) hl D3.out.src).mono ?_;rintro e w4 ⟨r,rfl,r0,r1,hs2,hg2⟩;obtain⟨k,rfl⟩:=UK r0;obtain⟨y,hcell,hy⟩:=qA (k:=k) [-1,65536,r2] hg2 hB2 (by simp;omega);have r1':(k:Int) < 3:=by omega
  have D4:Hid (Dr w B a len cap size w4):=D3.out.draw hs2 hg2;clear hs2 hg2 r0 r1 D3 D2 hy;go_wp2_with fail
  go_ret;exact⟨y,rfl,D4.out.src,D4.out.grown⟩
 | false=>
  go_wp2_with fail
  refine(aV 65536 B a len cap size _ (by omega) (by omega) hl D1.out.src).mono ?_;rintro e w2 ⟨r2,rfl,lo2,hi2,hs,hg⟩;have D2:Hid (Dr w B a len cap size w2):=D1.out.draw hs hg;clear hs hg D1;go_wp2_with fail
  refine(aV 65536 B a len cap size _ (by omega) (by omega) hl D2.out.src).mono ?_;rintro e w3 ⟨r3,rfl,lo3,hi3,hs,hg⟩;have D3:Hid (Dr w B a len cap size w3):=D2.out.draw hs hg;clear hs hg D2;have D4:Hid (Dr w B a len cap size (w3.alloc (.cells #[iV 0,iV 1,iV 255,iV 256,iV 65534,iV 65535,iV r2,iV r3] 2))):=D3.out.alloc _;have hB2:B < w3.heap.size:=UX D3.out.hB D3.out.le;go_wp2_with fail
  refine(aV 8 B a len cap size _ (by omega) (by omega) hl D4.out.src).mono ?_;rintro e w5 ⟨r,rfl,r0,r1,hs2,hg2⟩;obtain⟨k,rfl⟩:=UK r0;obtain⟨y,hcell,hy⟩:=qA (k:=k) [0,1,255,256,65534,65535,r2,r3] hg2 hB2 (by simp;omega);have r1':(k:Int) < 8:=by omega
  have D5:Hid (Dr w B a len cap size w5):=D4.out.draw hs2 hg2;clear hs2 hg2 r0 r1 D4 D3 hy;go_wp2_with fail
  go_ret;exact⟨y,rfl,D5.out.src,D5.out.grown⟩
theorem PP{n:Int}(h:jS n=true):vP n:=by have:=eK h;unfold vP;omega
theorem NC{n:Int}(h:eN n=true):vP n:=by
 unfold eN at h;simp only[UV,UF]at h;unfold vP;rcases h with (h|h)|h<;>omega
theorem JP{s:BA}(h:cO s=true):s.size≤16:=by
 unfold cO at h;simp at h;omega
theorem zK{a b:BA}(h:a.toList=b.toList):a.size=b.size:=by rw[zV h]
theorem OM{p:Pl}{ys:List Bd}{c:Bd}(hp:cU p=true)(hd:pL p)(h:cK p ys c=true):uY c:=by
 unfold cK at h;simp only[UB]at h;obtain⟨⟨⟨⟨⟨h1,h2⟩,h3⟩,h4⟩,h5⟩,-⟩:=h;have hz:=JP h2;have ho:c.out.size≤4:=by
  unfold mW at h4;obtain⟨s,hs,e⟩:=List.any_eq_true.1 h4;have:=zK (of_decide_eq_true e);have:=hd.2.2 s hs;omega
 unfold cU at hp;simp only[UB,UF]at hp;have h5':=eK h5;exact⟨by omega,by omega,NC h1,PP h3,by unfold vP;omega⟩
theorem OL{p:Pl}{x:Bb}(h:oD p x)(hd:pL p)(h1:x.VN.length≤100)(h2:x.VK.length≤100):nQ x:=by
 have hb:∀q∈x.VN,uY q:=fun q hq=>by
  obtain⟨i,hi,rfl⟩:=UY hq;exact OM h.pool hd (h.bind i hi)
 refine⟨h1,h2,hb,fun s hs=>?_⟩;obtain⟨c,hc,ho⟩:=List.any_eq_true.1 (h.has s hs);have hcd:=hb c hc;have hv:=h.VK s hs;unfold sQ at hv;simp only[UB,UF]at hv;unfold cD at ho;simp only[UB,UF]at ho;have hi:=zK ho.1.2;exact⟨by have:=hcd.1;omega,by have:=hv.1.1.1.1;omega,ho.1.1 ▸ hcd.2.2.1,ho.2 ▸ hcd.2.2.2.1,PP hv.1.1.1.2⟩
def LG(p:Pl)(n:Nat)(x:Bb):Prop:=(x=bbZ∨oD p x)∧x.VN.length≤n∧x.VK.length≤n
theorem LG.dr{p:Pl}{n:Nat}{x:Bb}(h:LG p n x)(hd:pL p)(hn:n≤100):nQ x:=by
 rcases h.1 with rfl|h1
 ·exact⟨by decide,by decide,fun q hq=>by simp[bbZ]at hq,fun q hq=>by simp[bbZ]at hq⟩
 ·exact OL h1 hd (by have:=h.2.1;omega) (by have:=h.2.2;omega)
theorem LG.ne{p:Pl}{n:Nat}{x:Bb}(h:LG p n x):x.VN≠[]→x.VK≠[]:=fun hb hs=>by
 rcases h.1 with rfl|h1
 ·exact hb rfl
 ·obtain⟨c,l,e⟩:=List.exists_cons_of_ne_nil hb;have:=h1.all c (by rw[e];simp);rw[hs]at this;simp at this
theorem LG.touch{p:Pl}{n:Nat}{x:Bb}{t:Tc}{now:Int}(h:LG p n x)(hc:(dH p x t now).code=0):LG p (n+1) (dH p x t now).bib:=by
 unfold dH at hc ⊢;by_cases hk:(fA p x&&bT now&&cC t)=true
 ·rw[if_pos hk]at hc ⊢;simp only[UB]at hk;have hg:=OT p x t now;have h1:=h.2.1;have h2:=h.2.2;exact⟨.inr (mU (gI.1 hk.1.1) hk.1.2 hk.2 hc).1,by omega,by omega⟩
 ·rw[if_neg hk]at hc;simp[kY]at hc
theorem LZ{f:Bd→Bool}{xs:List Bd}{s:BA}(h:∀q∈xs,uY q):uY (kF f xs s):=by
 have hz:uY lB:=⟨by decide,by decide,by unfold vP;decide,by unfold vP;decide,by unfold vP;decide⟩;unfold kF;by_cases h1:20000 < s.size
 ·rw[if_pos h1];exact hz
 ·rw[if_neg h1]
  cases hf:xs.find? f with
  | none=>exact hz
  | some c=>exact h c (VA hf)
abbrev mD(t:Tc):List Value:=(FH t)
abbrev K8(w:World)(pa:OA)(pc:Nat)(p:Pl)(ba bo:OA)(ca cb:Nat)(x:Bb):List (Nat × List Value):=[(w.heap.size,(bG pa pc p)),(w.heap.size+1,(aX ba ca bo cb x)),(w.heap.size+1+1,(eH 0 false ⟨#[]⟩ 0 ⟨#[]⟩ 0 0))]
def SW(n B:Nat)(ss:List Ss):Value→World→Prop:=fun v w=>∃s∈ss,v=xL s
theorem RG(n B:Nat)(ss:List Ss):cX (EB B) (SW n B ss):=fun _ _ _ h _=>h
def OI(B:Nat)(ss:List Ss):Value→World→Prop:=fun v w=>∃b o s,s∈ss∧v=.pointer (some ⟨b,o,none⟩)∧b≠B∧∀j u,(fZ s)[j]?=some u→w.cell? ⟨b,o+j,none⟩=some u
theorem PL(B:Nat)(ss:List Ss):cX (EB B) (OI B ss):=fun v w w' ⟨b,o,s,h1,h2,h3,h4⟩ he=>⟨b,o,s,h1,h2,h3,fun j u hu=>he.cell (h4 j u hu) h3⟩
theorem lD(B:Nat)(sa:OA)(len cap:Nat)(size:Int)(pa:OA)(pc:Nat)(p:Pl)(ba bo:OA)(ca cb:Nat)(x:Bb)(w:World)(hl:len≤1048576)(hpd:pL p)(hbd:nQ x)(hp:bP cB 1 w pa p.VL)(hx:dC w ba bo x)(hpB':∀g o,pa=some ⟨g,o,none⟩→g≠B)(hbB:x.VN=[]∨∀g o,ba=some ⟨g,o,none⟩→g≠B)(hsB:x.VK=[]∨∀g o,bo=some ⟨g,o,none⟩→g≠B)(hs:iY w B sa len cap size) :
  Calls Tryz.prog 55 #[.pointer (some ⟨B,0,none⟩),iK pa pc p,gP ba bo ca cb x] w fun e w'=>∃t,e=.returned (pJ t)∧oH t∧iY w' B sa len cap size∧w.grownBy w' (some B):=by
 have hBW:B < w.heap.size:=(Dr.start hs).hB;have HPX:Hid (∀W,w.grownBy W (some B)→bP cB 1 W pa p.VL):=fun W hW=>hp.grown hW (.inr hpB')
 have HBX:Hid (∀W,w.grownBy W (some B)→bP dP 5 W ba x.VN):=fun W hW=>hx.bd.grown hW hbB
 have HSX:Hid (∀W,w.grownBy W (some B)→bP fZ 7 W bo x.VK):=fun W hW=>hx.ss.grown hW hsB
 have HPD:Hid (pL p):=hpd;have HBD:Hid (nQ x):=hbd;have hsl:x.VK.length≤100:=hbd.2.1;have hbl:x.VN.length≤1048576:=by have:=hbd.1;omega
 have hpl1:1≤p.VL.length:=hpd.1;have hpl3:p.VL.length≤3:=hpd.2.1;have HB:Hid (∀(s:Ss) W,w.grownBy W (some B)→Calls Tryz.prog 11 #[.agg (aX ba ca bo cb x).toArray,iV s.VF,.string s.inn,iV s.VH] W fun e w'=>∃o,uY o∧e=.returned (.agg (cZ o).toArray)∧Below W.heap.size W w'):=fun s W hW=>(xI x.VN s.VF s.inn s.VH ba ca _ W hbl (hx.bd.grown hW hbB)).mono fun e w' hh=>⟨_,LZ hbd.2.2.1,hh.1,hh.2⟩
 have e0:aA ((aW (aW w (bG pa pc p) 27) (aX ba ca bo cb x) 31).alloc (.cells (eH 0 false ⟨#[]⟩ 0 ⟨#[]⟩ 0 0).toArray 89)) (w.heap.size) (bG pa pc p):=by
  have h:=aA.new w (bG pa pc p) 27;try simp only[UC]at h
  exact((h.alloc _).alloc _)
 have e1:aA ((aW (aW w (bG pa pc p) 27) (aX ba ca bo cb x) 31).alloc (.cells (eH 0 false ⟨#[]⟩ 0 ⟨#[]⟩ 0 0).toArray 89)) (w.heap.size+1) (aX ba ca bo cb x):=by
  have h:=aA.new (w.alloc (.cells (bG pa pc p).toArray 27)) (aX ba ca bo cb x) 31;try simp only[UC]at h
  exact(h.alloc _)
 have e2:aA ((aW (aW w (bG pa pc p) 27) (aX ba ca bo cb x) 31).alloc (.cells (eH 0 false ⟨#[]⟩ 0 ⟨#[]⟩ 0 0).toArray 89)) (w.heap.size+1+1) (eH 0 false ⟨#[]⟩ 0 ⟨#[]⟩ 0 0):=by
  have h:=aA.new ((aW w (bG pa pc p) 27).alloc (.cells (aX ba ca bo cb x).toArray 31)) (eH 0 false ⟨#[]⟩ 0 ⟨#[]⟩ 0 0) 89;try simp only[UC]at h
  exact h
 have HS0:Hid (DB w B sa len cap size (K8 w pa pc p ba bo ca cb x) ((aW (aW w (bG pa pc p) 27) (aX ba ca bo cb x) 31).alloc (.cells (eH 0 false ⟨#[]⟩ 0 ⟨#[]⟩ 0 0).toArray 89))):=by
  refine⟨((((Dr.start hs).alloc _).alloc _).alloc _),fun e he=>?_,fun e he=>?_,fun e he=>?_⟩
  ·simp only[UH,UG,or_false]at he;rcases he with rfl|rfl|rfl
   ·exact e0
   ·exact e1
   ·exact e2
  ·simp only[UH,UG,or_false]at he;rcases he with rfl|rfl|rfl<;>simp
  ·simp only[UH,UG,or_false]at he;rcases he with rfl|rfl|rfl<;>simp<;>omega
 clear e0 e1 e2 hs hp hx hpd hbd;have hun:undef=Value.tuple #[]:=rfl;unfold iK gP;go_enter Tryz.func55,Tryz.ntmps55
 go_upto_region 1 with fail
 generalize World.alloc _ _=W0 at *;go_wp2_with fail
 refine(yC B sa len cap size _ hl HS0.out.dr.src).mono ?_;rintro e U1 ⟨pr,rfl,lpr,upr,hs,hg⟩;have T1:Hid (DB w B sa len cap size (K8 w pa pc p ba bo ca cb x) U1):=HS0.out.draw hs hg;clear hs hg HS0;go_wp2_with fail
 refine(bS 3 B sa len cap size _ (by omega) hl T1.out.dr.src).mono ?_;rintro e U2 ⟨c1,rfl,hs,hg⟩;have T2:Hid (DB w B sa len cap size (K8 w pa pc p ba bo ca cb x) U2):=T1.out.draw hs hg;clear hs hg T1;go_wp2_with fail
 refine(bS 4 B sa len cap size _ (by omega) hl T2.out.dr.src).mono ?_;rintro e U3 ⟨c2,rfl,hs,hg⟩;have T3:Hid (DB w B sa len cap size (K8 w pa pc p ba bo ca cb x) U3):=T2.out.draw hs hg;clear hs hg T2;go_wp2_with fail
 refine(mE c2 B sa len cap size _ hl T3.out.dr.src).mono ?_;rintro e U4 ⟨s1,rfl,hz1,hs,hg⟩;have T4:Hid (DB w B sa len cap size (K8 w pa pc p ba bo ca cb x) U4):=T3.out.draw hs hg;clear hs hg T3;go_wp2_with fail
 refine(aV 4 B sa len cap size _ (by omega) (by omega) hl T4.out.dr.src).mono ?_;rintro e U5 ⟨r1,rfl,lr1,ur1,hs,hg⟩;have T5:Hid (DB w B sa len cap size (K8 w pa pc p ba bo ca cb x) U5):=T4.out.draw hs hg;clear hs hg T4;go_wp2_with fail
 refine(mE false B sa len cap size _ hl T5.out.dr.src).mono ?_;rintro e U6 ⟨s2,rfl,hz2,hs,hg⟩;have T6:Hid (DB w B sa len cap size (K8 w pa pc p ba bo ca cb x) U6):=T5.out.draw hs hg;clear hs hg T5;go_wp2_with fail
 refine(aV 2 B sa len cap size _ (by omega) (by omega) hl T6.out.dr.src).mono ?_;rintro e U7 ⟨r2,rfl,lr2,ur2,hs,hg⟩;have T7:Hid (DB w B sa len cap size (K8 w pa pc p ba bo ca cb x) U7):=T6.out.draw hs hg;clear hs hg T6;go_wp2_with fail
 refine(yA B sa len cap size _ hl T7.out.dr.src).mono ?_;rintro e U8 ⟨fl,rfl,lfl,ufl,hs,hg⟩;have T8:Hid (DB w B sa len cap size (K8 w pa pc p ba bo ca cb x) U8):=T7.out.draw hs hg;clear hs hg T7;go_upto_region 2 with fail
 have S1:Hid _:=T8.out.push (eH pr (!c1) s1 (1000+r1) s2 (80+r2) fl) (by simp) 89;have hz1':s1.size≤1000:=by rw[hz1];split<;>omega
 have hz2':s2.size≤1000:=by rw[hz2];split<;>omega
 generalize hW1:U8.alloc _=W1 at *;have hne0:w.heap.size≠U8.heap.size∧w.heap.size+1≠U8.heap.size∧w.heap.size+1+1≠U8.heap.size:=by
  have h1:=T8.out.lts;exact⟨Nat.ne_of_lt (h1 (_,_) cM),Nat.ne_of_lt (h1 (_,_) dZ),Nat.ne_of_lt (h1 (_,_) eL)⟩
 obtain⟨u0,ht0⟩: ∃t:Tc,t=⟨pr,!c1,s1,1000+r1,s2,80+r2,fl⟩:=⟨_,rfl⟩;have HT0:Hid (oH u0):=by unfold Hid;rw[ht0];exact⟨hz1',hz2',by show vP pr;unfold vP;omega⟩
 generalize hXX:U8.heap.size=PX at *;have HNE:Hid (∀e∈((K8 w pa pc p ba bo ca cb x):List (Nat × List Value)),e.1≠PX):=fun e he=>by
  simp only[UH,UG,or_false]at he;rcases he with rfl|rfl|rfl
  ·exact hne0.1
  ·exact hne0.2.1
  ·exact hne0.2.2
 have S2:Hid (DB w B sa len cap size ((PX,mD u0)::K8 w pa pc p ba bo ca cb x) W1):=by unfold Hid;rw[ht0];exact S1.out
 clear S1 hW1 hXX ht0 hne0 hz1 hz2 hz1' hz2' lpr upr lr1 ur1 lr2 ur2 lfl ufl;have HHt:aA W1 PX (mD u0):=S2.out.at cM;have y1:=HHt.cell (j:=1) rfl;have yf1:=HHt.free (j:=1) (by simp);clear HHt;obtain⟨ins,hin⟩: ∃b,b=u0.VJ:=⟨_,rfl⟩;rw[←hin]at y1;clear hin;go_cut [35] (fun v wx=>(∃b,v=.bool b)∧DB w B sa len cap size ((PX,mD u0)::K8 w pa pc p ba bo ca cb x) wx)
 case first=>
  cases ins with
  | false=>
   go_wp2_with fail
   go_meet;exact⟨⟨_,rfl⟩,S2.out⟩
  | true=>
   go_wp2_with fail
   refine(bS 2 B sa len cap size _ (by omega) hl S2.out.dr.src).mono ?_;rintro e U9 ⟨c9,rfl,hs,hg⟩;have S3:Hid (DB w B sa len cap size ((PX,mD u0)::K8 w pa pc p ba bo ca cb x) U9):=S2.out.draw hs hg;clear hs hg;go_wp2_with fail
   go_meet;exact⟨⟨_,rfl⟩,S3.out⟩
 case rest=>
 obtain⟨⟨c3,rfl⟩,hS⟩:=hcut;have S4:Hid (DB w B sa len cap size ((PX,mD u0)::K8 w pa pc p ba bo ca cb x) wc):=hS;clear hS S2 y1 yf1 ins;generalize wc=W4 at *;go_upto_if 35 with fail
 go_cut [] (fun wx=>∃u,oH u∧DB w B sa len cap size ((PX,mD u)::K8 w pa pc p ba bo ca cb x) wx)
 case first=>
  cases c3 with
  | false=>
   go_wp2_with fail
   go_meet;exact⟨_,HT0.out,S4.out⟩
  | true=>
   have HHt:aA W4 PX (mD u0):=S4.out.at cM;have y6:=HHt.cell (j:=6) rfl;have yf6:=HHt.free (j:=6) (by simp);clear HHt;have S5:Hid _:=S4.out.set 6 (iV 2) rfl HNE.out;go_wp2_with fail
   go_meet;exact⟨{ u0 with VM:=2 },HT0.out,S5.out⟩
 case rest=>
 obtain⟨u1,hu,hS⟩:=hcut;have Hu1:Hid (oH u1):=hu;have S6:Hid (DB w B sa len cap size ((PX,mD u1)::K8 w pa pc p ba bo ca cb x) wc):=hS;clear hu hS S4 HT0;generalize wc=W6 at *;have HHt:aA W6 PX (mD u1):=S6.out.at cM;have y1:=HHt.cell (j:=1) rfl;have yf1:=HHt.free (j:=1) (by simp);clear HHt;obtain⟨ins,hin⟩: ∃b,b=u1.VJ:=⟨_,rfl⟩;rw[←hin]at y1;clear hin;have HHp:aA W6 (w.heap.size) (bG pa pc p):=S6.out.at dZ;have p0:=HHp.cell (j:=0) rfl;clear HHp;have hpI:(0:Int) < (p.VL.length:Int):=by omega
 go_upto_region 4 with fail
 go_cut [45] (fun v wx=>v=.bool (!ins)∧DB w B sa len cap size ((PX,mD u1)::K8 w pa pc p ba bo ca cb x) wx)
 case first=>
  cases ins;all_goals
   go_wp2_with fail
   go_meet;exact⟨by first | rfl | (simp;omega),S6.out⟩
 case rest=>
 obtain⟨rfl,hS⟩:=hcut;have S7:Hid (DB w B sa len cap size ((PX,mD u1)::K8 w pa pc p ba bo ca cb x) wc):=hS;clear hS S6 y1 yf1 p0;generalize wc=W7 at *;go_upto_if 45 with fail
 go_cut [] (fun wx=>∃u,oH u∧DB w B sa len cap size ((PX,mD u)::K8 w pa pc p ba bo ca cb x) wx)
 case first=>
  cases ins with
  | true=>
   go_wp2_with fail
   go_meet;exact⟨_,Hu1.out,S7.out⟩
  | false=>
   obtain⟨gp,op,hpa,hgp,-⟩:=(HPX.out w (World.grownBy.refl _ _)).at (k:=0) (by omega);subst hpa;go_upto_region 5 with fail
   clear hun;have hgB:gp≠B:=hpB' gp op rfl;refine dY (EB B) (fun wx=>DB w B sa len cap size ((PX,mD u1)::K8 w (some ⟨gp,op,none⟩) pc p ba bo ca cb x) wx) [46,47,48,49,50,51,52,53,54,55] (by kernel_rfl) (by kernel_rfl) (S7.out.below bR.drew) ?_;iterate 6 (apply cS.u xQ rfl;(·intro K' a wy ho hd hI hK;simp[aU,aG,aD,Region.binds]at ho hd;have p0:wy.cell? ⟨w.heap.size,0,none⟩=some (.slice (some ⟨gp,op,none⟩) p.VL.length pc):=(show aA wy (w.heap.size) (bG (some ⟨gp,op,none⟩) pc p) from hI.at dZ).cell rfl;go_simp;(try go_bits);exact hK _ rfl);dsimp only[nA,cA])
   refine cS.rel (n:=6) (NZ p.VL.length) (IJ) [_,_,_,_,_,_,NZ p.VL.length] rfl rfl ?_ ?_
   ·intro K' a wy ho hd hI hK;rw[wN rfl];have q2:=hd ⟨2,.data⟩ (by simp) rfl;have q5:=hd ⟨5,.data⟩ (by simp) rfl;simp[aU,aG,aD]at q2 q5;clear hd ho;go_simp;refine(eQ (p.VL.length:Int) B sa len cap size wy (by omega) hl hI.dr.src).mono ?_;rintro e wz ⟨r,rfl,h0,h1,hsz,hgz⟩;obtain⟨k,rfl⟩:=UK h0;exact hK _ _ ⟨k,rfl,by omega⟩ hgz (hI.draw hsz hgz)
   refine cS.rel (n:=7) (QJ B 4) (NO) [_,_,_,_,_,_,_,QJ B 4] rfl rfl ?_ ?_
   ·intro K' a wy ho hd hI hK;rw[wN rfl];have q1:=hd ⟨1,.data⟩ (by simp) rfl;simp[aU,aG,aD]at q1;obtain⟨k6,e6,u6⟩: NZ p.VL.length (aD a 52) wy:=hd ⟨6,.data⟩ (by simp) rfl;simp[aD]at e6;clear hd ho;have i0:(k6:Int) < (p.VL.length:Int):=by omega
    obtain⟨ss,hss,hzz⟩: ∃ss,wy.cell? ⟨gp,op+k6*1,none⟩=some (.string ss)∧ss.size≤4:=by
     obtain⟨g9,o9,e9,_,hat⟩:=(HPX.out wy hI.dr.grown).at u6;injection e9 with e9
     injection e9 with e91 e92
     subst e91 e92;exact⟨p.VL[k6],by have h:=hat k6 u6 0 _ rfl;simpa using h,HPD.out.2.2 _ (UJ _)⟩
    have hss':wy.cell? ⟨gp,op+k6,none⟩=some (.string ss):=by simpa using hss
    go_simp;exact hK _ _ ⟨gp,_,ss,rfl,hgB,by first | exact hss | exact hss',hzz⟩ (EB.of bR) hI
   refine cS.rel (n:=8) (JN 4) (JH) [_,_,_,_,_,_,_,_,JN 4] rfl rfl ?_ ?_
   ·intro K' a wy ho hd hI hK;rw[wN rfl];obtain⟨b7,k7,s7,e7,nb7,c7,z7⟩: QJ B 4 (aD a 53) wy:=hd ⟨7,.data⟩ (by simp) rfl;simp[aD]at e7;clear hd ho;have p0:wy.cell? ⟨w.heap.size,0,none⟩=some (.slice (some ⟨gp,op,none⟩) p.VL.length pc):=(show aA wy (w.heap.size) (bG (some ⟨gp,op,none⟩) pc p) from hI.at dZ).cell rfl;go_simp;exact hK _ _ ⟨s7,rfl,z7⟩ (EB.of bR) hI
   (apply cS.u xQ rfl;(·intro K' a wy ho hd hI hK;simp[aU,aG,aD,Region.binds]at ho hd;go_simp;(try go_bits);exact hK _ rfl);dsimp only[nA,cA])
   intro X wz hR hI;obtain⟨x0,x1,x2,x3,x4,x5,x6,x7,x8,x9,-⟩:=hR;obtain⟨s8,e8,z8⟩:=x8;simp only[aG]at x0 x1 x2 x3 x4 x5 x9;simp only[aE,x0,x1,x2,x3,x4,x5,aE,aE,e8,x9];clear x0 x1 x2 x3 x4 x5 x9;have HHt:aA wz PX (mD u1):=hI.at cM;have y2:=HHt.cell (j:=2) rfl;have yf2:=HHt.free (j:=2) (by simp);have S8:Hid _:=hI.set 2 (.string s8) rfl HNE.out;clear HHt hI;intro K5 hK5;go_simp;refine hK5 _ _ ?_;simp only[fN];go_wp2_with fail
   go_meet;exact⟨{ u1 with addr:=s8 },⟨by show s8.size≤1000;omega,Hu1.out.2⟩,S8.out⟩
 case rest=>
 obtain⟨u2,hu,hS⟩:=hcut;have Hu2:Hid (oH u2):=hu;have S9:Hid (DB w B sa len cap size ((PX,mD u2)::K8 w pa pc p ba bo ca cb x) wc):=hS;clear hu hS S7 Hu1 hpI;generalize wc=W9 at *;have HHb:aA W9 (w.heap.size+1) (aX ba ca bo cb x):=S9.out.at eL;have b1:=HHb.cell (j:=1) rfl;clear HHb;go_upto_region 6 with fail
 go_cut [63] (fun v wx=>(∃b,v=.bool b∧(b=true→0 < x.VK.length))∧DB w B sa len cap size ((PX,mD u2)::K8 w pa pc p ba bo ca cb x) wx)
 case first=>
  by_cases hx0:0 < x.VK.length
  case neg=>
   have hxI:¬(0:Int) < (x.VK.length:Int):=by omega
   have HXL:Hid (x.VK=[]):=List.length_eq_zero_iff.1 (by omega);clear hx0;go_wp2_with fail
   go_meet;exact⟨⟨false,by first | rfl | simp[HXL.out],fun h=>by cases h⟩,S9.out⟩
  have hxI:(0:Int) < (x.VK.length:Int):=by omega
  go_wp2_with fail
  refine(bS 2 B sa len cap size _ (by omega) hl S9.out.dr.src).mono ?_;rintro e U9 ⟨c9,rfl,hs,hg⟩;have S10:Hid (DB w B sa len cap size ((PX,mD u2)::K8 w pa pc p ba bo ca cb x) U9):=S9.out.draw hs hg;clear hs hg;go_wp2_with fail
  go_meet;exact⟨⟨c9,rfl,fun _=>hx0⟩,S10.out⟩
 case rest=>
 obtain⟨⟨c4,rfl,hc4⟩,hS⟩:=hcut;have S11:Hid (DB w B sa len cap size ((PX,mD u2)::K8 w pa pc p ba bo ca cb x) wc):=hS;clear hS S9 b1;generalize wc=W11 at *;go_upto_if 63 with fail
 go_cut [] (fun wx=>∃u,oH u∧DB w B sa len cap size ((PX,mD u)::K8 w pa pc p ba bo ca cb x) wx)
 case first=>
  cases c4 with
  | false=>
   go_wp2_with fail
   go_meet;exact⟨_,Hu2.out,S11.out⟩
  | true=>
   have hx0:0 < x.VK.length:=hc4 rfl;obtain⟨gs,os,hpa,hgs,-⟩:=(HSX.out w (World.grownBy.refl _ _)).at (k:=0) hx0;subst hpa;have hgB:gs≠B:=hsB.elim (fun e=>by rw[e]at hx0;simp at hx0) (fun h=>h gs os rfl);clear hc4;go_upto_region 7 with fail
   try clear hun
   go_cut [8] (fun v wx=>∃g s,v=.pointer (some ⟨g,0,none⟩)∧s∈x.VK∧g≠PX∧W11.heap.size≤g∧DB w B sa len cap size ((PX,mD u2)::(g,(iE s))::K8 w pa pc p ba (some ⟨gs,os,none⟩) ca cb x) wx)
   case first=>
    rename_i J K2 hJ hK2;refine dY (EB B) (fun wx=>DB w B sa len cap size ((PX,mD u2)::K8 w pa pc p ba (some ⟨gs,os,none⟩) ca cb x) wx∧W11.heap.size≤wx.heap.size) [64,65,66,67,68,69,70,71,72,8] (by kernel_rfl) (by kernel_rfl) (⟨S11.out.below bR.drew,Nat.le_refl _⟩) ?_;iterate 6 (apply cS.u xQ rfl;(·intro K' a wy ho hd hI hK;simp[aU,aG,aD,Region.binds]at ho hd;have b1:wy.cell? ⟨w.heap.size+1,1,none⟩=some (.slice (some ⟨gs,os,none⟩) x.VK.length cb):=(show aA wy (w.heap.size+1) (aX ba ca (some ⟨gs,os,none⟩) cb x) from hI.1.at eL).cell rfl;go_simp;(try go_bits);exact hK _ rfl);dsimp only[nA,cA])
    refine cS.rel (n:=6) (NZ x.VK.length) (IJ) [_,_,_,_,_,_,NZ x.VK.length] rfl rfl ?_ ?_
    ·intro K' a wy ho hd hI hK;rw[wN rfl];have q2:=hd ⟨2,.data⟩ (by simp) rfl;have q5:=hd ⟨5,.data⟩ (by simp) rfl;simp[aU,aG,aD]at q2 q5;clear hd ho;go_simp;refine(eQ (x.VK.length:Int) B sa len cap size wy (by omega) hl hI.1.dr.src).mono ?_;rintro e wz ⟨r,rfl,h0,h1,hsz,hgz⟩;obtain⟨k,rfl⟩:=UK h0;exact hK _ _ ⟨k,rfl,by omega⟩ hgz ⟨hI.1.draw hsz hgz,UL hI.2 hgz.size⟩
    refine cS.rel (n:=7) (OI B x.VK) (PL _ _) [_,_,_,_,_,_,_,OI B x.VK] rfl rfl ?_ ?_
    ·intro K' a wy ho hd hI hK;rw[wN rfl];have q1:=hd ⟨1,.data⟩ (by simp) rfl;simp[aU,aG,aD]at q1;obtain⟨k6,e6,u6⟩: NZ x.VK.length (aD a 70) wy:=hd ⟨6,.data⟩ (by simp) rfl;simp[aD]at e6;clear hd ho;have i0:(k6:Int) < (x.VK.length:Int):=by omega
     have hpt:∀j u,(fZ x.VK[k6])[j]?=some u→wy.cell? ⟨gs,os+k6*7+j,none⟩=some u:=by
      obtain⟨g9,o9,e9,_,hat⟩:=(HSX.out wy hI.1.dr.grown).at u6;injection e9 with e9
      injection e9 with e91 e92
      subst e91 e92;exact fun j u hu=>hat k6 u6 j u hu
     go_simp;exact hK _ _ ⟨gs,_,x.VK[k6],UJ _,rfl,hgB,hpt⟩ (EB.of bR) hI
    refine cS.rel (n:=8) (SW 0 B x.VK) (RG _ _ _) [_,_,_,_,_,_,_,_,SW 0 B x.VK] rfl rfl ?_ ?_
    ·intro K' a wy ho hd hI hK;rw[wN rfl];obtain⟨b7,o7,s7,m7,e7,nb7,c7⟩: OI B x.VK (aD a 71) wy:=hd ⟨7,.data⟩ (by simp) rfl;simp[aD]at e7;clear hd ho;have b1:wy.cell? ⟨w.heap.size+1,1,none⟩=some (.slice (some ⟨gs,os,none⟩) x.VK.length cb):=(show aA wy (w.heap.size+1) (aX ba ca (some ⟨gs,os,none⟩) cb x) from hI.1.at eL).cell rfl;obtain⟨d0,d1,d2,d3,d4,d5,d6⟩:=NE c7;go_simp;exact hK _ _ ⟨s7,m7,rfl⟩ (EB.of bR) hI
    refine cS.rel (n:=9) (zT W11.drew.heap.size B (sA 0 ⟨#[]⟩ 0 ⟨#[]⟩ 0 0 0)) (vR (by simp)) [_,_,_,_,_,_,_,_,_,zT W11.drew.heap.size B (sA 0 ⟨#[]⟩ 0 ⟨#[]⟩ 0 0 0)] rfl rfl ?_ ?_
    ·intro K' a wy ho hd hI hK;rw[wN rfl];clear hd ho;go_simp;exact hK _ _ ⟨wy.heap.size,rfl,hI.2,by have:=hI.1.dr.le;omega,aA.new wy (sA 0 ⟨#[]⟩ 0 ⟨#[]⟩ 0 0 0) _⟩ (EB.of (bR.alloc lR _)) ⟨hI.1.below (bR.alloc lR _),by simp;omega⟩
    intro X wz hR hI;obtain⟨x0,x1,x2,x3,x4,x5,x6,x7,x8,x9,-⟩:=hR;obtain⟨s8,m8,e8⟩:=x8;obtain⟨g9,e9,n9,nb9,c9⟩:=x9;simp only[aG]at x0 x1 x2 x3 x4 x5;simp only[aE,x0,x1,x2,x3,x4,x5,aE,aE,e8,e9];clear x0 x1 x2 x3 x4 x5;have n9':W11.heap.size≤g9:=n9;have hle:w.heap.size≤W11.heap.size:=S11.out.dr.le;have hlt:=S11.out.lts;obtain⟨z0,z1,z2,z3,z4,z5,z6⟩:=c9.c7;obtain⟨zf0,zf1,zf2,zf3,zf4,zf5,zf6⟩:=c9.f7;have hD0:DB w B sa len cap size ((g9,(sA 0 ⟨#[]⟩ 0 ⟨#[]⟩ 0 0 0))::((PX,mD u2)::K8 w pa pc p ba (some ⟨gs,os,none⟩) ca cb x)) wz:=⟨hI.1.dr,fun e he=>(UH.1 he).elim (fun h=>by rw[h];exact c9) (hI.1.k e),fun e he=>(UH.1 he).elim (fun h=>by rw[h];simp) (hI.1.z e),fun e he=>(UH.1 he).elim (fun h=>by rw[h];show w.heap.size≤g9;omega) (hI.1.n e)⟩;have hne9:∀e∈(((PX,mD u2)::K8 w pa pc p ba (some ⟨gs,os,none⟩) ca cb x):List (Nat × List Value)),e.1≠g9:=fun e he=>by have:=hlt e he;omega
    have hD1:=hD0.set (vs':=(sA s8.VF ⟨#[]⟩ 0 ⟨#[]⟩ 0 0 0)) 0 (iV s8.VF) rfl hne9;have hD2:=hD1.set (vs':=(sA s8.VF s8.inn 0 ⟨#[]⟩ 0 0 0)) 1 (.string s8.inn) rfl hne9;have hD3:=hD2.set (vs':=(sA s8.VF s8.inn s8.VH ⟨#[]⟩ 0 0 0)) 2 (iV s8.VH) rfl hne9;have hD4:=hD3.set (vs':=(sA s8.VF s8.inn s8.VH s8.peer 0 0 0)) 3 (.string s8.peer) rfl hne9;have hD5:=hD4.set (vs':=(sA s8.VF s8.inn s8.VH s8.peer s8.VG 0 0)) 4 (iV s8.VG) rfl hne9;have hD6:=hD5.set (vs':=(sA s8.VF s8.inn s8.VH s8.peer s8.VG s8.state 0)) 5 (iV s8.state) rfl hne9;have hD7:=hD6.set (vs':=(iE s8)) 6 (iV s8.untl) rfl hne9;have HD:Hid (DB w B sa len cap size ((PX,mD u2)::(g9,(iE s8))::K8 w pa pc p ba (some ⟨gs,os,none⟩) ca cb x) ((sW (sW (sW (sW (sW (sW wz g9 0 (iV s8.VF)) g9 1 (.string s8.inn)) g9 2 (iV s8.VH)) g9 3 (.string s8.peer)) g9 4 (iV s8.VG)) g9 5 (iV s8.state)).setCell ⟨g9,6,none⟩ (iV s8.untl))):=hD7.swap;have hgX:g9≠PX:=fun e=>by have:=hlt _ (List.mem_cons_self ..);simp at this;omega
    clear hD1 hD2 hD3 hD4 hD5 hD6 hD7 hD0 hne9 c9 hI hlt;unfold xL;intro K5 hK5;go_simp;refine hK5 _ _ ?_;show Exit.then _ _ _ _ _;refine hK2 _ _ (hJ _ _ ?_);(repeat apply Exists.intro)
    exact⟨⟨g9,s8,rfl,m8,hgX,n9',HD.out⟩,rfl⟩
   case rest=>
   obtain⟨Bs,s,rfl,hsm,hBsX,-,hS⟩:=hcut;have S12:Hid (DB w B sa len cap size ((PX,mD u2)::(Bs,(iE s))::K8 w pa pc p ba (some ⟨gs,os,none⟩) ca cb x) wc):=hS;clear hS S11;generalize wc=W12 at *;have HSD:Hid (LQ s):=HBD.out.2.2.2 s hsm;clear hsm;have HHs:aA W12 Bs (iE s):=S12.out.at dZ;obtain⟨s0,s1,s2,s3,s4,s5,s6⟩:=HHs.c7;clear HHs;have HHb:aA W12 (w.heap.size+1) (aX ba ca (some ⟨gs,os,none⟩) cb x):=S12.out.at iF;obtain⟨b0,b1⟩:=HHb.c2;clear HHb;have HB2:Hid _:=HB.out s W12 S12.out.dr.grown;go_wp2_with fail
   refine Calls.mono HB2.out ?_;rintro e W13 ⟨o,ho,rfl,q13⟩;have HOD:Hid (uY o):=ho;have S13:Hid (DB w B sa len cap size ((PX,mD u2)::(Bs,(iE s))::K8 w pa pc p ba (some ⟨gs,os,none⟩) ca cb x) W13):=S12.out.below q13;clear ho q13 S12 HB2 b0 b1 s0 s1 s2 s3 s4 s5 s6;go_upto_region 9 with fail
   have hBo:PX≠W13.heap.size:=by have:=S13.out.lts _ (List.mem_cons_self ..);simp at this;omega
   have S14:Hid (DB w B sa len cap size ((PX,mD u2)::(Bs,(iE s))::(W13.heap.size,(cZ o))::K8 w pa pc p ba (some ⟨gs,os,none⟩) ca cb x) (W13.alloc (.cells (cZ o).toArray 48))):=by
    have h:=S13.out.push (cZ o) (by simp) 48;refine h.sub (fun e he=>?_);rcases UH.1 he with h1|he
    ·exact .tail _ (h1 ▸ .head _)
    rcases UH.1 he with h1|he
    ·exact .tail _ (.tail _ (h1 ▸ .head _))
    rcases UH.1 he with h1|he
    ·exact h1 ▸ .head _
    ·exact .tail _ (.tail _ (.tail _ he))
   generalize (W13.alloc (.cells (cZ o).toArray 48))=W14 at *;generalize W13.heap.size=Bo at *;clear S13;have HNE2:Hid (∀e∈(((Bs,(iE s))::(Bo,(cZ o))::K8 w pa pc p ba (some ⟨gs,os,none⟩) ca cb x):List (Nat × List Value)),e.1≠PX):=fun e he=>by
    rcases UH.1 he with h1|he
    ·rw[h1];exact hBsX
    rcases UH.1 he with h1|he
    ·rw[h1];exact hBo.symm
    ·exact HNE.out e he
   have HHs:aA W14 Bs (iE s):=S14.out.at dZ;obtain⟨s0,s1,s2,s3,s4⟩:=HHs.c5;clear HHs;have HHt:aA W14 PX (mD u2):=S14.out.at cM;obtain⟨y0,-,y2,y3,y4,y5⟩:=HHt.c6;obtain⟨yf0,-,yf2,yf3,yf4,yf5⟩:=HHt.f6;clear HHt;have hD0:=(S14.out).set (vs':=(eH s.VF u2.VJ u2.addr u2.port u2.peer u2.VG u2.VM)) 0 (iV s.VF) rfl HNE2.out;have hD2:=(hD0).set (vs':=(eH s.VF u2.VJ s.inn u2.port u2.peer u2.VG u2.VM)) 2 (.string s.inn) rfl HNE2.out;have hD3:=(hD2).set (vs':=(eH s.VF u2.VJ s.inn s.VH u2.peer u2.VG u2.VM)) 3 (iV s.VH) rfl HNE2.out;have hD4:=(hD3).set (vs':=(eH s.VF u2.VJ s.inn s.VH s.peer u2.VG u2.VM)) 4 (.string s.peer) rfl HNE2.out;have hD5:=(hD4).set (vs':=(eH s.VF u2.VJ s.inn s.VH s.peer s.VG u2.VM)) 5 (iV s.VG) rfl HNE2.out;obtain⟨u3,hu3⟩: ∃u:Tc,u={ u2 with VF:=s.VF,addr:=s.inn,port:=s.VH,peer:=s.peer,VG:=s.VG }:=⟨_,rfl⟩;have S15:Hid (DB w B sa len cap size ((PX,mD u3)::(Bs,(iE s))::(Bo,(cZ o))::K8 w pa pc p ba (some ⟨gs,os,none⟩) ca cb x) ((sW (sW (sW (sW W14 PX 0 (iV s.VF)) PX 2 (.string s.inn)) PX 3 (iV s.VH)) PX 4 (.string s.peer)).setCell ⟨PX,5,none⟩ (iV s.VG))):=by unfold Hid;rw[hu3];exact hD5
   have Hu3:Hid (oH u3):=by unfold Hid;rw[hu3];exact⟨HSD.out.1,HSD.out.2.1,HSD.out.2.2.1⟩
   have hpp:u3.VG=s.VG:=by rw[hu3]
   have HPP:Hid (vP u3.VG):=by unfold Hid;rw[hpp];exact HSD.out.2.2.2.2
   clear hD0 hD2 hD3 hD4 hD5 hu3 hpp S14;go_upto_region 14 with fail
   generalize ((sW (sW (sW (sW W14 PX 0 (iV s.VF)) PX 2 (.string s.inn)) PX 3 (iV s.VH)) PX 4 (.string s.peer)).setCell ⟨PX,5,none⟩ (iV s.VG))=W15 at *;clear y0 yf0 y2 yf2 y3 yf3 y4 yf4 y5 yf5 s0 s1 s2 s3 s4 Hu2;have HHt:aA W15 PX (mD u3):=S15.out.at cM;have y1:=HHt.cell (j:=1) rfl;have yf1:=HHt.free (j:=1) (by simp);clear HHt;obtain⟨ins,hin⟩: ∃b,b=u3.VJ:=⟨_,rfl⟩;rw[←hin]at y1;clear hin
   cases ins with
   | true=>
    have S16:Hid (DB w B sa len cap size ((PX,mD u3)::K8 w pa pc p ba (some ⟨gs,os,none⟩) ca cb x) W15):=S15.out.sub (fun e he=>by
     rcases UH.1 he with h1|he
     ·exact h1 ▸ .head _
     ·exact .tail _ (.tail _ (.tail _ he)))
    go_wp2_with fail
    go_meet;exact⟨u3,Hu3.out,S16.out⟩
   | false=>
    have HHo:aA W15 Bo (cZ o):=S15.out.at eL;obtain⟨-,-,-,o3,o4⟩:=HHo.c5;clear HHo;have HHt:aA W15 PX (mD u3):=S15.out.at cM;obtain⟨-,-,y2,y3⟩:=HHt.c4;obtain⟨-,-,yf2,yf3⟩:=HHt.f4;clear HHt;have hD2:=S15.out.set (vs':=(eH u3.VF u3.VJ o.out u3.port u3.peer u3.VG u3.VM)) 2 (.string o.out) rfl HNE2.out;have hD3:=hD2.set (vs':=(eH u3.VF u3.VJ o.out o.VI u3.peer u3.VG u3.VM)) 3 (iV o.VI) rfl HNE2.out;obtain⟨u4,hu4⟩: ∃u:Tc,u={ u3 with addr:=o.out,port:=o.VI }:=⟨_,rfl⟩;have S16:Hid (DB w B sa len cap size ((PX,mD u4)::K8 w pa pc p ba (some ⟨gs,os,none⟩) ca cb x) ((sW W15 PX 2 (.string o.out)).setCell ⟨PX,3,none⟩ (iV o.VI))):=by unfold Hid;rw[hu4];exact hD3.sub (fun e he=>by
      rcases UH.1 he with h1|he
      ·exact h1 ▸ .head _
      ·exact .tail _ (.tail _ (.tail _ he)))
    have Hu4:Hid (oH u4):=by unfold Hid;rw[hu4];exact⟨HOD.out.2.1,Hu3.out.2⟩
    have hpp:u4.VG=u3.VG:=by rw[hu4]
    have HPQ:Hid (vP u4.VG):=by unfold Hid;rw[hpp];exact HPP.out
    clear hD2 hD3 hu4 hpp S15;go_upto_region 17 with fail
    generalize ((sW W15 PX 2 (.string o.out)).setCell ⟨PX,3,none⟩ (iV o.VI))=W16 at *;clear o3 o4 y2 yf2 y3 yf3;go_wp2_with fail
    refine(bS 3 B sa len cap size _ (by omega) hl S16.out.dr.src).mono ?_;rintro e U9 ⟨c9,rfl,hs,hg⟩;have S17:Hid (DB w B sa len cap size ((PX,mD u4)::K8 w pa pc p ba (some ⟨gs,os,none⟩) ca cb x) U9):=S16.out.draw hs hg;clear hs hg S16
    cases c9 with
    | false=>
     go_wp2_with fail
     go_meet;exact⟨_,Hu4.out,S17.out⟩
    | true=>
     have HHt:aA U9 PX (mD u4):=S17.out.at cM;have y5:=HHt.cell (j:=5) rfl;have yf5:=HHt.free (j:=5) (by simp);clear HHt;have hw:IntKind.i64.wrap (u4.VG+1)=u4.VG+1:=by have:=HPQ.out;unfold vP at this;rw[IntKind.wrap_i64];omega
     have S18:Hid _:=S17.out.set 5 (iV (u4.VG+1)) rfl HNE.out;go_wp2_with fail
     go_meet;exact⟨{ u4 with VG:=u4.VG+1 },Hu4.out,S18.out⟩
 case rest=>
 obtain⟨u5,hu,hS⟩:=hcut;have Hu5:Hid (oH u5):=hu;have S20:Hid (DB w B sa len cap size ((PX,mD u5)::K8 w pa pc p ba bo ca cb x) wc):=hS;clear hu hS S11 Hu2 hc4;generalize wc=W20 at *;go_wp2_with fail
 refine(bS 25 B sa len cap size _ (by omega) hl S20.out.dr.src).mono ?_;rintro e W21 ⟨c21,rfl,hs,hg⟩;have S21:Hid (DB w B sa len cap size ((PX,mD u5)::K8 w pa pc p ba bo ca cb x) W21):=S20.out.draw hs hg;clear hs hg S20;go_upto_if 112 with fail
 go_cut [] (fun wx=>∃u,oH u∧DB w B sa len cap size ((PX,mD u)::K8 w pa pc p ba bo ca cb x) wx)
 case first=>
  cases c21 with
  | false=>
   go_wp2_with fail
   go_meet;exact⟨_,Hu5.out,S21.out⟩
  | true=>
   go_wp2_with fail
   refine(aV 4 B sa len cap size _ (by omega) (by omega) hl S21.out.dr.src).mono ?_;rintro e W22 ⟨r5,rfl,lo5,hi5,hs,hg⟩;have S22:Hid (DB w B sa len cap size ((PX,mD u5)::K8 w pa pc p ba bo ca cb x) W22):=S21.out.draw hs hg;clear hs hg S21;by_cases d0:r5=0
   case pos=>
    subst d0;clear lo5 hi5;go_wp2_with fail
    refine(CT B sa len cap size _ hl S22.out.dr.src).mono ?_;rintro e W23 ⟨s9,rfl,hz9,hs,hg⟩;have S23:Hid (DB w B sa len cap size ((PX,mD u5)::K8 w pa pc p ba bo ca cb x) W23):=S22.out.draw hs hg;clear hs hg;have HHt:aA W23 PX (mD u5):=S23.out.at cM;have y2:=HHt.cell (j:=2) rfl;have yf2:=HHt.free (j:=2) (by simp);clear HHt;have S24:Hid _:=S23.out.set 2 (.string s9) rfl HNE.out;go_wp2_with fail
    go_meet;exact⟨{ u5 with addr:=s9 },⟨by show s9.size≤1000;omega,Hu5.out.2⟩,S24.out⟩
   have b0:(r5==0)=false:=by simp[d0]
   by_cases d1:r5=1
   case pos=>
    subst d1;clear lo5 hi5;go_wp2_with fail
    refine(tY B sa len cap size _ hl S22.out.dr.src).mono ?_;rintro e W23 ⟨r9,rfl,hs,hg⟩;have S23:Hid (DB w B sa len cap size ((PX,mD u5)::K8 w pa pc p ba bo ca cb x) W23):=S22.out.draw hs hg;clear hs hg;have HHt:aA W23 PX (mD u5):=S23.out.at cM;have y3:=HHt.cell (j:=3) rfl;have yf3:=HHt.free (j:=3) (by simp);clear HHt;have S24:Hid _:=S23.out.set 3 (iV r9) rfl HNE.out;go_wp2_with fail
    go_meet;exact⟨{ u5 with port:=r9 },Hu5.out,S24.out⟩
   have b1:(r5==1)=false:=by simp[d1]
   by_cases d2:r5=2
   case pos=>
    subst d2;clear lo5 hi5;go_wp2_with fail
    refine(mE true B sa len cap size _ hl S22.out.dr.src).mono ?_;rintro e W23 ⟨s9,rfl,hz9,hs,hg⟩;have S23:Hid (DB w B sa len cap size ((PX,mD u5)::K8 w pa pc p ba bo ca cb x) W23):=S22.out.draw hs hg;clear hs hg;have HHt:aA W23 PX (mD u5):=S23.out.at cM;have y4:=HHt.cell (j:=4) rfl;have yf4:=HHt.free (j:=4) (by simp);clear HHt;have S24:Hid _:=S23.out.set 4 (.string s9) rfl HNE.out;go_wp2_with fail
    go_meet;exact⟨{ u5 with peer:=s9 },⟨Hu5.out.1,by show s9.size≤1000;rw[hz9];decide,Hu5.out.2.2⟩,S24.out⟩
   have b2:(r5==2)=false:=by simp[d2]
   go_wp2_with fail
   refine(tY B sa len cap size _ hl S22.out.dr.src).mono ?_;rintro e W23 ⟨r9,rfl,hs,hg⟩;have S23:Hid (DB w B sa len cap size ((PX,mD u5)::K8 w pa pc p ba bo ca cb x) W23):=S22.out.draw hs hg;clear hs hg;have HHt:aA W23 PX (mD u5):=S23.out.at cM;have y5:=HHt.cell (j:=5) rfl;have yf5:=HHt.free (j:=5) (by simp);clear HHt;have S24:Hid _:=S23.out.set 5 (iV r9) rfl HNE.out;go_wp2_with fail
   go_meet;exact⟨{ u5 with VG:=r9 },Hu5.out,S24.out⟩
 case rest=>
 obtain⟨u6,hu,hS⟩:=hcut;have Hu6:Hid (oH u6):=hu;have S25:Hid (DB w B sa len cap size ((PX,mD u6)::K8 w pa pc p ba bo ca cb x) wc):=hS;clear hu hS S21 Hu5;generalize wc=W25 at *;have HHt:aA W25 PX (mD u6):=S25.out.at cM;obtain⟨y0,y1,y2,y3,y4,y5,y6⟩:=HHt.c7;obtain⟨yf0,yf1,yf2,yf3,yf4,yf5,yf6⟩:=HHt.f7;clear HHt;clear yf0 yf1 yf2 yf3 yf4 yf5 yf6;have HHz:aA W25 (w.heap.size+1+1) (eH 0 false ⟨#[]⟩ 0 ⟨#[]⟩ 0 0):=S25.out.at iF;obtain⟨z0,z1,z2,z3,z4,z5,z6⟩:=HHz.c7;obtain⟨zf0,zf1,zf2,zf3,zf4,zf5,zf6⟩:=HHz.f7;have HRR:Hid (aA ((sW (sW (sW (sW (sW (sW W25 (w.heap.size+1+1) 0 (iV u6.VF)) (w.heap.size+1+1) 1 (.bool u6.VJ)) (w.heap.size+1+1) 2 (.string u6.addr)) (w.heap.size+1+1) 3 (iV u6.port)) (w.heap.size+1+1) 4 (.string u6.peer)) (w.heap.size+1+1) 5 (iV u6.VG)).setCell ⟨w.heap.size+1+1,6,none⟩ (iV u6.VM)) (w.heap.size+1+1) (mD u6)):=(((((((HHz.set 0 (iV u6.VF)).set 1 (.bool u6.VJ)).set 2 (.string u6.addr)).set 3 (iV u6.port)).set 4 (.string u6.peer)).set 5 (iV u6.VG)).set 6 (iV u6.VM));have DD:Hid (Dr w B sa len cap size ((sW (sW (sW (sW (sW (sW W25 (w.heap.size+1+1) 0 (iV u6.VF)) (w.heap.size+1+1) 1 (.bool u6.VJ)) (w.heap.size+1+1) 2 (.string u6.addr)) (w.heap.size+1+1) 3 (iV u6.port)) (w.heap.size+1+1) 4 (.string u6.peer)) (w.heap.size+1+1) 5 (iV u6.VG)).setCell ⟨w.heap.size+1+1,6,none⟩ (iV u6.VM))):=(((((((S25.out.dr.set (w.heap.size+1+1) 0 (iV u6.VF) (by omega)).set (w.heap.size+1+1) 1 (.bool u6.VJ) (by omega)).set (w.heap.size+1+1) 2 (.string u6.addr) (by omega)).set (w.heap.size+1+1) 3 (iV u6.port) (by omega)).set (w.heap.size+1+1) 4 (.string u6.peer) (by omega)).set (w.heap.size+1+1) 5 (iV u6.VG) (by omega)).set (w.heap.size+1+1) 6 (iV u6.VM) (by omega));clear HHz S25;go_wp2_with fail
 exact VB (aF Tryz.results55 _ _ _ _ _ rfl HRR.out Tryz.underlying89 rfl (show (Tryz.prog.info? 89).map (·.size)=some 7 by kernel_rfl)) rfl ⟨u6,rfl,Hu6.out,DD.out.src,DD.out.grown⟩
structure tA(w:World)(B:Nat)(sa:OA)(len cap:Nat)(size:Int)(R X base:Nat)(bv sv:Value)(ys:List Bd)(zs:List Ss)(wx:World):Prop where
 dr:Dr w B sa len cap size wx
 out:aA wx R [.slice none 0 0,.slice none 0 0]
 box:aA wx X [bv,sv]
 bo:wx.ownsRow base 48 5 bv ys.length (dL dP ys)
 so:wx.ownsRow base 59 7 sv zs.length (dL fZ zs)
 hX:w.heap.size≤X∧X < base
 hR:w.heap.size≤R∧R < base
 ne:X≠R
 wb:w.heap.size≤base
 hb:base≤wx.heap.size
def OD(w:World)(B:Nat)(sa:OA)(len cap:Nat)(size:Int)(R X base:Nat)(wx:World):Prop :=
 ∃(y:Bb) (a b:OA) (c d:Nat),nQ y∧aA wx X (aX a c b d y)∧aA wx R [.slice none 0 0,.slice none 0 0]∧dC wx a b y∧(∀g o,a=some ⟨g,o,none⟩→base≤g)∧(∀g o,b=some ⟨g,o,none⟩→base≤g)∧Dr w B sa len cap size wx
section
variable {w wx wy:World} {B:Nat} {sa:OA} {len cap:Nat} {size:Int} {R X base:Nat} {bv sv:Value} {ys:List Bd} {zs:List Ss}
theorem tA.draw(h:tA w B sa len cap size R X base bv sv ys zs wx)(hs:iY wy B sa len cap size)(hg:wx.grownBy wy (some B)):tA w B sa len cap size R X base bv sv ys zs wy:=by
 have hB:=h.dr.hB;have hX:=h.hX;have hR:=h.hR;have hw:=h.wb;exact⟨h.dr.draw hs hg,h.out.grown (by simp) hg (by simp;omega),h.box.grown (by simp) hg (by simp;omega),BG h.bo hg (by omega),BG h.so hg (by omega),h.hX,h.hR,h.ne,h.wb,UL h.hb hg.size⟩
theorem tA.below(h:tA w B sa len cap size R X base bv sv ys zs wx)(hb:Below wx.heap.size wx wy):tA w B sa len cap size R X base bv sv ys zs wy :=
 ⟨h.dr.below hb,h.out.kept (by simp) hb,h.box.kept (by simp) hb,fY h.bo hb,fY h.so hb,h.hX,h.hR,h.ne,h.wb,UL h.hb hb.size⟩
theorem MB{r:Option Nat}(h:Dr w B sa len cap size wx)(hg:wx.grownBy wy r)(hr:∀k,r=some k→w.heap.size≤k):Dr w B sa len cap size wy:=by
 have hB:=h.hB;refine⟨h.src.kept hg (fun k e=>by have:=hr k e;omega),?_,h.hB⟩;have h1:=h.grown;exact⟨hg.os.trans h1.os,hg.tape.trans h1.tape,hg.output.trans h1.output,UL h1.size hg.size,fun k hk hne=>(hg.block k (UX hk h1.size) (fun e=>by have:=hr k e.symm;omega)).trans (h1.block k hk hne)⟩
theorem tA.appB(h:tA w B sa len cap size R X base bv sv ys zs wx)(q:Bd)(g:Nat)(hg:aA wx g (dP q))(jD:ys.length≤1048576) :
  ∃v6 w6,(Builtin.append_ #[28,28] 28 #[bv,.slice (some ⟨g,0,none⟩) 1 1]).run Tryz.prog wx=.ok v6 w6∧aA w6 X [bv,sv]∧tA w B sa len cap size R X base v6 sv (ys++[q]) zs (w6.setCell ⟨X,0,none⟩ v6):=by
 obtain⟨i0,hi,hz0,hz1,hz2⟩:=info_parts Tryz.infoBd;have hX:=h.hX;have hR:=h.hR;have hw:=h.wb;have hbb:=h.hb;obtain⟨v6,w6,hrun,h62,h63,h64,h65⟩:=run_append_own_at (P:=Tryz.prog) wx base 28 28 48 i0 _ 5 _ Tryz.underlying28 hi hz0 hz1 hz2 rfl (by decide) bv _ _ h.bo ⟨g,0,none⟩ 1 1 (dP q) rfl (fun i u hu=>by rw[rK];exact hg.cell hu) (zX q) (by unfold maxLen;omega) (by omega) h.hb;have hnr:∀Y,Y < base→some Y≠bv.ownBlock:=fun Y hY e=>dX h.bo hY e.symm
 have n6:v6.ownBlock≠some X:=by
  rcases h65 with h7|h7<;>rw[h7]
  ·exact dX h.bo (by omega)
  ·intro e;injection e with e;omega
 have hO:=h.box.grown (by simp) h63 (hnr _ (by omega));have hold:=World.ownsRow.kept h.so h63 (by
  by_cases e:sv.ownBlock=none
  ·exact .inl e
  ·refine .inr (fun e2=>?_);obtain⟨k,hk⟩:=Option.ne_none_iff_exists'.1 e;exact sN h.bo h.so (by decide) k (e2 ▸ hk) hk)
 refine⟨v6,w6,hrun,hO,⟨(MB h.dr h63 (fun k e=>by have:=(fC h.bo e).1;omega)).set X 0 v6 hX.1,(h.out.grown (by simp) h63 (hnr _ (by omega))).setOther h.ne.symm v6,hO.set 0 v6,cG (by rw[kB,List.length_append];exact h62) n6,cG hold (dX h.so (by omega)),h.hX,h.hR,h.ne,h.wb,?_⟩⟩;simp;exact UL h.hb h63.size
theorem tA.appS(h:tA w B sa len cap size R X base bv sv ys zs wx)(q:Ss)(g:Nat)(hg:aA wx g (fZ q))(jD:zs.length≤1048576) :
  ∃v6 w6,(Builtin.append_ #[29,29] 29 #[sv,.slice (some ⟨g,0,none⟩) 1 1]).run Tryz.prog wx=.ok v6 w6∧aA w6 X [bv,sv]∧tA w B sa len cap size R X base bv v6 ys (zs++[q]) (w6.setCell ⟨X,1,none⟩ v6):=by
 obtain⟨i0,hi,hz0,hz1,hz2⟩:=info_parts Tryz.infoSs;have hX:=h.hX;have hR:=h.hR;have hw:=h.wb;have hbb:=h.hb;obtain⟨v6,w6,hrun,h62,h63,h64,h65⟩:=run_append_own_at (P:=Tryz.prog) wx base 29 29 59 i0 _ 7 _ Tryz.underlying29 hi hz0 hz1 hz2 rfl (by decide) sv _ _ h.so ⟨g,0,none⟩ 1 1 (fZ q) rfl (fun i u hu=>by rw[rK];exact hg.cell hu) (BQ q) (by unfold maxLen;omega) (by omega) h.hb;have hnr:∀Y,Y < base→some Y≠sv.ownBlock:=fun Y hY e=>dX h.so hY e.symm
 have n6:v6.ownBlock≠some X:=by
  rcases h65 with h7|h7<;>rw[h7]
  ·exact dX h.so (by omega)
  ·intro e;injection e with e;omega
 have hO:=h.box.grown (by simp) h63 (hnr _ (by omega));have hold:=World.ownsRow.kept h.bo h63 (by
  by_cases e:bv.ownBlock=none
  ·exact .inl e
  ·refine .inr (fun e2=>?_);obtain⟨k,hk⟩:=Option.ne_none_iff_exists'.1 e;exact sN h.bo h.so (by decide) k hk (e2 ▸ hk))
 refine⟨v6,w6,hrun,hO,⟨(MB h.dr h63 (fun k e=>by have:=(fC h.so e).1;omega)).set X 1 v6 hX.1,(h.out.grown (by simp) h63 (hnr _ (by omega))).setOther h.ne.symm v6,hO.set 1 v6,cG hold (dX h.bo (by omega)),cG (by rw[kB,List.length_append];exact h62) n6,h.hX,h.hR,h.ne,h.wb,?_⟩⟩;simp;exact UL h.hb h63.size
theorem tA.shapes(h:tA w B sa len cap size R X base bv sv ys zs wx):(∃a cap,bv=.slice a ys.length cap∧ys.length≤cap∧eX dP 5 base wx a ys)∧∃a cap,sv=.slice a zs.length cap∧zs.length≤cap∧eX fZ 7 base wx a zs :=
 ⟨xV.shape eC (w0:=wx) ⟨h.bo,Below.refl _ _⟩,xV.shape eD (w0:=wx) ⟨h.so,Below.refl _ _⟩⟩
theorem tA.fin(h:tA w B sa len cap size R X base bv sv ys zs wx)(hd:nQ ⟨ys,zs⟩):OD w B sa len cap size R X base wx:=by
 obtain⟨⟨a,c,e1,-,h1⟩,b,d,e2,-,h2⟩:=h.shapes;have hb:=h.box;have hbo:=h.bo;have hso:=h.so;rw[e1,e2]at hb;rw[e1]at hbo;rw[e2]at hso;exact⟨⟨ys,zs⟩,a,b,c,d,hd,hb,h.out,⟨h1.is,h2.is⟩,fun g o e=>by rw[e]at hbo;exact(fC hbo (g:=g) rfl).1,fun g o e=>by rw[e]at hso;exact(fC hso (g:=g) rfl).1,h.dr⟩
end
theorem oQ{w:World}{base e n m g cap:Nat}{xs:List Bd}(h:w.ownsRow base e 5 (.slice (some ⟨g,0,none⟩) n cap) m (dL dP xs))(hnm:n=m)(i:Nat)(hi:i < xs.length)(j:Nat)(v:Value)(hv:(dP xs[i])[j]?=some v):w.cell? ⟨g,i*5+j,none⟩=some v:=by
 subst hnm;have hl:=fR eC xs;have hj:j < 5:=by have:=(List.getElem?_eq_some_iff.1 hv).1;rwa [eC]at this
 have hn:=h.1;rw[hl]at hn;have hnl:n=xs.length:=by omega
 rw[World.ownsRow.cellAt h _ (by rw[hnl];omega)];have hs:=mO eC j hj v xs i hi xs[i] (by rw[EA hv]);rw[List.set_getElem_self]at hs;rw[hs,List.getElem?_set_self (by rw[hl];omega)]
section
variable {w wx wy:World} {B:Nat} {sa:OA} {len cap:Nat} {size:Int} {R X base:Nat} {bv sv:Value} {ys:List Bd} {zs:List Ss}
theorem tA.setB{g c n:Nat}(h:tA w B sa len cap size R X base (.slice (some ⟨g,0,none⟩) n c) sv ys zs wx)(hn:n=ys.length)(i:Nat)(hi:i < ys.length)(j:Nat)(hj:j < 5)(v:Value)(y:Bd)(hy:dP y=(dP ys[i]).set j v):tA w B sa len cap size R X base (.slice (some ⟨g,0,none⟩) n c) sv (ys.set i y) zs (wx.setCell ⟨g,i*5+j,none⟩ v):=by
 subst hn;have hg:=(fC h.bo (g:=g) rfl).1;have hX:=h.hX;have hR:=h.hR;have hw:=h.wb;have hsv:sv.ownBlock≠some g:=fun e=>sN h.bo h.so (by decide) g rfl e
 refine⟨h.dr.set g _ v (by omega),h.out.setOther (by omega) _,h.box.setOther (by omega) _,?_,cG h.so hsv,h.hX,h.hR,h.ne,h.wb,by simpa using h.hb⟩;rw[List.length_set,mO eC j hj v ys i hi y hy];exact BH h.bo _ (by rw[fR eC];omega) v
theorem tA.setS{g c n:Nat}(h:tA w B sa len cap size R X base bv (.slice (some ⟨g,0,none⟩) n c) ys zs wx)(hn:n=zs.length)(i:Nat)(hi:i < zs.length)(j:Nat)(hj:j < 7)(v:Value)(y:Ss)(hy:fZ y=(fZ zs[i]).set j v):tA w B sa len cap size R X base bv (.slice (some ⟨g,0,none⟩) n c) ys (zs.set i y) (wx.setCell ⟨g,i*7+j,none⟩ v):=by
 subst hn;have hg:=(fC h.so (g:=g) rfl).1;have hX:=h.hX;have hR:=h.hR;have hw:=h.wb;have hbv:bv.ownBlock≠some g:=fun e=>sN h.bo h.so (by decide) g e rfl
 refine⟨h.dr.set g _ v (by omega),h.out.setOther (by omega) _,h.box.setOther (by omega) _,cG h.bo hbv,?_,h.hX,h.hR,h.ne,h.wb,by simpa using h.hb⟩;rw[List.length_set,mO eD j hj v zs i hi y hy];exact BH h.so _ (by rw[fR eD];omega) v
end
theorem KV(pa:OA)(pc:Nat)(p:Pl)(ba bo:OA)(ca cb:Nat)(x:Bb)(t:Tc)(c:Bd)(now:Int)(w:World)(hpo:cU p=true)(hnow:bT now=true)(hta:t.addr.size≤1048576)(h0:0≤t.port)(h1:t.port≤65535)(hl1:x.VN.length≤1048576)(hl2:x.VK.length≤1048576)(hp:bP cB 1 w pa p.VL)(hx:dC w ba bo x) :
  Calls Tryz.prog 157 #[iK pa pc p,gP ba bo ca cb x,pJ t,gW c,iV now] w fun e w'=>kX w.heap.size (jX p x t c now) e w'∧Below w.heap.size w w':=by
 obtain⟨VF,VJ,addr,port,peer,VG,VM⟩:=t;dsimp only at hta h0 h1;have hn:0≤now∧now≤1000000000:=by unfold bT aO at hnow;simp only[UB,UF]at hnow;omega
 obtain⟨hn0,hn1⟩:=hn;have HN:Hid (∀W,Cw 177 #[iV VF,.bool VJ,iV VM] W (iV (bF VF VJ VM))):=fun W=>EJ VF VJ VM W
 have HPT:Hid (∀W,Below w.heap.size w W→Cb 178 #[.agg (bG pa pc p).toArray,.agg (aX ba ca bo cb x).toArray,iV VF,.string addr,iV port] W (.tuple #[gW (gJ p x.VN VF addr port).1,iV (gJ p x.VN VF addr port).2])):=fun W hW=>IH p x pa pc ba bo ca cb VF addr port W hpo hta h0 h1 hl1 hl2 (hp.below hW) (hx.below hW)
 have HCY:Hid (∀W,Below w.heap.size w W→Calls Tryz.prog 126 #[.agg (aX ba ca bo cb x).toArray] W fun e w'=>oE W.heap.size x e w'∧Below W.heap.size W w'):=fun W hW=>rT x ba bo ca cb W hl1 hl2 (hx.below hW)
 have HBI:Hid (∀(d:Bd) (W:World),Below w.heap.size w W→Cb 33 #[.agg (aX ba ca bo cb x).toArray,iV d.VF,.string d.inn,iV d.VH] W (iV (bD (cD d.VF d.inn d.VH) x.VN))):=fun d W hW=>nC x.VN d.VF d.inn d.VH ba ca _ W hl1 (hx.bd.below hW)
 have HLF:Hid (∀(st:Int) (W:World),Cb 161 #[.agg #[iV p.lv.udp,iV p.lv.echo,iV p.lv.opening,iV p.lv.opn,iV p.lv.closing],iV VF,iV st] W (iV (bU p.lv VF st))):=fun st W=>sX p.lv VF st W
 have HV:Hid (jX p x ⟨VF,VJ,addr,port,peer,VG,VM⟩ c now=if bF VF VJ VM=0 then kY 6 else if p.most≤(x.VK.length:Int) then kY 9 else if (if VJ=true then (gJ p x.VN VF addr port).2 else 0)≠0 then kY (if VJ=true then (gJ p x.VN VF addr port).2 else 0) else ⟨⟨nY x.VN (if VJ=true then (gJ p x.VN VF addr port).1 else c),x.VK++[⟨VF,(if VJ=true then (gJ p x.VN VF addr port).1 else c).inn,(if VJ=true then (gJ p x.VN VF addr port).1 else c).VH,peer,VG,bF VF VJ VM,now+bU p.lv VF (bF VF VJ VM)⟩]⟩,(if VJ=true then (gJ p x.VN VF addr port).1 else c),0⟩):=rfl;unfold gW at HPT;generalize jX p x ⟨VF,VJ,addr,port,peer,VG,VM⟩ c now=ans at *;generalize bF VF VJ VM=st at *;replace HLF:=HLF.out st;obtain⟨hf0,hf1⟩:=jP p.lv VF st;have HLG:Hid _:=HLF;clear HLF;generalize bU p.lv VF st=lf at *;generalize (gJ p x.VN VF addr port).1=lb at *;generalize (gJ p x.VN VF addr port).2=lk at *;obtain⟨d,hd⟩: ∃d,d=(if VJ=true then lb else c):=⟨_,rfl⟩;obtain⟨kd,hkd⟩: ∃k,k=(if VJ=true then lk else 0):=⟨_,rfl⟩;rw[←hd,←hkd]at HV;have HD:Hid _:=hd;have HKD:Hid _:=hkd;have HNB:Hid (nY x.VN d=if bD (cD d.VF d.inn d.VH) x.VN < 0 then x.VN++[d] else x.VN):=rfl;replace HBI:=HBI.out d;have HBJ:Hid _:=HBI;clear HBI;generalize nY x.VN d=nb at *;generalize bD (cD d.VF d.inn d.VH) x.VN=fi at *;have hun:undef=Value.tuple #[]:=rfl;have hRw:w.heap.size≤w.heap.size+1+1+1+1:=by omega
 have e0:aA ((aW (aW (aW (aW w (bG pa pc p) 27) (aX ba ca bo cb x) 31) (eH VF VJ addr port peer VG VM) 89) (cZ c) 48).alloc (.cells gU.toArray 104)) (w.heap.size) (bG pa pc p):=by
  have h:=aA.new w (bG pa pc p) 27;try simp only[UC]at h
  exact((((h.alloc _).alloc _).alloc _).alloc _)
 have e1:aA ((aW (aW (aW (aW w (bG pa pc p) 27) (aX ba ca bo cb x) 31) (eH VF VJ addr port peer VG VM) 89) (cZ c) 48).alloc (.cells gU.toArray 104)) (w.heap.size+1) (aX ba ca bo cb x):=by
  have h:=aA.new (w.alloc (.cells (bG pa pc p).toArray 27)) (aX ba ca bo cb x) 31;try simp only[UC]at h
  exact(((h.alloc _).alloc _).alloc _)
 have e2:aA ((aW (aW (aW (aW w (bG pa pc p) 27) (aX ba ca bo cb x) 31) (eH VF VJ addr port peer VG VM) 89) (cZ c) 48).alloc (.cells gU.toArray 104)) (w.heap.size+1+1) (eH VF VJ addr port peer VG VM):=by
  have h:=aA.new ((aW w (bG pa pc p) 27).alloc (.cells (aX ba ca bo cb x).toArray 31)) (eH VF VJ addr port peer VG VM) 89;try simp only[UC]at h
  exact((h.alloc _).alloc _)
 have e3:aA ((aW (aW (aW (aW w (bG pa pc p) 27) (aX ba ca bo cb x) 31) (eH VF VJ addr port peer VG VM) 89) (cZ c) 48).alloc (.cells gU.toArray 104)) (w.heap.size+1+1+1) (cZ c):=by
  have h:=aA.new ((aW (aW w (bG pa pc p) 27) (aX ba ca bo cb x) 31).alloc (.cells (eH VF VJ addr port peer VG VM).toArray 89)) (cZ c) 48;try simp only[UC]at h
  exact(h.alloc _)
 have e4:aA ((aW (aW (aW (aW w (bG pa pc p) 27) (aX ba ca bo cb x) 31) (eH VF VJ addr port peer VG VM) 89) (cZ c) 48).alloc (.cells gU.toArray 104)) (w.heap.size+1+1+1+1) gU:=by
  have h:=aA.new ((aW (aW (aW w (bG pa pc p) 27) (aX ba ca bo cb x) 31) (eH VF VJ addr port peer VG VM) 89).alloc (.cells (cZ c).toArray 48)) gU 104;try simp only[UC]at h
  exact h
 have HS0:Hid (dD w [(w.heap.size,(bG pa pc p)),(w.heap.size+1,(aX ba ca bo cb x)),(w.heap.size+1+1,(eH VF VJ addr port peer VG VM)),(w.heap.size+1+1+1,(cZ c)),(w.heap.size+1+1+1+1,gU)] ((aW (aW (aW (aW w (bG pa pc p) 27) (aX ba ca bo cb x) 31) (eH VF VJ addr port peer VG VM) 89) (cZ c) 48).alloc (.cells gU.toArray 104))):=by
  refine⟨fun e he=>?_,(((((bR.alloc lR _).alloc (by simp only[UC];omega) _).alloc (by simp only[UC];omega) _).alloc (by simp only[UC];omega) _).alloc (by simp only[UC];omega) _),fun e he=>?_⟩
  ·simp only[UH,UG,or_false]at he;rcases he with rfl|rfl|rfl|rfl|rfl
   ·exact e0
   ·exact e1
   ·exact e2
   ·exact e3
   ·exact e4
  ·simp only[UH,UG,or_false]at he;rcases he with rfl|rfl|rfl|rfl|rfl<;>simp
 clear e0 e1 e2 e3 e4 hp hx hd hkd hpo hnow;unfold iK gP pJ gW;go_enter Tryz.func157,Tryz.ntmps157
 go_upto_region 1 with fail
 generalize World.alloc _ _=W at *;have HHt:=HS0.out.at eL;obtain⟨t0,t1,t2,t3,t4,t5,t6⟩:=HHt.c7;clear HHt;have HHb:=HS0.out.at dZ;obtain⟨b0,b1⟩:=HHb.c2;clear HHb;have HHp:=HS0.out.at cM;have p3:=HHp.cell (j:=3) rfl;clear HHp;go_wp2_with fail
 refine(HN.out _).mono ?_;rintro e W ⟨rfl,rfl⟩;by_cases hst:st=0
 case pos=>
  have dst:(st==0)=true:=by simp[hst]
  have HX:Hid (ans=kY (6)):=by unfold Hid;rw[HV.out,if_pos hst]
  have HHz:=HS0.out.at nH;obtain⟨z0,z1,z2,z3,z4,z5,z6,z7⟩:=HHz.c8;obtain⟨zf0,zf1,zf2,zf3,zf4,zf5,zf6,zf7⟩:=HHz.f8;obtain⟨HRR,RB⟩:=vN HHz HS0.out.b hRw (.slice none 0 0) (.slice none 0 0) (iV 0) eS (iV 0) eS (iV 0) (iV (6));clear HHz;go_wp2_with fail
  exact VB (aF Tryz.results157 _ _ (w.heap.size+1+1+1+1) [.slice none 0 0,.slice none 0 0,iV 0,eS,iV 0,eS,iV 0,iV (6)] _ rfl HRR.out Tryz.underlying104 rfl (show (Tryz.prog.info? 104).map (·.size)=some 8 by kernel_rfl)) rfl (And.intro (by rw[HX.out];exact⟨none,none,0,0,rfl,.inl rfl,.inl rfl,fun g h e1=>by simp at e1⟩) RB.out)
 have dst:(st==0)=false:=by simp[hst]
 by_cases hm:p.most≤(x.VK.length:Int)
 case pos=>
  have HX:Hid (ans=kY (9)):=by unfold Hid;rw[HV.out,if_neg hst,if_pos hm]
  have HHz:=HS0.out.at nH;obtain⟨z0,z1,z2,z3,z4,z5,z6,z7⟩:=HHz.c8;obtain⟨zf0,zf1,zf2,zf3,zf4,zf5,zf6,zf7⟩:=HHz.f8;obtain⟨HRR,RB⟩:=vN HHz HS0.out.b hRw (.slice none 0 0) (.slice none 0 0) (iV 0) eS (iV 0) eS (iV 0) (iV (9));clear HHz;go_wp2_with fail
  exact VB (aF Tryz.results157 _ _ (w.heap.size+1+1+1+1) [.slice none 0 0,.slice none 0 0,iV 0,eS,iV 0,eS,iV 0,iV (9)] _ rfl HRR.out Tryz.underlying104 rfl (show (Tryz.prog.info? 104).map (·.size)=some 8 by kernel_rfl)) rfl (And.intro (by rw[HX.out];exact⟨none,none,0,0,rfl,.inl rfl,.inl rfl,fun g h e1=>by simp at e1⟩) RB.out)
 rw[if_neg hst,if_neg hm]at HV;go_upto_if 32 with fail
 clear p3 hm dst;go_cut [12] (fun v wx=>v=iV kd∧dD w [(w.heap.size,(bG pa pc p)),(w.heap.size+1,(aX ba ca bo cb x)),(w.heap.size+1+1,(eH VF VJ addr port peer VG VM)),(w.heap.size+1+1+1,(cZ d)),(w.heap.size+1+1+1+1,gU)] wx)
 case first=>
  clear HV HLG HN HBJ HCY HNB
  cases VJ with
  | false=>
   have hd:d=c:=by rw[HD.out];rfl
   have hk:kd=0:=by rw[HKD.out];rfl
   go_wp2_with fail
   go_meet;exact⟨by rw[hk],by rw[hd];exact HS0.out⟩
  | true=>
   have hd:d=lb:=by rw[HD.out];rfl
   have hk:kd=lk:=by rw[HKD.out];rfl
   have HHp:=HS0.out.at cM;obtain⟨p0,p1,p2,p3,p4,p5,p6,p7,p8,p9⟩:=HHp.c10;clear HHp;go_wp2_with fail
   refine(HPT.out _ HS0.out.b).mono ?_;rintro e W2 ⟨rfl,q2⟩;have S2:Hid _:=HS0.out.kept q2;clear q2;have HHx:=S2.out.at iF;obtain⟨x0,x1,x2,x3,x4⟩:=HHx.c5;obtain⟨xf0,xf1,xf2,xf3,xf4⟩:=HHx.f5;have HBX:Hid (dD w [(w.heap.size,(bG pa pc p)),(w.heap.size+1,(aX ba ca bo cb x)),(w.heap.size+1+1,(eH VF true addr port peer VG VM)),(w.heap.size+1+1+1,(cZ lb)),(w.heap.size+1+1+1+1,gU)] ((sW (sW (sW (sW W2 (w.heap.size+1+1+1) 0 (iV lb.VF)) (w.heap.size+1+1+1) 1 (.string lb.inn)) (w.heap.size+1+1+1) 2 (iV lb.VH)) (w.heap.size+1+1+1) 3 (.string lb.out)).setCell ⟨w.heap.size+1+1+1,4,none⟩ (iV lb.VI))):=by
    refine⟨fun e he=>?_,(((((S2.out.b.setCell (p:=⟨w.heap.size+1+1+1,0,none⟩) (by show w.heap.size≤w.heap.size+1+1+1;omega) (iV lb.VF)).setCell (p:=⟨w.heap.size+1+1+1,1,none⟩) (by show w.heap.size≤w.heap.size+1+1+1;omega) (.string lb.inn)).setCell (p:=⟨w.heap.size+1+1+1,2,none⟩) (by show w.heap.size≤w.heap.size+1+1+1;omega) (iV lb.VH)).setCell (p:=⟨w.heap.size+1+1+1,3,none⟩) (by show w.heap.size≤w.heap.size+1+1+1;omega) (.string lb.out)).setCell (p:=⟨w.heap.size+1+1+1,4,none⟩) (by show w.heap.size≤w.heap.size+1+1+1;omega) (iV lb.VI)),fun e he=>?_⟩
    ·simp only[UH,UG,or_false]at he;rcases he with rfl|rfl|rfl|rfl|rfl
     ·exact(aA.setOther (aA.setOther (aA.setOther (aA.setOther (aA.setOther (S2.out.k _ cM) (by show w.heap.size≠w.heap.size+1+1+1;omega) (iV lb.VF)) (by show w.heap.size≠w.heap.size+1+1+1;omega) (.string lb.inn)) (by show w.heap.size≠w.heap.size+1+1+1;omega) (iV lb.VH)) (by show w.heap.size≠w.heap.size+1+1+1;omega) (.string lb.out)) (by show w.heap.size≠w.heap.size+1+1+1;omega) (iV lb.VI))
     ·exact(aA.setOther (aA.setOther (aA.setOther (aA.setOther (aA.setOther (S2.out.k _ dZ) (by show w.heap.size+1≠w.heap.size+1+1+1;omega) (iV lb.VF)) (by show w.heap.size+1≠w.heap.size+1+1+1;omega) (.string lb.inn)) (by show w.heap.size+1≠w.heap.size+1+1+1;omega) (iV lb.VH)) (by show w.heap.size+1≠w.heap.size+1+1+1;omega) (.string lb.out)) (by show w.heap.size+1≠w.heap.size+1+1+1;omega) (iV lb.VI))
     ·exact(aA.setOther (aA.setOther (aA.setOther (aA.setOther (aA.setOther (S2.out.k _ eL) (by show w.heap.size+1+1≠w.heap.size+1+1+1;omega) (iV lb.VF)) (by show w.heap.size+1+1≠w.heap.size+1+1+1;omega) (.string lb.inn)) (by show w.heap.size+1+1≠w.heap.size+1+1+1;omega) (iV lb.VH)) (by show w.heap.size+1+1≠w.heap.size+1+1+1;omega) (.string lb.out)) (by show w.heap.size+1+1≠w.heap.size+1+1+1;omega) (iV lb.VI))
     ·exact(((((HHx.set 0 (iV lb.VF)).set 1 (.string lb.inn)).set 2 (iV lb.VH)).set 3 (.string lb.out)).set 4 (iV lb.VI))
     ·exact(aA.setOther (aA.setOther (aA.setOther (aA.setOther (aA.setOther (S2.out.k _ nH) (by show w.heap.size+1+1+1+1≠w.heap.size+1+1+1;omega) (iV lb.VF)) (by show w.heap.size+1+1+1+1≠w.heap.size+1+1+1;omega) (.string lb.inn)) (by show w.heap.size+1+1+1+1≠w.heap.size+1+1+1;omega) (iV lb.VH)) (by show w.heap.size+1+1+1+1≠w.heap.size+1+1+1;omega) (.string lb.out)) (by show w.heap.size+1+1+1+1≠w.heap.size+1+1+1;omega) (iV lb.VI))
    ·simp only[UH,UG,or_false]at he;rcases he with rfl|rfl|rfl|rfl|rfl<;>simp
   clear HHx;go_wp2_with fail
   go_meet;exact⟨by rw[hk],by rw[hd];exact HBX.out⟩
 case rest=>
 obtain⟨rfl,hS⟩:=hcut;have S1:Hid _:=hS;clear hS HS0 HPT HN t0 t1 t2 t3 t4 t5 t6 b0 b1;generalize wc=W1 at *;by_cases hk:kd=0
 case neg=>
  have dk:(kd != 0)=true:=by simp[hk]
  have HX:Hid (ans=kY (kd)):=by unfold Hid;rw[HV.out,if_pos hk]
  have HHz:=S1.out.at nH;obtain⟨z0,z1,z2,z3,z4,z5,z6,z7⟩:=HHz.c8;obtain⟨zf0,zf1,zf2,zf3,zf4,zf5,zf6,zf7⟩:=HHz.f8;obtain⟨HRR,RB⟩:=vN HHz S1.out.b hRw (.slice none 0 0) (.slice none 0 0) (iV 0) eS (iV 0) eS (iV 0) (iV (kd));clear HHz;go_wp2_with fail
  exact VB (aF Tryz.results157 _ _ (w.heap.size+1+1+1+1) [.slice none 0 0,.slice none 0 0,iV 0,eS,iV 0,eS,iV 0,iV (kd)] _ rfl HRR.out Tryz.underlying104 rfl (show (Tryz.prog.info? 104).map (·.size)=some 8 by kernel_rfl)) rfl (And.intro (by rw[HX.out];exact⟨none,none,0,0,rfl,.inl rfl,.inl rfl,fun g h e1=>by simp at e1⟩) RB.out)
 have dk:(kd != 0)=false:=by simp[hk]
 rw[if_neg (by simp[hk])]at HV;clear hk;have HHb:=S1.out.at dZ;obtain⟨b0,b1⟩:=HHb.c2;clear HHb;go_wp2_with fail
 refine(HCY.out _ S1.out.b).mono ?_;rintro e W5 ⟨⟨bv,sv,rfl,o1,o2⟩,q5⟩;have S5:Hid _:=S1.out.kept q5;have HO:Hid _:=fK.make (ks:=[(w.heap.size,(bG pa pc p)),(w.heap.size+1,(aX ba ca bo cb x)),(w.heap.size+1+1,(eH VF VJ addr port peer VG VM)),(w.heap.size+1+1+1,(cZ d)),(w.heap.size+1+1+1+1,gU)]) (x:=x) S1.out.b.size S5.out.b o1 o2 S5.out.k S1.out.lts q5.size;obtain⟨ab,cb1,hbv,-,-⟩:=(xV.shape eC (w0:=W5) ⟨o1,Below.refl _ _⟩: ∃a' cap,bv=.slice a' x.VN.length cap∧x.VN.length≤cap∧eX dP 5 W1.heap.size W5 a' x.VN);obtain⟨sa,cs1,hsv,-,-⟩:=(xV.shape eD (w0:=W5) ⟨o2,Below.refl _ _⟩: ∃a' cap,sv=.slice a' x.VK.length cap∧x.VK.length≤cap∧eX fZ 7 W1.heap.size W5 a' x.VK);subst hbv hsv;clear q5 o1 o2 S5 S1 b0 b1 dk;go_upto_region 12 with fail
 generalize (W5.alloc (.cells #[(.slice ab x.VN.length cb1),(.slice sa x.VK.length cs1)] 31))=W6 at *;generalize W5.heap.size=O at *;generalize W1.heap.size=base at *;have HHb:=HO.out.at dZ;obtain⟨b0,b1⟩:=HHb.c2;clear HHb;have HHx:=HO.out.at iF;obtain⟨x0,x1,x2,x3,x4⟩:=HHx.c5;clear HHx;go_wp2_with fail
 refine(HBJ.out _ HO.out.b).mono ?_;rintro e W7 ⟨rfl,q7⟩;have S7:Hid _:=HO.out.kept q7;clear q7 HO b0 b1 x0 x1 x2 x3 x4;by_cases hfi:fi < 0
 ·
  have hnb:nb=x.VN++[d]:=by rw[HNB.out,if_pos hfi]
  rw[hnb]at HV;clear hnb HNB;have bn:Below W7.heap.size W7 (W7.alloc (.cells (cZ d).toArray 48)):=bR.alloc lR _;obtain⟨v6,w6,hrun,⟨gb,lb6,cb6,rfl⟩,hO6,S6⟩:=(S7.out.kept bn).appB d W7.heap.size (aA.new W7 (dP d) 48) hl1;have HRUN:Hid _:=hrun;have S8:Hid _:=S6;have k0:=S7.out.o.cell (j:=0) rfl;have HHx:=S7.out.at iF;obtain⟨x0,x1,x2,x3,x4⟩:=HHx.c5;clear HHx;have p1:=hO6.cell (j:=0) rfl;have p2:=hO6.free (j:=0) (by simp);clear hrun S6 hO6 S7 bn;go_upto_region 14 with (first | (at_builtin;refine sZ rfl (.tmp 61) (.tmp 63) _ rfl rfl rfl HRUN.out ?_) | go_in)
  clear HRUN p1 p2 k0 x0 x1 x2 x3 x4;generalize (w6.setCell ⟨O,0,none⟩ (.slice (some ⟨gb,0,none⟩) lb6 cb6))=W8 at *;have HCP:Hid (∀wy,Below W8.drew.heap.size W8.drew wy→_):=fun wy hy=>S8.out.kept (bR.drew.trans hy)
  clear hun;refine aN [66,67,68,69,70,71,72,73,74,75,76,77,78,79,80,81,82,83,84,85,86,87,88] (by kernel_rfl) (by kernel_rfl) ?_;iterate 22 (apply bC.u rfl;(·intro K' a wy ho hd hb hK;simp[aU,aG,aD,Region.binds]at ho hd;have hst:=HCP.out wy hb;have ko:=hst.o.cell (j:=1) rfl;have kC:=(hst.at eL).c7;have kC:=(hst.at iF).c5;have kC:=(hst.at cM).c10;clear hst;go_simp;first|((try go_bits);exact hK _ _ rfl bQ)|(refine(HLG.out wy).mono ?_;rintro e wz ⟨rfl,hz⟩;exact hK _ _ rfl hz));dsimp only[nA,cA])
  refine bC.rel (n:=22) (jE (fZ ⟨VF,d.inn,d.VH,peer,VG,st,now+lf⟩)) (gD _ (by simp[fZ])) [_,_,_,_,_,_,_,_,_,_,_,_,_,_,_,_,_,_,_,_,_,_,jE (fZ ⟨VF,d.inn,d.VH,peer,VG,st,now+lf⟩)] rfl rfl ?_ ?_
  ·intro K' a wy ho hd hb hK;rw[wN rfl];have q21:=hd ⟨21,.data⟩ (by simp) rfl;simp[aU,aG,aD]at q21;clear hd ho;go_simp;exact hK _ _ ⟨wy.heap.size,rfl,aA.new wy (fZ ⟨VF,d.inn,d.VH,peer,VG,st,now+lf⟩) _⟩ (bR.alloc lR _)
  intro X wz hR hz;obtain⟨x0,x1,x2,x3,x4,x5,x6,x7,x8,x9,x10,x11,x12,x13,x14,x15,x16,x17,x18,x19,x20,x21,x22,-⟩:=hR;simp only[aG]at x0 x1 x2 x3 x4 x5 x6 x7 x8 x9 x10 x11 x12 x13 x14 x15 x16 x17 x18 x19 x20 x21;simp only[aE,x0,x1,x2,x3,x4,x5,x6,x7,x8,x9,x10,x11,x12,x13,x14,x15,x16,x17,x18,x19,x20,x21,aE];clear x0 x1 x2 x3 x4 x5 x6 x7 x8 x9 x10 x11 x12 x13 x14 x15 x16 x17 x18 x19 x20 x21;obtain⟨g7,e7,r7⟩:=x22;have SZ:=HCP.out wz hz;obtain⟨v6,w6,hrun,⟨gg,l6,c6,rfl⟩,hO6,S6⟩:=SZ.appS ⟨VF,d.inn,d.VH,peer,VG,st,now+lf⟩ g7 r7 hl2;have HRUN:Hid _:=hrun;have S9:Hid _:=S6;have p1:=hO6.cell (j:=1) rfl;have p2:=hO6.free (j:=1) (by simp);clear hrun S6 hO6 SZ r7 hz HCP;simp only[e7];simp only[List.length_cons,List.length_nil,List.drop_succ_cons,List.drop_zero,UI,Nat.reduceAdd];intro K5 hK5;with_reducible refine dI (.tmp 67) (.tmp 88) _ rfl ?_ ?_ HRUN.out (hK5 _ _ ?_)
  ·simp[Act.eval,Act.put]
  ·simp[Act.eval,Act.put]
  intro K6 hK6;go_simp;refine hK6 _ _ ?_;intro K7 hK7;go_simp;refine hK7 _ _ ?_;simp only[fN];clear HRUN p1 p2;generalize (w6.setCell ⟨O,1,none⟩ (.slice (some ⟨gg,0,none⟩) l6 c6))=W9 at *;obtain⟨k0,k1⟩:=S9.out.o.c2;have HHx:=S9.out.at iF;obtain⟨x0,x1,x2,x3,x4⟩:=HHx.c5;clear HHx;have HHz:=S9.out.at nH;obtain⟨z0,z1,z2,z3,z4,z5,z6,z7⟩:=HHz.c8;obtain⟨zf0,zf1,zf2,zf3,zf4,zf5,zf6,zf7⟩:=HHz.f8;obtain⟨HRR,RB⟩:=vN HHz S9.out.b hRw ((.slice (some ⟨gb,0,none⟩) lb6 cb6)) ((.slice (some ⟨gg,0,none⟩) l6 c6)) (iV d.VF) (.string d.inn) (iV d.VH) (.string d.out) (iV d.VI) (iV 0);obtain⟨a1,q1,hb1,-,hbo⟩:=S9.out.shapes.1;obtain⟨a2,q2,hb2,-,hso⟩:=S9.out.shapes.2;injection hb1 with i1 i2 i3
  injection hb2 with i4 i5 i6
  have hRb:w.heap.size+1+1+1+1 < base:=(S9.out.kb _ nH).1;have hwb:=S9.out.wb;have HOW:Hid (bV w.heap.size ((sW (sW (sW (sW (sW (sW (sW W9 (w.heap.size+1+1+1+1) 0 ((.slice (some ⟨gb,0,none⟩) lb6 cb6))) (w.heap.size+1+1+1+1) 1 ((.slice (some ⟨gg,0,none⟩) l6 c6))) (w.heap.size+1+1+1+1) 2 (iV d.VF)) (w.heap.size+1+1+1+1) 3 (.string d.inn)) (w.heap.size+1+1+1+1) 4 (iV d.VH)) (w.heap.size+1+1+1+1) 5 (.string d.out)) (w.heap.size+1+1+1+1) 6 (iV d.VI)).setCell ⟨w.heap.size+1+1+1+1,7,none⟩ (iV 0)) a1 a2 ⟨x.VN++[d],x.VK++[⟨VF,d.inn,d.VH,peer,VG,st,now+lf⟩]⟩):=⟨(hbo.grown (aB (aB (aB (aB (aB (aB (aB (aB (World.grownBy.refl _ _) _) _) _) _) _) _) _) _) hRb).down hwb,(hso.grown (aB (aB (aB (aB (aB (aB (aB (aB (World.grownBy.refl _ _) _) _) _) _) _) _) _) _) hRb).down hwb,fun g h e1 e2 _ _ e3=>S9.out.ne g (by rw[i1,e1];rfl) (by rw[i4,e2,←e3];rfl)⟩;have I1:Hid _:=i1;have I2:Hid _:=i2;have I3:Hid _:=i3;have I4:Hid _:=i4;have I5:Hid _:=i5;have I6:Hid _:=i6;clear HHz hbo hso S9 i1 i2 i3 i4 i5 i6;go_wp2_with fail
  exact VB (aF Tryz.results157 _ _ _ _ _ rfl HRR.out Tryz.underlying104 rfl (show (Tryz.prog.info? 104).map (·.size)=some 8 by kernel_rfl)) rfl (And.intro (by rw[HV.out];exact⟨a1,a2,q1,q2,by first | (rw[I1.out,I2.out,I3.out,I4.out,I5.out,I6.out];rfl) | (rw[I1.out,I3.out,I4.out,I5.out,I6.out];rfl),HOW.out⟩) RB.out)
 ·
  have hnb:nb=x.VN:=by rw[HNB.out,if_neg hfi]
  rw[hnb]at HV;clear hnb HNB;have S8:Hid _:=S7.out;clear S7;go_upto_region 14 with fail
  have HCP:Hid (∀wy,Below W7.drew.heap.size W7.drew wy→_):=fun wy hy=>S8.out.kept (bR.drew.trans hy)
  clear hun;refine aN [66,67,68,69,70,71,72,73,74,75,76,77,78,79,80,81,82,83,84,85,86,87,88] (by kernel_rfl) (by kernel_rfl) ?_;iterate 22 (apply bC.u rfl;(·intro K' a wy ho hd hb hK;simp[aU,aG,aD,Region.binds]at ho hd;have hst:=HCP.out wy hb;have ko:=hst.o.cell (j:=1) rfl;have kC:=(hst.at eL).c7;have kC:=(hst.at iF).c5;have kC:=(hst.at cM).c10;clear hst;go_simp;first|((try go_bits);exact hK _ _ rfl bQ)|(refine(HLG.out wy).mono ?_;rintro e wz ⟨rfl,hz⟩;exact hK _ _ rfl hz));dsimp only[nA,cA])
  refine bC.rel (n:=22) (jE (fZ ⟨VF,d.inn,d.VH,peer,VG,st,now+lf⟩)) (gD _ (by simp[fZ])) [_,_,_,_,_,_,_,_,_,_,_,_,_,_,_,_,_,_,_,_,_,_,jE (fZ ⟨VF,d.inn,d.VH,peer,VG,st,now+lf⟩)] rfl rfl ?_ ?_
  ·intro K' a wy ho hd hb hK;rw[wN rfl];have q21:=hd ⟨21,.data⟩ (by simp) rfl;simp[aU,aG,aD]at q21;clear hd ho;go_simp;exact hK _ _ ⟨wy.heap.size,rfl,aA.new wy (fZ ⟨VF,d.inn,d.VH,peer,VG,st,now+lf⟩) _⟩ (bR.alloc lR _)
  intro X wz hR hz;obtain⟨x0,x1,x2,x3,x4,x5,x6,x7,x8,x9,x10,x11,x12,x13,x14,x15,x16,x17,x18,x19,x20,x21,x22,-⟩:=hR;simp only[aG]at x0 x1 x2 x3 x4 x5 x6 x7 x8 x9 x10 x11 x12 x13 x14 x15 x16 x17 x18 x19 x20 x21;simp only[aE,x0,x1,x2,x3,x4,x5,x6,x7,x8,x9,x10,x11,x12,x13,x14,x15,x16,x17,x18,x19,x20,x21,aE];clear x0 x1 x2 x3 x4 x5 x6 x7 x8 x9 x10 x11 x12 x13 x14 x15 x16 x17 x18 x19 x20 x21;obtain⟨g7,e7,r7⟩:=x22;have SZ:=HCP.out wz hz;obtain⟨v6,w6,hrun,⟨gg,l6,c6,rfl⟩,hO6,S6⟩:=SZ.appS ⟨VF,d.inn,d.VH,peer,VG,st,now+lf⟩ g7 r7 hl2;have HRUN:Hid _:=hrun;have S9:Hid _:=S6;have p1:=hO6.cell (j:=1) rfl;have p2:=hO6.free (j:=1) (by simp);clear hrun S6 hO6 SZ r7 hz HCP;simp only[e7];simp only[List.length_cons,List.length_nil,List.drop_succ_cons,List.drop_zero,UI,Nat.reduceAdd];intro K5 hK5;with_reducible refine dI (.tmp 67) (.tmp 88) _ rfl ?_ ?_ HRUN.out (hK5 _ _ ?_)
  ·simp[Act.eval,Act.put]
  ·simp[Act.eval,Act.put]
  intro K6 hK6;go_simp;refine hK6 _ _ ?_;intro K7 hK7;go_simp;refine hK7 _ _ ?_;simp only[fN];clear HRUN p1 p2;generalize (w6.setCell ⟨O,1,none⟩ (.slice (some ⟨gg,0,none⟩) l6 c6))=W9 at *;obtain⟨k0,k1⟩:=S9.out.o.c2;have HHx:=S9.out.at iF;obtain⟨x0,x1,x2,x3,x4⟩:=HHx.c5;clear HHx;have HHz:=S9.out.at nH;obtain⟨z0,z1,z2,z3,z4,z5,z6,z7⟩:=HHz.c8;obtain⟨zf0,zf1,zf2,zf3,zf4,zf5,zf6,zf7⟩:=HHz.f8;obtain⟨HRR,RB⟩:=vN HHz S9.out.b hRw ((.slice ab x.VN.length cb1)) ((.slice (some ⟨gg,0,none⟩) l6 c6)) (iV d.VF) (.string d.inn) (iV d.VH) (.string d.out) (iV d.VI) (iV 0);obtain⟨a1,q1,hb1,-,hbo⟩:=S9.out.shapes.1;obtain⟨a2,q2,hb2,-,hso⟩:=S9.out.shapes.2;injection hb1 with i1 i2 i3
  injection hb2 with i4 i5 i6
  have hRb:w.heap.size+1+1+1+1 < base:=(S9.out.kb _ nH).1;have hwb:=S9.out.wb;have HOW:Hid (bV w.heap.size ((sW (sW (sW (sW (sW (sW (sW W9 (w.heap.size+1+1+1+1) 0 ((.slice ab x.VN.length cb1))) (w.heap.size+1+1+1+1) 1 ((.slice (some ⟨gg,0,none⟩) l6 c6))) (w.heap.size+1+1+1+1) 2 (iV d.VF)) (w.heap.size+1+1+1+1) 3 (.string d.inn)) (w.heap.size+1+1+1+1) 4 (iV d.VH)) (w.heap.size+1+1+1+1) 5 (.string d.out)) (w.heap.size+1+1+1+1) 6 (iV d.VI)).setCell ⟨w.heap.size+1+1+1+1,7,none⟩ (iV 0)) a1 a2 ⟨x.VN,x.VK++[⟨VF,d.inn,d.VH,peer,VG,st,now+lf⟩]⟩):=⟨(hbo.grown (aB (aB (aB (aB (aB (aB (aB (aB (World.grownBy.refl _ _) _) _) _) _) _) _) _) _) hRb).down hwb,(hso.grown (aB (aB (aB (aB (aB (aB (aB (aB (World.grownBy.refl _ _) _) _) _) _) _) _) _) _) hRb).down hwb,fun g h e1 e2 _ _ e3=>S9.out.ne g (by rw[i1,e1];rfl) (by rw[i4,e2,←e3];rfl)⟩;have I1:Hid _:=i1;have I2:Hid _:=i2;have I3:Hid _:=i3;have I4:Hid _:=i4;have I5:Hid _:=i5;have I6:Hid _:=i6;clear HHz hbo hso S9 i1 i2 i3 i4 i5 i6;go_wp2_with fail
  exact VB (aF Tryz.results157 _ _ _ _ _ rfl HRR.out Tryz.underlying104 rfl (show (Tryz.prog.info? 104).map (·.size)=some 8 by kernel_rfl)) rfl (And.intro (by rw[HV.out];exact⟨a1,a2,q1,q2,by first | (rw[I1.out,I2.out,I3.out,I4.out,I5.out,I6.out];rfl) | (rw[I1.out,I3.out,I4.out,I5.out,I6.out];rfl),HOW.out⟩) RB.out)
theorem xC(pa:OA)(pc:Nat)(p:Pl)(ba bo:OA)(ca cb:Nat)(x:Bb)(t:Tc)(now:Int)(w:World)(hpo:cU p=true)(hnow:bT now=true)(hta:t.addr.size≤1048576)(h0:0≤t.port)(h1:t.port≤65535)(hl1:x.VN.length≤1048576)(hl2:x.VK.length≤1048576)(hp:bP cB 1 w pa p.VL)(hx:dC w ba bo x) :
  Calls Tryz.prog 114 #[iK pa pc p,gP ba bo ca cb x,pJ t,iV now] w fun e w'=>kX w.heap.size (dO p x t now) e w'∧Below w.heap.size w w':=by
 obtain⟨VF,VJ,addr,port,peer,VG,VM⟩:=t;dsimp only at hta h0 h1;have hn:0≤now∧now≤1000000000:=by have h:=hnow;unfold bT aO at h;simp only[UB,UF]at h;omega
 obtain⟨hn0,hn1⟩:=hn;have HB1:Hid (∀W,Below w.heap.size w W→Cb 33 #[.agg (aX ba ca bo cb x).toArray,iV VF,.string addr,iV port] W (iV (bD (cD VF addr port) x.VN))):=fun W hW=>nC x.VN VF addr port ba ca _ W hl1 (hx.bd.below hW)
 have HB2:Hid (∀W,Below w.heap.size w W→Cb 156 #[.agg (aX ba ca bo cb x).toArray,iV VF,.string addr,iV port] W (iV (bD (cV VF addr port) x.VN))):=fun W hW=>EF x.VN VF addr port ba ca _ W hl1 (hx.bd.below hW)
 have HSS:Hid (∀(c:Bd) (W:World),Below w.heap.size w W→Cb 158 #[.agg (aX ba ca bo cb x).toArray,.agg (cZ c).toArray,.string peer,iV VG] W (iV (bD (eU c peer VG) x.VK))):=fun c W hW=>yL x c peer VG ba bo ca cb W hl2 (hx.below hW)
 have HKN:Hid (∀(c:Bd) (W:World),Below w.heap.size w W→Cb 159 #[.agg (aX ba ca bo cb x).toArray,.agg (cZ c).toArray,.string peer] W (.bool (x.VK.any (kV c peer)))):=fun c W hW=>EI x c peer ba bo ca cb W hl2 (hx.below hW)
 have HCY:Hid (∀W,Below w.heap.size w W→Calls Tryz.prog 126 #[.agg (aX ba ca bo cb x).toArray] W fun e w'=>oE W.heap.size x e w'∧Below W.heap.size W w'):=fun W hW=>rT x ba bo ca cb W hl1 hl2 (hx.below hW)
 have HNX:Hid (∀(st:Int) (W:World),Cb 160 #[iV VF,iV st,.bool VJ,iV VM] W (iV (aY VF st VJ VM))):=fun st W=>(BN VF st VJ VM W).mono (by rintro e w' ⟨rfl,rfl⟩;exact⟨rfl,Below.refl _ _⟩)
 have HLF:Hid (∀(st:Int) (W:World),Cb 161 #[.agg #[iV p.lv.udp,iV p.lv.echo,iV p.lv.opening,iV p.lv.opn,iV p.lv.closing],iV VF,iV st] W (iV (bU p.lv VF st))):=fun st W=>sX p.lv VF st W
 have HNW:Hid (∀(c:Bd) (W:World),Below w.heap.size w W→Calls Tryz.prog 157 #[.agg (bG pa pc p).toArray,.agg (aX ba ca bo cb x).toArray,.agg (eH VF VJ addr port peer VG VM).toArray,gW c,iV now] W fun e w'=>kX W.heap.size (jX p x ⟨VF,VJ,addr,port,peer,VG,VM⟩ c now) e w'∧Below W.heap.size W w'):=fun c W hW=>KV pa pc p ba bo ca cb x ⟨VF,VJ,addr,port,peer,VG,VM⟩ c now W hpo hnow hta h0 h1 hl1 hl2 (hp.below hW) (hx.below hW)
 obtain⟨g,hg⟩: ∃g,g=(if VJ=true then cD VF addr port else cV VF addr port):=⟨_,rfl⟩;have HG:Hid (g=(if VJ=true then cD VF addr port else cV VF addr port)):=hg;have HV:Hid (dO p x ⟨VF,VJ,addr,port,peer,VG,VM⟩ now=match x.VN.find? g with
  | none=>if VJ=true then jX p x ⟨VF,VJ,addr,port,peer,VG,VM⟩ lB now else kY 6
  | some c=>match x.VK.findIdx? (eU c peer VG) with
   | none=>if mB p x ⟨VF,VJ,addr,port,peer,VG,VM⟩ c=true then kY 6 else jX p x ⟨VF,VJ,addr,port,peer,VG,VM⟩ c now
   | some i=>⟨⟨x.VN,tQ x.VK i (nI p ⟨VF,VJ,addr,port,peer,VG,VM⟩ now)⟩,c,0⟩):=by rw[hg];rfl
 generalize dO p x ⟨VF,VJ,addr,port,peer,VG,VM⟩ now=ans at *;have HSX:Hid (dC w ba bo x):=hx;have hun:undef=Value.tuple #[]:=rfl;have hRw:w.heap.size≤w.heap.size+1+1+1:=by omega
 have e0:aA ((aW (aW (aW w (bG pa pc p) 27) (aX ba ca bo cb x) 31) (eH VF VJ addr port peer VG VM) 89).alloc (.cells gU.toArray 104)) (w.heap.size) (bG pa pc p):=by
  have h:=aA.new w (bG pa pc p) 27;try simp only[UC]at h
  exact(((h.alloc _).alloc _).alloc _)
 have e1:aA ((aW (aW (aW w (bG pa pc p) 27) (aX ba ca bo cb x) 31) (eH VF VJ addr port peer VG VM) 89).alloc (.cells gU.toArray 104)) (w.heap.size+1) (aX ba ca bo cb x):=by
  have h:=aA.new (w.alloc (.cells (bG pa pc p).toArray 27)) (aX ba ca bo cb x) 31;try simp only[UC]at h
  exact((h.alloc _).alloc _)
 have e2:aA ((aW (aW (aW w (bG pa pc p) 27) (aX ba ca bo cb x) 31) (eH VF VJ addr port peer VG VM) 89).alloc (.cells gU.toArray 104)) (w.heap.size+1+1) (eH VF VJ addr port peer VG VM):=by
  have h:=aA.new ((aW w (bG pa pc p) 27).alloc (.cells (aX ba ca bo cb x).toArray 31)) (eH VF VJ addr port peer VG VM) 89;try simp only[UC]at h
  exact(h.alloc _)
 have e3:aA ((aW (aW (aW w (bG pa pc p) 27) (aX ba ca bo cb x) 31) (eH VF VJ addr port peer VG VM) 89).alloc (.cells gU.toArray 104)) (w.heap.size+1+1+1) gU:=by
  have h:=aA.new ((aW (aW w (bG pa pc p) 27) (aX ba ca bo cb x) 31).alloc (.cells (eH VF VJ addr port peer VG VM).toArray 89)) gU 104;try simp only[UC]at h
  exact h
 have HS0:Hid (dD w [(w.heap.size,(bG pa pc p)),(w.heap.size+1,(aX ba ca bo cb x)),(w.heap.size+1+1,(eH VF VJ addr port peer VG VM)),(w.heap.size+1+1+1,gU)] ((aW (aW (aW w (bG pa pc p) 27) (aX ba ca bo cb x) 31) (eH VF VJ addr port peer VG VM) 89).alloc (.cells gU.toArray 104))):=by
  refine⟨fun e he=>?_,((((bR.alloc lR _).alloc (by simp only[UC];omega) _).alloc (by simp only[UC];omega) _).alloc (by simp only[UC];omega) _),fun e he=>?_⟩
  ·simp only[UH,UG,or_false]at he;rcases he with rfl|rfl|rfl|rfl
   ·exact e0
   ·exact e1
   ·exact e2
   ·exact e3
  ·simp only[UH,UG,or_false]at he;rcases he with rfl|rfl|rfl|rfl<;>simp
 clear e0 e1 e2 e3 hp hx hpo hnow hg;unfold iK gP pJ;go_enter Tryz.func114,Tryz.ntmps114
 go_upto_region 1 with fail
 generalize World.alloc _ _=W at *;have HHt:=HS0.out.at eL;obtain⟨t0,t1,t2,t3,t4,t5,t6⟩:=HHt.c7;clear HHt;have HHb:=HS0.out.at dZ;obtain⟨b0,b1⟩:=HHb.c2;clear HHb;go_wp2_with fail
 refine(HB1.out _ HS0.out.b).mono ?_;rintro e W1 ⟨rfl,q1⟩;have S1:Hid _:=HS0.out.kept q1;clear q1 HS0 b0 b1 t0 t1 t2 t3 t4 t5 t6;have HHt:=S1.out.at eL;obtain⟨t0,t1,t2,t3,t4,t5,t6⟩:=HHt.c7;clear HHt;go_upto_if 24 with fail
 go_cut [9] (fun v wx=>v=iV (bD g x.VN)∧dD w [(w.heap.size,(bG pa pc p)),(w.heap.size+1,(aX ba ca bo cb x)),(w.heap.size+1+1,(eH VF VJ addr port peer VG VM)),(w.heap.size+1+1+1,gU)] wx)
 case first=>
  clear HV HNW HSS HKN HCY HNX HLF
  cases VJ with
  | true=>
   have hg:g=cD VF addr port:=by rw[HG.out];rfl
   go_wp2_with fail
   go_meet;exact⟨by rw[hg],S1.out⟩
  | false=>
   have hg:g=cV VF addr port:=by rw[HG.out];rfl
   have HHb:=S1.out.at dZ;obtain⟨b0,b1⟩:=HHb.c2;clear HHb;go_wp2_with fail
   refine(HB2.out _ S1.out.b).mono ?_;rintro e W2 ⟨rfl,q2⟩;have S2:Hid _:=S1.out.kept q2;clear q2;go_wp2_with fail
   go_meet;exact⟨by rw[hg],S2.out⟩
 case rest=>
 obtain⟨rfl,hS⟩:=hcut;have S3:Hid _:=hS;clear hS S1 HB1 HB2 t0 t1 t2 t3 t4 t5 t6;generalize wc=W3 at *
 cases hfi:x.VN.findIdx? g with
 | none=>
  have hk:bD g x.VN=-1:=by unfold bD;rw[hfi]
  rw[ML hfi]at HV;have HW:Hid (ans=if VJ=true then jX p x ⟨VF,VJ,addr,port,peer,VG,VM⟩ lB now else kY 6):=HV.out;clear HV hfi HG;rw[hk];clear hk
  cases VJ with
  | false=>
   have HHt:=S3.out.at eL;obtain⟨t0,t1,t2,t3,t4,t5,t6⟩:=HHt.c7;clear HHt;have HX:Hid (ans=kY (6)):=by unfold Hid;rw[HW.out];rfl
   have HHz:=S3.out.at iF;obtain⟨z0,z1,z2,z3,z4,z5,z6,z7⟩:=HHz.c8;obtain⟨zf0,zf1,zf2,zf3,zf4,zf5,zf6,zf7⟩:=HHz.f8;obtain⟨HRR,RB⟩:=vN HHz S3.out.b hRw (.slice none 0 0) (.slice none 0 0) (iV 0) eS (iV 0) eS (iV 0) (iV (6));clear HHz;go_wp2_with fail
   exact VB (aF Tryz.results114 _ _ (w.heap.size+1+1+1) [.slice none 0 0,.slice none 0 0,iV 0,eS,iV 0,eS,iV 0,iV (6)] _ rfl HRR.out Tryz.underlying104 rfl (show (Tryz.prog.info? 104).map (·.size)=some 8 by kernel_rfl)) rfl (And.intro (by rw[HX.out];exact⟨none,none,0,0,rfl,.inl rfl,.inl rfl,fun g h e1=>by simp at e1⟩) RB.out)
  | true=>
   have HX:Hid (ans=jX p x ⟨VF,true,addr,port,peer,VG,VM⟩ lB now):=by unfold Hid;rw[HW.out];rfl
   have HNC:Hid (∀W,Below w.heap.size w W→Calls Tryz.prog 157 #[.agg (bG pa pc p).toArray,.agg (aX ba ca bo cb x).toArray,.agg (eH VF true addr port peer VG VM).toArray,.agg (gB 0 ⟨#[]⟩ 0 ⟨#[]⟩ 0).toArray,iV now] W fun e w'=>kX W.heap.size (jX p x ⟨VF,true,addr,port,peer,VG,VM⟩ lB now) e w'∧Below W.heap.size W w'):=fun W hW=>HNW.out lB W hW
   generalize jX p x ⟨VF,true,addr,port,peer,VG,VM⟩ lB now=nv at *;have HHp:=S3.out.at cM;obtain⟨p0,p1,p2,p3,p4,p5,p6,p7,p8,p9⟩:=HHp.c10;clear HHp;have HHb:=S3.out.at dZ;obtain⟨b0,b1⟩:=HHb.c2;clear HHb;have HHt:=S3.out.at eL;obtain⟨t0,t1,t2,t3,t4,t5,t6⟩:=HHt.c7;clear HHt;have hRl:w.heap.size+1+1+1 < W3.heap.size:=(S3.out.lts _ iF).1;go_wp2_with fail
   refine(HNC.out _ S3.out.b).mono ?_;rintro e W4 ⟨⟨a1,a2,c1,c2,rfl,hown⟩,q4⟩;have S4:Hid _:=S3.out.kept q4;have HHz:=S4.out.at iF;obtain⟨z0,z1,z2,z3,z4,z5,z6,z7⟩:=HHz.c8;obtain⟨zf0,zf1,zf2,zf3,zf4,zf5,zf6,zf7⟩:=HHz.f8;obtain⟨HRR,RB⟩:=vN HHz S4.out.b hRw (.slice a1 nv.bib.VN.length c1) (.slice a2 nv.bib.VK.length c2) (iV nv.bind.VF) (.string nv.bind.inn) (iV nv.bind.VH) (.string nv.bind.out) (iV nv.bind.VI) (iV nv.code);clear HHz;have hwl:=S3.out.b.size;have HOW:Hid (bV w.heap.size ((sW (sW (sW (sW (sW (sW (sW W4 (w.heap.size+1+1+1) 0 (.slice a1 nv.bib.VN.length c1)) (w.heap.size+1+1+1) 1 (.slice a2 nv.bib.VK.length c2)) (w.heap.size+1+1+1) 2 (iV nv.bind.VF)) (w.heap.size+1+1+1) 3 (.string nv.bind.inn)) (w.heap.size+1+1+1) 4 (iV nv.bind.VH)) (w.heap.size+1+1+1) 5 (.string nv.bind.out)) (w.heap.size+1+1+1) 6 (iV nv.bind.VI)).setCell ⟨w.heap.size+1+1+1,7,none⟩ (iV nv.code)) a1 a2 nv.bib):=⟨(hown.bd.grown (aB (aB (aB (aB (aB (aB (aB (aB (World.grownBy.refl _ _) _) _) _) _) _) _) _) _) hRl).down hwl,(hown.ss.grown (aB (aB (aB (aB (aB (aB (aB (aB (World.grownBy.refl _ _) _) _) _) _) _) _) _) _) hRl).down hwl,hown.ne⟩;clear hown q4;unfold EZ;go_wp2_with fail
   exact VB (aF Tryz.results114 _ _ _ _ _ rfl HRR.out Tryz.underlying104 rfl (show (Tryz.prog.info? 104).map (·.size)=some 8 by kernel_rfl)) rfl (And.intro (by rw[HX.out];exact⟨a1,a2,c1,c2,rfl,HOW.out⟩) RB.out)
 | some i=>
 have hk:bD g x.VN=(i:Int):=by unfold bD;rw[hfi]
 obtain⟨hlt,hfd⟩:=pR hfi;rw[hfd]at HV;rw[hk];obtain⟨bb,off,hba,hb,hat⟩:=HSX.out.bd.at hlt;have hA:=(hat.below hb S3.out.b) i hlt;obtain⟨c,hc⟩: ∃c,c=x.VN[i]:=⟨_,rfl⟩;rw[←hc]at hA HV;obtain⟨s0,s1,s2,s3,s4⟩:=LH hA;have hltI:(i:Int) < (x.VN.length:Int):=by omega
 have hge:¬(i:Int) < 0:=by omega
 have HVV:Hid _:=HV.out;clear HV hfi hfd hc hA hat hk HG;have HHb:=S3.out.at dZ;have b0:=HHb.cell (j:=0) rfl;clear HHb;rw[hba]at b0;go_upto_region 9 with fail
 clear b0 s0 s1 s2 s3 s4 hltI hge hlt hb hba;have S5:Hid _:=S3.out.push (cZ c) (by simp) 48;have hXw:w.heap.size≤W3.heap.size:=S3.out.b.size;generalize hW5:W3.alloc _=W5 at *;clear hW5 S3;generalize W3.heap.size=Bx at *;have S6:Hid (dD w [(Bx,(cZ c)),(w.heap.size,(bG pa pc p)),(w.heap.size+1,(aX ba ca bo cb x)),(w.heap.size+1+1,(eH VF VJ addr port peer VG VM)),(w.heap.size+1+1+1,gU)] W5):=S5.out;clear S5;have HHb:=S6.out.at eL;obtain⟨b0,b1⟩:=HHb.c2;clear HHb;have HHx:=S6.out.at cM;obtain⟨x0,x1,x2,x3,x4⟩:=HHx.c5;clear HHx;have HHt:=S6.out.at iF;obtain⟨t0,t1,t2,t3,t4,t5,t6⟩:=HHt.c7;clear HHt;go_wp2_with fail
 refine(HSS.out c _ S6.out.b).mono ?_;rintro e W6 ⟨rfl,q6⟩;have S7:Hid _:=S6.out.kept q6;clear q6 S6 HSS b0 b1 x0 x1 x2 x3 x4 t0 t1 t2 t3 t4 t5 t6;have HVW:Hid (ans=match x.VK.findIdx? (eU c peer VG) with
   | none=>if mB p x ⟨VF,VJ,addr,port,peer,VG,VM⟩ c=true then kY 6 else jX p x ⟨VF,VJ,addr,port,peer,VG,VM⟩ c now
   | some i=>⟨⟨x.VN,tQ x.VK i (nI p ⟨VF,VJ,addr,port,peer,VG,VM⟩ now)⟩,c,0⟩):=HVV.out
 clear HVV
 cases hfi:x.VK.findIdx? (eU c peer VG) with
 | none=>
  have hk:bD (eU c peer VG) x.VK=-1:=by unfold bD;rw[hfi]
  rw[hfi]at HVW;have HW:Hid (ans=if mB p x ⟨VF,VJ,addr,port,peer,VG,VM⟩ c=true then kY 6 else jX p x ⟨VF,VJ,addr,port,peer,VG,VM⟩ c now):=HVW.out;clear HVW hfi;rw[hk];clear hk;have HGO:Hid (mB p x ⟨VF,VJ,addr,port,peer,VG,VM⟩ c=(!VJ&&(decide (p.filter=2)||(decide (p.filter=1)&&!x.VK.any (kV c peer))))):=rfl;generalize mB p x ⟨VF,VJ,addr,port,peer,VG,VM⟩ c=gone at *;have HKC:Hid _:=HKN.out c;clear HKN;obtain⟨kn,hkn⟩: ∃kn,kn=x.VK.any (kV c peer):=⟨_,rfl⟩;rw[←hkn]at HGO HKC;clear hkn;go_upto_region 11 with fail
  go_cut [79] (fun v wx=>v=.bool gone∧dD w [(Bx,(cZ c)),(w.heap.size,(bG pa pc p)),(w.heap.size+1,(aX ba ca bo cb x)),(w.heap.size+1+1,(eH VF VJ addr port peer VG VM)),(w.heap.size+1+1+1,gU)] wx)
  case first=>
   have hun:undef=Value.tuple #[]:=rfl;clear HW HNW
   cases VJ with
   | true=>
    have HHt:=S7.out.at iF;have t1:=HHt.cell (j:=1) rfl;clear HHt;go_wp2_with fail
    go_meet;exact⟨by rw[HGO.out];rfl,S7.out⟩
   | false=>
    have HHt:=S7.out.at iF;obtain⟨t0,t1,t2,t3,t4,t5,t6⟩:=HHt.c7;clear HHt;have HHp:=S7.out.at dZ;have p4:=HHp.cell (j:=4) rfl;clear HHp;have HHb:=S7.out.at eL;obtain⟨b0,b1⟩:=HHb.c2;clear HHb;have HHx:=S7.out.at cM;obtain⟨x0,x1,x2,x3,x4⟩:=HHx.c5;clear HHx;by_cases h2:p.filter=2
    case pos=>
     have d2:(p.filter==2)=true:=by simp[h2]
     have H2:Hid _:=h2;clear h2;go_wp2_with fail
     go_meet;exact⟨by rw[HGO.out];simp[H2.out],S7.out⟩
    have d2:(p.filter==2)=false:=by simp[h2]
    by_cases h1:p.filter=1
    case neg=>
     have d1:(p.filter==1)=false:=by simp[h1]
     go_wp2_with fail
     go_meet;exact⟨by rw[HGO.out];simp[h2,h1],S7.out⟩
    have d1:(p.filter==1)=true:=by simp[h1]
    have H1:Hid _:=h1;clear h1;go_wp2_with fail
    refine(HKC.out _ S7.out.b).mono ?_;rintro e W7 ⟨rfl,q7⟩;have S8:Hid _:=S7.out.kept q7;clear q7
    cases kn;all_goals
     go_wp2_with fail
     go_meet;exact⟨by rw[HGO.out];simp[H1.out],S8.out⟩
  case rest=>
  obtain⟨rfl,hS⟩:=hcut;have S9:Hid _:=hS;clear hS S7 HKC HGO;generalize wc=W9 at *
  cases gone with
  | true=>
   have HX:Hid (ans=kY (6)):=by unfold Hid;rw[HW.out];rfl
   have HHz:=S9.out.at nH;obtain⟨z0,z1,z2,z3,z4,z5,z6,z7⟩:=HHz.c8;obtain⟨zf0,zf1,zf2,zf3,zf4,zf5,zf6,zf7⟩:=HHz.f8;obtain⟨HRR,RB⟩:=vN HHz S9.out.b hRw (.slice none 0 0) (.slice none 0 0) (iV 0) eS (iV 0) eS (iV 0) (iV (6));clear HHz;go_wp2_with fail
   exact VB (aF Tryz.results114 _ _ (w.heap.size+1+1+1) [.slice none 0 0,.slice none 0 0,iV 0,eS,iV 0,eS,iV 0,iV (6)] _ rfl HRR.out Tryz.underlying104 rfl (show (Tryz.prog.info? 104).map (·.size)=some 8 by kernel_rfl)) rfl (And.intro (by rw[HX.out];exact⟨none,none,0,0,rfl,.inl rfl,.inl rfl,fun g h e1=>by simp at e1⟩) RB.out)
  | false=>
   have HX:Hid (ans=jX p x ⟨VF,VJ,addr,port,peer,VG,VM⟩ c now):=by unfold Hid;rw[HW.out];rfl
   have HNC:Hid (∀W,Below w.heap.size w W→Calls Tryz.prog 157 #[.agg (bG pa pc p).toArray,.agg (aX ba ca bo cb x).toArray,.agg (eH VF VJ addr port peer VG VM).toArray,.agg (cZ c).toArray,iV now] W fun e w'=>kX W.heap.size (jX p x ⟨VF,VJ,addr,port,peer,VG,VM⟩ c now) e w'∧Below W.heap.size W w'):=fun W hW=>HNW.out c W hW
   generalize jX p x ⟨VF,VJ,addr,port,peer,VG,VM⟩ c now=nv at *;have HHp:=S9.out.at dZ;obtain⟨p0,p1,p2,p3,p4,p5,p6,p7,p8,p9⟩:=HHp.c10;clear HHp;have HHb:=S9.out.at eL;obtain⟨b0,b1⟩:=HHb.c2;clear HHb;have HHt:=S9.out.at iF;obtain⟨t0,t1,t2,t3,t4,t5,t6⟩:=HHt.c7;clear HHt;have HHx:=S9.out.at cM;obtain⟨x0,x1,x2,x3,x4⟩:=HHx.c5;clear HHx;have hRl:w.heap.size+1+1+1 < W9.heap.size:=(S9.out.lts _ nH).1;go_wp2_with fail
   refine(HNC.out _ S9.out.b).mono ?_;rintro e W4 ⟨⟨a1,a2,c1,c2,rfl,hown⟩,q4⟩;have S4:Hid _:=S9.out.kept q4;have HHz:=S4.out.at nH;obtain⟨z0,z1,z2,z3,z4,z5,z6,z7⟩:=HHz.c8;obtain⟨zf0,zf1,zf2,zf3,zf4,zf5,zf6,zf7⟩:=HHz.f8;obtain⟨HRR,RB⟩:=vN HHz S4.out.b hRw (.slice a1 nv.bib.VN.length c1) (.slice a2 nv.bib.VK.length c2) (iV nv.bind.VF) (.string nv.bind.inn) (iV nv.bind.VH) (.string nv.bind.out) (iV nv.bind.VI) (iV nv.code);clear HHz;have hwl:=S9.out.b.size;have HOW:Hid (bV w.heap.size ((sW (sW (sW (sW (sW (sW (sW W4 (w.heap.size+1+1+1) 0 (.slice a1 nv.bib.VN.length c1)) (w.heap.size+1+1+1) 1 (.slice a2 nv.bib.VK.length c2)) (w.heap.size+1+1+1) 2 (iV nv.bind.VF)) (w.heap.size+1+1+1) 3 (.string nv.bind.inn)) (w.heap.size+1+1+1) 4 (iV nv.bind.VH)) (w.heap.size+1+1+1) 5 (.string nv.bind.out)) (w.heap.size+1+1+1) 6 (iV nv.bind.VI)).setCell ⟨w.heap.size+1+1+1,7,none⟩ (iV nv.code)) a1 a2 nv.bib):=⟨(hown.bd.grown (aB (aB (aB (aB (aB (aB (aB (aB (World.grownBy.refl _ _) _) _) _) _) _) _) _) _) hRl).down hwl,(hown.ss.grown (aB (aB (aB (aB (aB (aB (aB (aB (World.grownBy.refl _ _) _) _) _) _) _) _) _) _) hRl).down hwl,hown.ne⟩;clear hown q4;unfold EZ;go_wp2_with fail
   exact VB (aF Tryz.results114 _ _ _ _ _ rfl HRR.out Tryz.underlying104 rfl (show (Tryz.prog.info? 104).map (·.size)=some 8 by kernel_rfl)) rfl (And.intro (by rw[HX.out];exact⟨a1,a2,c1,c2,rfl,HOW.out⟩) RB.out)
 | some j=>
  have hk:bD (eU c peer VG) x.VK=(j:Int):=by unfold bD;rw[hfi]
  obtain⟨hlt,-⟩:=pR hfi;rw[hfi]at HVW;rw[hk];clear hfi hk HKN HNW;obtain⟨s,hs⟩: ∃s,s=x.VK[j]:=⟨_,rfl⟩;have HW:Hid (ans=⟨⟨x.VN,x.VK.set j { s with state:=aY VF s.state VJ VM,untl:=now+bU p.lv VF (aY VF s.state VJ VM) }⟩,c,0⟩):=by unfold Hid;rw[HVW.out,hs];unfold tQ;simp only[UU hlt];rfl
  clear HVW;replace HNX:=HNX.out s.state;have HNY:Hid _:=HNX;clear HNX;generalize aY VF s.state VJ VM=st at *;replace HLF:=HLF.out st;have HLG:Hid _:=HLF;clear HLF;obtain⟨hf0,hf1⟩:=jP p.lv VF st;generalize bU p.lv VF st=lf at *;have hge:¬(j:Int) < 0:=by omega
  have HHb:=S7.out.at eL;obtain⟨b0,b1⟩:=HHb.c2;clear HHb;go_wp2_with fail
  refine(HCY.out _ S7.out.b).mono ?_;rintro e W8 ⟨⟨bv,sv,rfl,o1,o2⟩,q8⟩;have S8:Hid _:=S7.out.kept q8;have HO:Hid _:=fK.make (ks:=[(Bx,(cZ c)),(w.heap.size,(bG pa pc p)),(w.heap.size+1,(aX ba ca bo cb x)),(w.heap.size+1+1,(eH VF VJ addr port peer VG VM)),(w.heap.size+1+1+1,gU)]) (x:=x) S7.out.b.size S8.out.b o1 o2 S8.out.k S7.out.lts q8.size;obtain⟨ab,cb1,hbv,-,-⟩:=(xV.shape eC (w0:=W8) ⟨o1,Below.refl _ _⟩: ∃a' cap,bv=.slice a' x.VN.length cap∧x.VN.length≤cap∧eX dP 5 W6.heap.size W8 a' x.VN);obtain⟨gs,cs1,hsv⟩: ∃gs cs1,sv=.slice (some ⟨gs,0,none⟩) x.VK.length cs1:=by
   rcases o2.2 with ⟨_,h0⟩|⟨g,cap,cur,h3,_⟩
   ·omega
   ·exact⟨g,cap,h3⟩
  subst hbv hsv;clear q8 o1 o2 S8 S7 b0 b1 hge;go_upto_region 15 with fail
  generalize (W8.alloc (.cells #[(.slice ab x.VN.length cb1),(.slice (some ⟨gs,0,none⟩) x.VK.length cs1)] 31))=V1 at *;generalize W8.heap.size=O at *;generalize W6.heap.size=base at *;have HV1:Hid (fK w base O [(Bx,(cZ c)),(w.heap.size,(bG pa pc p)),(w.heap.size+1,(aX ba ca bo cb x)),(w.heap.size+1+1,(eH VF VJ addr port peer VG VM)),(w.heap.size+1+1+1,gU)] (.slice ab x.VN.length cb1) (.slice (some ⟨gs,0,none⟩) x.VK.length cs1) x.VN (x.VK) V1):=HO.out;clear HO;obtain⟨sb,so,hbo,hsb,hat⟩:=HSX.out.ss.at hlt;have HAT:Hid (∀W,Below w.heap.size w W→W.rangeAt sb (so+j*7) (fZ s)):=fun W hW=>by rw[hs];exact(hat.below hsb hW) j hlt
  have HBO:Hid (bo=some ⟨sb,so,none⟩):=hbo;have HSJ:Hid (s=x.VK[j]):=hs;clear hat hbo hs hsb;have hltI:(j:Int) < (x.VK.length:Int):=by omega
  have HCP:Hid (∀wy,Below V1.drew.heap.size V1.drew wy→_):=fun wy hy=>HV1.out.kept (bR.drew.trans hy)
  go_cut [13] (fun v wx=>v=iV st∧fK w base O [(Bx,(cZ c)),(w.heap.size,(bG pa pc p)),(w.heap.size+1,(aX ba ca bo cb x)),(w.heap.size+1+1,(eH VF VJ addr port peer VG VM)),(w.heap.size+1+1+1,gU)] (.slice ab x.VN.length cb1) (.slice (some ⟨gs,0,none⟩) x.VK.length cs1) x.VN (x.VK) wx)
  case first=>
   rename_i J K2 hJ hK2;clear hun;refine bJ [89,90,91,92,93,94,95,96,97,98,99,100,101,13] (by kernel_rfl) (by kernel_rfl) ?_;iterate 14 (apply fI.u rfl;(·intro K' a wy ho hd hb hK;simp[aU,aG,aD,Region.binds]at ho hd;have hst:=HCP.out wy hb;have kC:=(hst.at iF).c7;have HHb:=hst.at eL;have b1:=HHb.cell (j:=1) rfl;clear HHb;rw[HBO.out]at b1;have hsr:=HAT.out wy hst.b;have s5:wy.cell? ⟨sb,so+j*7+5,none⟩=some (iV s.state):=hsr 5 _ rfl;clear hsr;clear hst;go_simp;first|((try go_bits);exact hK _ _ rfl bQ)|(refine(HNY.out wy).mono ?_;rintro e wz ⟨rfl,hz⟩;exact hK _ _ rfl hz));dsimp only[nA,cA])
   intro X wz hR hz;simp only[UM,UN,eY,aG]at hR;simp only[aE,hR];clear hR;go_simp;refine hK2 _ _ (hJ _ _ ?_);(repeat apply Exists.intro)
   refine⟨⟨rfl,HCP.out wz hz⟩,rfl⟩
  case rest=>
  obtain⟨rfl,hS⟩:=hcut;have V2:Hid _:=hS;clear hS HV1 HCP HNY HAT;generalize wc=U2 at *;have k1:=V2.out.o.cell (j:=1) rfl;have r5:U2.cell? ⟨gs,j*7+5,none⟩=some (iV s.state):=fH V2.out.so rfl j hlt 5 _ (by rw[←HSJ.out];rfl);have f5:U2.frozen? ⟨gs,j*7+5,none⟩=false:=mZ V2.out.so _;have V3:Hid _:=V2.out.setS rfl j hlt 5 (by decide) (iV st) { s with state:=st } (by rw[←HSJ.out];rfl);clear V2;go_upto_region 17 with fail
  clear k1 r5 f5;generalize U2.setCell ⟨gs,j*7+5,none⟩ (iV st)=U3 at *;have V4:Hid (fK w base O [(Bx,(cZ c)),(w.heap.size,(bG pa pc p)),(w.heap.size+1,(aX ba ca bo cb x)),(w.heap.size+1+1,(eH VF VJ addr port peer VG VM)),(w.heap.size+1+1+1,gU)] (.slice ab x.VN.length cb1) (.slice (some ⟨gs,0,none⟩) x.VK.length cs1) x.VN (x.VK.set j { s with state:=st }) U3):=V3.out;clear V3;have HCP:Hid (∀wy,Below U3.drew.heap.size U3.drew wy→_):=fun wy hy=>V4.out.kept (bR.drew.trans hy)
  clear V4;try clear hun
  refine aN [108,109,110,111,112,113,114,115,116,117,118,119,120] (by kernel_rfl) (by kernel_rfl) ?_;iterate 13 (apply bC.u rfl;(·intro K' a wy ho hd hb hK;simp[aU,aG,aD,Region.binds]at ho hd;have hst:=HCP.out wy hb;have HHt:=hst.at iF;have t0:=HHt.cell (j:=0) rfl;clear HHt;have kC:=(hst.at dZ).c10;have k1:=hst.o.cell (j:=1) rfl;clear hst;go_simp;first|((try go_bits);exact hK _ _ rfl bQ)|(refine(HLG.out wy).mono ?_;rintro e wz ⟨rfl,hz⟩;exact hK _ _ rfl hz));dsimp only[nA,cA])
  intro X wz hR hz;simp only[UM,UN,eY,aG]at hR;simp only[aE,hR];clear hR;have SZ:=HCP.out wz hz;have hls:x.VK.length=(x.VK.set j { s with state:=st }).length:=by simp
  have r6:wz.cell? ⟨gs,j*7+6,none⟩=some (iV s.untl):=fH SZ.so hls j (by simpa using hlt) 6 _ (by simp[fZ]);have f6:wz.frozen? ⟨gs,j*7+6,none⟩=false:=mZ SZ.so _;have S8:=SZ.setS hls j (by simpa using hlt) 6 (by decide) (iV (now+lf)) { s with state:=st,untl:=now+lf } (by simp[fZ]);rw[List.set_set]at S8;have S9:Hid _:=S8;clear S8 SZ hz HCP hls;simp only[List.length_cons,List.length_nil,List.drop_succ_cons,List.drop_zero,UI,Nat.reduceAdd];intro K5 hK5;go_simp;refine hK5 _ _ ?_;simp only[fN];clear r6 f6;generalize wz.setCell ⟨gs,j*7+6,none⟩ (iV (now+lf))=W9 at *;obtain⟨k0,k1⟩:=S9.out.o.c2;have HHx:=S9.out.at cM;obtain⟨x0,x1,x2,x3,x4⟩:=HHx.c5;clear HHx;have HHz:=S9.out.at nH;obtain⟨z0,z1,z2,z3,z4,z5,z6,z7⟩:=HHz.c8;obtain⟨zf0,zf1,zf2,zf3,zf4,zf5,zf6,zf7⟩:=HHz.f8;obtain⟨HRR,RB⟩:=vN HHz S9.out.b hRw ((.slice ab x.VN.length cb1)) ((.slice (some ⟨gs,0,none⟩) x.VK.length cs1)) (iV c.VF) (.string c.inn) (iV c.VH) (.string c.out) (iV c.VI) (iV 0);clear HHz;obtain⟨a1,q1,hb1,-,hbo⟩:=S9.out.shapes.1;obtain⟨a2,q2,hb2,-,hso⟩:=S9.out.shapes.2;injection hb1 with i1 i2 i3
  injection hb2 with i4 i5 i6
  have hRb:w.heap.size+1+1+1 < base:=(S9.out.kb _ nH).1;have hwb:=S9.out.wb;have HOW:Hid (bV w.heap.size ((sW (sW (sW (sW (sW (sW (sW W9 (w.heap.size+1+1+1) 0 ((.slice ab x.VN.length cb1))) (w.heap.size+1+1+1) 1 ((.slice (some ⟨gs,0,none⟩) x.VK.length cs1))) (w.heap.size+1+1+1) 2 (iV c.VF)) (w.heap.size+1+1+1) 3 (.string c.inn)) (w.heap.size+1+1+1) 4 (iV c.VH)) (w.heap.size+1+1+1) 5 (.string c.out)) (w.heap.size+1+1+1) 6 (iV c.VI)).setCell ⟨w.heap.size+1+1+1,7,none⟩ (iV 0)) a1 a2 ⟨x.VN,x.VK.set j { s with state:=st,untl:=now+lf }⟩):=⟨(hbo.grown (aB (aB (aB (aB (aB (aB (aB (aB (World.grownBy.refl _ _) _) _) _) _) _) _) _) _) hRb).down hwb,(hso.grown (aB (aB (aB (aB (aB (aB (aB (aB (World.grownBy.refl _ _) _) _) _) _) _) _) _) _) hRb).down hwb,fun g h e1 e2 _ _ e3=>S9.out.ne g (by rw[i1,e1];rfl) (by rw[i4,e2,←e3];rfl)⟩;have I1:Hid _:=i1;have I2:Hid _:=i2;have I3:Hid _:=i3;have I4:Hid _:=i4;have I5:Hid _:=i5;have I6:Hid _:=i6;clear hbo hso S9 i1 i2 i3 i4 i5 i6;go_wp2_with fail
  exact VB (aF Tryz.results114 _ _ _ _ _ rfl HRR.out Tryz.underlying104 rfl (show (Tryz.prog.info? 104).map (·.size)=some 8 by kernel_rfl)) rfl (And.intro (by rw[HW.out];exact⟨a1,a2,q1,q2,by first | (rw[I1.out,I3.out,I4.out,I5.out,I6.out];rfl) | (rw[I1.out,I3.out,I4.out,I6.out];simp[EZ]),HOW.out⟩) RB.out)
theorem tS(pa:OA)(pc:Nat)(p:Pl)(ba bo:OA)(ca cb:Nat)(x:Bb)(t:Tc)(now:Int)(w:World)(hlp:p.VL.length≤1048576)(hpc:p.VL.length≤pc)(hsz:∀s∈p.VL,s.size≤1048576)(hs1:t.addr.size≤1048576)(hs2:t.peer.size≤1048576)(hl1:x.VN.length≤1048576)(hl2:x.VK.length≤1048576)(hp:bP cB 1 w pa p.VL)(hx:dC w ba bo x) :
  Calls Tryz.prog 89 #[iK pa pc p,gP ba bo ca cb x,pJ t,iV now] w fun e w'=>kX w.heap.size (dH p x t now) e w'∧Below w.heap.size w w':=by
 obtain⟨VF,VJ,addr,port,peer,VG,VM⟩:=t;dsimp only at hs1 hs2;have HBR:Hid (∀W,Below w.heap.size w W→Cb 13 #[.agg (bG pa pc p).toArray,.agg (aX ba ca bo cb x).toArray] W (.bool (fA p x))):=fun W hW=>qF p x pa pc ba bo ca cb W hlp hpc hsz hl1 hl2 (hp.below hW) (hx.below hW)
 have HTM:Hid (∀W,Cw 62 #[iV now] W (.bool (bT now))):=fun W=>xH now W
 have HTO:Hid (∀W,Cb 125 #[.agg (eH VF VJ addr port peer VG VM).toArray] W (.bool (cC ⟨VF,VJ,addr,port,peer,VG,VM⟩))):=fun W=>yM ⟨VF,VJ,addr,port,peer,VG,VM⟩ W hs1 hs2
 have HGO:Hid (∀W,(fA p x&&bT now&&cC ⟨VF,VJ,addr,port,peer,VG,VM⟩)=true→Below w.heap.size w W→Calls Tryz.prog 114 #[.agg (bG pa pc p).toArray,.agg (aX ba ca bo cb x).toArray,.agg (eH VF VJ addr port peer VG VM).toArray,iV now] W fun e w'=>kX W.heap.size (dO p x ⟨VF,VJ,addr,port,peer,VG,VM⟩ now) e w'∧Below W.heap.size W w'):=fun W hok hW=>by
  have hb:(fA p x=true∧bT now=true)∧cC ⟨VF,VJ,addr,port,peer,VG,VM⟩=true:=by simpa only[UB] using hok
  obtain⟨⟨h1,h2⟩,h3⟩:=hb;have hpo:cU p=true:=by unfold fA at h1;simp only[UB]at h1;first | exact h1.1 | exact h1.1.1 | exact h1.1.1.1 | exact h1.1.1.1.1 | exact h1.1.1.1.1.1 | exact h1.1.1.1.1.1.1
  have hpt:0≤port∧port≤65535:=by
   unfold cC jS aO at h3;simp only[UB,UF]at h3;omega
  exact xC pa pc p ba bo ca cb x ⟨VF,VJ,addr,port,peer,VG,VM⟩ now W hpo h2 hs1 hpt.1 hpt.2 hl1 hl2 (hp.below hW) (hx.below hW)
 have HV:Hid (dH p x ⟨VF,VJ,addr,port,peer,VG,VM⟩ now=if (fA p x&&bT now&&cC ⟨VF,VJ,addr,port,peer,VG,VM⟩)=true then dO p x ⟨VF,VJ,addr,port,peer,VG,VM⟩ now else kY 1):=rfl;generalize dH p x ⟨VF,VJ,addr,port,peer,VG,VM⟩ now=ans at *;generalize dO p x ⟨VF,VJ,addr,port,peer,VG,VM⟩ now=nv at *;generalize fA p x=b1 at *;generalize bT now=b2 at *;generalize cC ⟨VF,VJ,addr,port,peer,VG,VM⟩=b3 at *;have hun:undef=Value.tuple #[]:=rfl;have hRw:w.heap.size≤w.heap.size+1+1+1:=by omega
 have e0:aA ((aW (aW (aW w (bG pa pc p) 27) (aX ba ca bo cb x) 31) (eH VF VJ addr port peer VG VM) 89).alloc (.cells gU.toArray 104)) (w.heap.size) (bG pa pc p):=by
  have h:=aA.new w (bG pa pc p) 27;try simp only[UC]at h
  exact(((h.alloc _).alloc _).alloc _)
 have e1:aA ((aW (aW (aW w (bG pa pc p) 27) (aX ba ca bo cb x) 31) (eH VF VJ addr port peer VG VM) 89).alloc (.cells gU.toArray 104)) (w.heap.size+1) (aX ba ca bo cb x):=by
  have h:=aA.new (w.alloc (.cells (bG pa pc p).toArray 27)) (aX ba ca bo cb x) 31;try simp only[UC]at h
  exact((h.alloc _).alloc _)
 have e2:aA ((aW (aW (aW w (bG pa pc p) 27) (aX ba ca bo cb x) 31) (eH VF VJ addr port peer VG VM) 89).alloc (.cells gU.toArray 104)) (w.heap.size+1+1) (eH VF VJ addr port peer VG VM):=by
  have h:=aA.new ((aW w (bG pa pc p) 27).alloc (.cells (aX ba ca bo cb x).toArray 31)) (eH VF VJ addr port peer VG VM) 89;try simp only[UC]at h
  exact(h.alloc _)
 have e3:aA ((aW (aW (aW w (bG pa pc p) 27) (aX ba ca bo cb x) 31) (eH VF VJ addr port peer VG VM) 89).alloc (.cells gU.toArray 104)) (w.heap.size+1+1+1) gU:=by
  have h:=aA.new ((aW (aW w (bG pa pc p) 27) (aX ba ca bo cb x) 31).alloc (.cells (eH VF VJ addr port peer VG VM).toArray 89)) gU 104;try simp only[UC]at h
  exact h
 have HS0:Hid (dD w [(w.heap.size,(bG pa pc p)),(w.heap.size+1,(aX ba ca bo cb x)),(w.heap.size+1+1,(eH VF VJ addr port peer VG VM)),(w.heap.size+1+1+1,gU)] ((aW (aW (aW w (bG pa pc p) 27) (aX ba ca bo cb x) 31) (eH VF VJ addr port peer VG VM) 89).alloc (.cells gU.toArray 104))):=by
  refine⟨fun e he=>?_,((((bR.alloc lR _).alloc (by simp only[UC];omega) _).alloc (by simp only[UC];omega) _).alloc (by simp only[UC];omega) _),fun e he=>?_⟩
  ·simp only[UH,UG,or_false]at he;rcases he with rfl|rfl|rfl|rfl
   ·exact e0
   ·exact e1
   ·exact e2
   ·exact e3
  ·simp only[UH,UG,or_false]at he;rcases he with rfl|rfl|rfl|rfl<;>simp
 clear e0 e1 e2 e3 hp hx hsz;unfold iK gP pJ;go_enter Tryz.func89,Tryz.ntmps89
 go_upto_region 1 with fail
 generalize World.alloc _ _=W at *;go_cut [22] (fun v wx=>v=.bool (!(b1&&b2&&b3))∧dD w [(w.heap.size,(bG pa pc p)),(w.heap.size+1,(aX ba ca bo cb x)),(w.heap.size+1+1,(eH VF VJ addr port peer VG VM)),(w.heap.size+1+1+1,gU)] wx)
 case first=>
  clear HV HGO;try have hun:undef=Value.tuple #[]:=rfl
  have HHp:=HS0.out.at cM;obtain⟨p0,p1,p2,p3,p4,p5,p6,p7,p8,p9⟩:=HHp.c10;clear HHp;have HHk:=HS0.out.at dZ;obtain⟨k0,k1⟩:=HHk.c2;clear HHk;go_wp2_with fail
  refine(HBR.out _ HS0.out.b).mono ?_;rintro e W1 ⟨rfl,q1⟩;have S1:Hid _:=HS0.out.kept q1;clear q1;have HHt:=S1.out.at eL;obtain⟨t0,t1,t2,t3,t4,t5,t6⟩:=HHt.c7;clear HHt
  cases b1 with
  | false=>
   go_wp2_with fail
   go_meet;exact⟨rfl,S1.out⟩
  | true=>
  go_wp2_with fail
  refine(HTM.out _).mono ?_;rintro e W1 ⟨rfl,rfl⟩
  cases b2 with
  | false=>
   go_wp2_with fail
   go_meet;exact⟨rfl,S1.out⟩
  | true=>
  go_wp2_with fail
  refine(HTO.out _).mono ?_;rintro e W2 ⟨rfl,q2⟩;have S2:Hid _:=S1.out.kept q2;clear q2
  cases b3;all_goals
   go_wp2_with fail
   go_meet;exact⟨rfl,S2.out⟩
 case rest=>
 obtain⟨rfl,hS⟩:=hcut;have S3:Hid _:=hS;clear hS HS0 HBR HTM HTO;generalize wc=W3 at *
 cases hok:(b1&&b2&&b3) with
 | false=>
  have HW:Hid (ans=kY 1):=by unfold Hid;rw[HV.out,hok];rfl
  clear HGO HV hok;have HX:Hid (ans=kY (1)):=by unfold Hid;rw[HW.out]
  have HHz:=S3.out.at iF;obtain⟨z0,z1,z2,z3,z4,z5,z6,z7⟩:=HHz.c8;obtain⟨zf0,zf1,zf2,zf3,zf4,zf5,zf6,zf7⟩:=HHz.f8;obtain⟨HRR,RB⟩:=vN HHz S3.out.b hRw (.slice none 0 0) (.slice none 0 0) (iV 0) eS (iV 0) eS (iV 0) (iV (1));clear HHz;go_wp2_with fail
  exact VB (aF Tryz.results89 _ _ (w.heap.size+1+1+1) [.slice none 0 0,.slice none 0 0,iV 0,eS,iV 0,eS,iV 0,iV (1)] _ rfl HRR.out Tryz.underlying104 rfl (show (Tryz.prog.info? 104).map (·.size)=some 8 by kernel_rfl)) rfl (And.intro (by rw[HX.out];exact⟨none,none,0,0,rfl,.inl rfl,.inl rfl,fun g h e1=>by simp at e1⟩) RB.out)
 | true=>
  have HX:Hid (ans=nv):=by unfold Hid;rw[HV.out,if_pos hok]
  have HNC:Hid _:=fun W=>HGO.out W hok
  clear HGO HV hok;have HHp:=S3.out.at cM;obtain⟨p0,p1,p2,p3,p4,p5,p6,p7,p8,p9⟩:=HHp.c10;clear HHp;have HHk:=S3.out.at dZ;obtain⟨k0,k1⟩:=HHk.c2;clear HHk;have HHt:=S3.out.at eL;obtain⟨t0,t1,t2,t3,t4,t5,t6⟩:=HHt.c7;clear HHt;have hRl:w.heap.size+1+1+1 < W3.heap.size:=(S3.out.lts _ iF).1;go_wp2_with fail
  refine(HNC.out _ S3.out.b).mono ?_;rintro e W4 ⟨⟨a1,a2,c1,c2,rfl,hown⟩,q4⟩;have S4:Hid _:=S3.out.kept q4;have HHz:=S4.out.at iF;obtain⟨z0,z1,z2,z3,z4,z5,z6,z7⟩:=HHz.c8;obtain⟨zf0,zf1,zf2,zf3,zf4,zf5,zf6,zf7⟩:=HHz.f8;obtain⟨HRR,RB⟩:=vN HHz S4.out.b hRw (.slice a1 nv.bib.VN.length c1) (.slice a2 nv.bib.VK.length c2) (iV nv.bind.VF) (.string nv.bind.inn) (iV nv.bind.VH) (.string nv.bind.out) (iV nv.bind.VI) (iV nv.code);clear HHz;have hwl:=S3.out.b.size;have HOW:Hid (bV w.heap.size ((sW (sW (sW (sW (sW (sW (sW W4 (w.heap.size+1+1+1) 0 (.slice a1 nv.bib.VN.length c1)) (w.heap.size+1+1+1) 1 (.slice a2 nv.bib.VK.length c2)) (w.heap.size+1+1+1) 2 (iV nv.bind.VF)) (w.heap.size+1+1+1) 3 (.string nv.bind.inn)) (w.heap.size+1+1+1) 4 (iV nv.bind.VH)) (w.heap.size+1+1+1) 5 (.string nv.bind.out)) (w.heap.size+1+1+1) 6 (iV nv.bind.VI)).setCell ⟨w.heap.size+1+1+1,7,none⟩ (iV nv.code)) a1 a2 nv.bib):=⟨(hown.bd.grown (aB (aB (aB (aB (aB (aB (aB (aB (World.grownBy.refl _ _) _) _) _) _) _) _) _) _) hRl).down hwl,(hown.ss.grown (aB (aB (aB (aB (aB (aB (aB (aB (World.grownBy.refl _ _) _) _) _) _) _) _) _) _) hRl).down hwl,hown.ne⟩;clear hown q4;unfold EZ;go_wp2_with fail
  exact VB (aF Tryz.results89 _ _ _ _ _ rfl HRR.out Tryz.underlying104 rfl (show (Tryz.prog.info? 104).map (·.size)=some 8 by kernel_rfl)) rfl (And.intro (by rw[HX.out];exact⟨a1,a2,c1,c2,rfl,HOW.out⟩) RB.out)
def IW(p:Pl)(b:Bd):Bool:=eN b.VF&&cO b.inn&&jS b.VH&&mW p.VL b.out&&aO b.VI p.low p.high
theorem CM{p:Pl}{xs:List Bd}:(∀i (h:i < xs.length),cK p (xs.take i) xs[i]=true)↔(∀c∈xs,IW p c=true)∧xs.Pairwise (fun c b=>eJ c b=false):=by
 have e:∀ys b,cK p ys b=(IW p b&&!ys.any fun c=>eJ c b):=fun ys b=>rfl
 rw[List.pairwise_iff_getElem];constructor
 ·intro h;refine⟨fun c hc=>?_,fun i j hi hj hij=>?_⟩
  ·obtain⟨i,hi,rfl⟩:=UY hc;have:=h i hi;rw[e]at this;simp only[UB]at this;exact this.1
  ·have:=h j hj;rw[e]at this;simp only[UB,Bool.not_eq_true']at this;have:=List.any_eq_false.1 this.2 xs[i] (qJ hi hij);simpa using this
 ·rintro⟨h1,h2⟩ i hi;rw[e];simp only[UB,Bool.not_eq_true'];refine⟨h1 _ (UJ hi),?_⟩;rw[List.any_eq_false];intro c hc;obtain⟨k,hk,hki,rfl⟩:=sM hc;rw[h2 k i hk hi hki];decide
def LL(base:Nat)(o:Bo):Value→World→Prop:=fun v w=>∃a b ca cb,v=EZ a b ca cb o∧bV base w a b o.bib
theorem uP(base:Nat)(o:Bo):eZ (LL base o):=fun v w w' ⟨a,b,ca,cb,h1,h2⟩ hb=>⟨a,b,ca,cb,h1,h2.kept hb⟩
theorem zI(pa:OA)(pc:Nat)(p:Pl)(ba bo:OA)(ca cb:Nat)(x:Bb)(q:P4)(now:Int)(w:World)(hlp:p.VL.length≤1048576)(hpc:p.VL.length≤pc)(hsz:∀s∈p.VL,s.size≤1048576)(hl1:x.VN.length≤1048576)(hl2:x.VK.length≤1048576)(q1:q.src.size≤1048576)(q2:q.dst.size≤1048576)(q3:q.opts.size≤1048576)(q4:q.data.size≤1048576)(hp:bP cB 1 w pa p.VL)(hx:dC w ba bo x) :
  Cb 28 #[iK pa pc p,gP ba bo ca cb x,kL q,iV now] w (iV (cT p x q now)):=by
 have HBR:Hid (∀W,Below w.heap.size w W→Cb 13 #[iK pa pc p,gP ba bo ca cb x] W (.bool (fA p x))):=fun W hW=>qF p x pa pc ba bo ca cb W hlp hpc hsz hl1 hl2 (hp.below hW) (hx.below hW)
 have HV4:Hid (∀W,Cb 14 #[kL q] W (.bool (jB q))):=fun W=>vM q W q1 q2 q3 q4
 have HTM:Hid (∀W,Cw 62 #[iV now] W (.bool (bT now))):=fun W=>xH now W
 have HV:Hid (cT p x q now=if (fA p x&&jB q&&bT now)=false then 1 else if (q.more||decide (q.off≠0))=true then 10 else 0):=rfl;generalize cT p x q now=ans at *;generalize fA p x=b1 at *;generalize jB q=b2 at *;generalize bT now=b3 at *;obtain⟨tos,id,whole,more,off,ttl,VF,src,dst,opts,data⟩:=q;clear hp hx hsz;unfold iK gP kL at *;dsimp only at *;have hun:undef=Value.tuple #[]:=rfl;have HS0:=RL w (bG pa pc p) 27 (aX ba ca bo cb x) 31 (eP tos id whole more off ttl VF src dst opts data) 33 (by simp) (by simp) (by simp)
 skip;go_enter Tryz.func28,Tryz.ntmps28
 go_upto_region 1 with fail
 generalize World.alloc _ _=W0 at *;have HHk:=HS0.out.at cM;obtain⟨k0,k1,k2,k3,k4,k5,k6,k7,k8,k9⟩:=HHk.c10;clear HHk;have HHl:=HS0.out.at dZ;obtain⟨l0,l1⟩:=HHl.c2;clear HHl;go_wp2_with fail
 refine(HBR.out _ HS0.out.b).mono ?_;rintro e W1 ⟨rfl,r1⟩;have S1:Hid _:=HS0.out.kept r1;clear r1 HS0 k0 k1 k2 k3 k4 k5 k6 k7 k8 k9 l0 l1
 cases b1 with
 | false=>
  have HFB:Hid _:=S1.out.b;go_wp2_with fail
  go_ret;exact⟨aK (by rw[HV.out];rfl),HFB.out⟩
 | true=>
 have HHk:=S1.out.at eL;obtain⟨k0,k1,k2,k3,k4,k5,k6,k7,k8,k9,k10⟩:=HHk.c11;clear HHk;go_wp2_with fail
 refine(HV4.out _).mono ?_;rintro e W2 ⟨rfl,r2⟩;have S2:Hid _:=S1.out.kept r2;clear r2 S1 k0 k1 k2 k3 k4 k5 k6 k7 k8 k9 k10
 cases b2 with
 | false=>
  have HFB:Hid _:=S2.out.b;go_wp2_with fail
  go_ret;exact⟨aK (by rw[HV.out];rfl),HFB.out⟩
 | true=>
 go_wp2_with fail
 refine(HTM.out _).mono ?_;rintro e W2 ⟨rfl,rfl⟩
 cases b3 with
 | false=>
  have HFB:Hid _:=S2.out.b;go_wp2_with fail
  go_ret;exact⟨aK (by rw[HV.out];rfl),HFB.out⟩
 | true=>
 have HHk:=S2.out.at eL;obtain⟨k0,k1,k2,k3,k4,k5,k6,k7,k8,k9,k10⟩:=HHk.c11;clear HHk
 cases more with
 | true=>
  have HFB:Hid _:=S2.out.b;go_wp2_with fail
  go_ret;exact⟨aK (by rw[HV.out];rfl),HFB.out⟩
 | false=>
 by_cases ho:off=0
 case pos=>
  have d0:(off != 0)=false:=by simp[ho]
  have HFB:Hid _:=S2.out.b;go_wp2_with fail
  go_ret;exact⟨aK (by rw[HV.out];simp[ho]),HFB.out⟩
 have d0:(off != 0)=true:=by simp[ho]
 have HFB:Hid _:=S2.out.b;go_wp2_with fail
 go_ret;exact⟨aK (by rw[HV.out];simp[ho]),HFB.out⟩
theorem KT(pa:OA)(pc:Nat)(p:Pl)(ba bo:OA)(ca cb:Nat)(x:Bb)(f:Fl)(peer t:BA)(now:Int)(w:World)(hpo:cU p=true)(hnow:bT now=true)(hfs:f.src.size≤1048576)(h0:0≤f.sp)(h1:f.sp≤65535)(ht:t.size≤1048576)(h20:f.VF=6→20≤t.size)(hl1:x.VN.length≤1048576)(hl2:x.VK.length≤1048576)(hp:bP cB 1 w pa p.VL)(hx:dC w ba bo x) :
  Calls Tryz.prog 63 #[iK pa pc p,gP ba bo ca cb x,gF f,.string peer,.string t,iV now] w fun e w'=>kX w.heap.size (dO p x (kW f peer t) now) e w'∧Below w.heap.size w w':=by
 have HGO:Hid (∀W,Below w.heap.size w W→Calls Tryz.prog 114 #[iK pa pc p,gP ba bo ca cb x,.agg (eH (qB f.VF) true f.src f.sp peer (fF f.VF f.dp) (fU f.VF t)).toArray,iV now] W fun e w'=>kX W.heap.size (dO p x (kW f peer t) now) e w'∧Below W.heap.size W w'):=fun W hW=>xC pa pc p ba bo ca cb x (kW f peer t) now W hpo hnow hfs h0 h1 hl1 hl2 (hp.below hW) (hx.below hW)
 have HPN:Hid (∀W,Cb 115 #[iV f.VF] W (iV (qB f.VF))):=fun W=>(BK _ W).mono fun e w' h=>⟨h.1,by rw[h.2];exact Below.refl _ _⟩
 have HPO:Hid (∀W,Cb 116 #[gF f,iV f.dp] W (iV (fF f.VF f.dp))):=fun W=>uN f _ W
 have HFL:Hid (∀W,Cb 117 #[gF f,.string t] W (iV (fU f.VF t))):=fun W=>sS f t W ht h20
 generalize dO p x (kW f peer t) now=nv at *;generalize fF f.VF f.dp=pv at *;generalize qB f.VF=pn at *;generalize fU f.VF t=fv at *;obtain⟨VF,src,dst,sp,dp⟩:=f;dsimp only at *;clear hp hx hpo hnow h20;unfold iK gP gF at *;dsimp only at *;have e0:aA ((aW (aW (aW w (bG pa pc p) 27) (aX ba ca bo cb x) 31) (cR VF src dst sp dp) 43).alloc (.cells gU.toArray 104)) (w.heap.size) (bG pa pc p):=by
  have h:=aA.new w (bG pa pc p) 27;try simp only[UC]at h
  exact(((h.alloc _).alloc _).alloc _)
 have e1:aA ((aW (aW (aW w (bG pa pc p) 27) (aX ba ca bo cb x) 31) (cR VF src dst sp dp) 43).alloc (.cells gU.toArray 104)) (w.heap.size+1) (aX ba ca bo cb x):=by
  have h:=aA.new (w.alloc (.cells (bG pa pc p).toArray 27)) (aX ba ca bo cb x) 31;try simp only[UC]at h
  exact((h.alloc _).alloc _)
 have e2:aA ((aW (aW (aW w (bG pa pc p) 27) (aX ba ca bo cb x) 31) (cR VF src dst sp dp) 43).alloc (.cells gU.toArray 104)) (w.heap.size+1+1) (cR VF src dst sp dp):=by
  have h:=aA.new ((aW w (bG pa pc p) 27).alloc (.cells (aX ba ca bo cb x).toArray 31)) (cR VF src dst sp dp) 43;try simp only[UC]at h
  exact(h.alloc _)
 have e3:aA ((aW (aW (aW w (bG pa pc p) 27) (aX ba ca bo cb x) 31) (cR VF src dst sp dp) 43).alloc (.cells gU.toArray 104)) (w.heap.size+1+1+1) gU:=by
  have h:=aA.new ((aW (aW w (bG pa pc p) 27) (aX ba ca bo cb x) 31).alloc (.cells (cR VF src dst sp dp).toArray 43)) gU 104;try simp only[UC]at h
  exact h
 have HS0:Hid (dD w [(w.heap.size,(bG pa pc p)),(w.heap.size+1,(aX ba ca bo cb x)),(w.heap.size+1+1,(cR VF src dst sp dp)),(w.heap.size+1+1+1,gU)] ((aW (aW (aW w (bG pa pc p) 27) (aX ba ca bo cb x) 31) (cR VF src dst sp dp) 43).alloc (.cells gU.toArray 104))):=by
  refine⟨fun e he=>?_,((((bR.alloc (by (try simp only[UC]);omega) _).alloc (by (try simp only[UC]);omega) _).alloc (by (try simp only[UC]);omega) _).alloc (by (try simp only[UC]);omega) _),fun e he=>?_⟩
  ·simp only[UH,UG,or_false]at he;rcases he with rfl|rfl|rfl|rfl
   ·exact e0
   ·exact e1
   ·exact e2
   ·exact e3
  ·simp only[UH,UG,or_false]at he;rcases he with rfl|rfl|rfl|rfl<;>simp
 clear e0 e1 e2 e3;have hRw:w.heap.size≤w.heap.size+1+1+1:=by omega
 go_enter Tryz.func63,Tryz.ntmps63
 go_upto_region 1 with fail
 generalize World.alloc _ _=W0 at *;have hR0:w.heap.size+1+1+1 < W0.heap.size:=(HS0.out.k _ iF).lt (by simp);have HCP:Hid (∀wy,Below W0.drew.heap.size W0.drew wy→_):=fun wy hy=>HS0.out.kept (bR.drew.trans hy)
 have hRl:w.heap.size+1+1+1 < W0.drew.heap.size:=hR0;have hwl:w.heap.size≤W0.drew.heap.size:=HS0.out.b.size;clear HS0 hR0;refine aN [13,14,15,16,17,18,19,20,21,22,23,24,25,26,27,28,29,30,31,32] (by kernel_rfl) (by kernel_rfl) ?_;iterate 13 (apply bC.u rfl;(·intro K' a wy ho hd hb hK;simp[aU,aG,aD,Region.binds]at ho hd;have hst:=HCP.out wy hb;have kC:=(hst.at cM).c10;have kC:=(hst.at dZ).c2;have kC:=(hst.at eL).c5;clear hst;go_simp;first|((try go_bits);exact hK _ _ rfl bQ)|(refine(HPN.out wy).mono ?_;rintro e wz ⟨rfl,hz⟩;exact hK _ _ rfl hz));dsimp only[nA,cA])
 iterate 3 (apply bC.u rfl;(·intro K' a wy ho hd hb hK;simp[aU,aG,aD,Region.binds]at ho hd;have hst:=HCP.out wy hb;have kC:=(hst.at cM).c10;have kC:=(hst.at dZ).c2;have kC:=(hst.at eL).c5;clear hst;go_simp;first|((try go_bits);exact hK _ _ rfl bQ)|(refine(HPO.out wy).mono ?_;rintro e wz ⟨rfl,hz⟩;exact hK _ _ rfl hz));dsimp only[nA,cA])
 iterate 3 (apply bC.u rfl;(·intro K' a wy ho hd hb hK;simp[aU,aG,aD,Region.binds]at ho hd;go_simp;first|((try go_bits);exact hK _ _ rfl bQ)|(refine(HFL.out wy).mono ?_;rintro e wz ⟨rfl,hz⟩;exact hK _ _ rfl hz));dsimp only[nA,cA])
 refine bC.rel (n:=19) (LL W0.drew.heap.size nv) (uP _ _) [_,_,_,_,_,_,_,_,_,_,_,_,_,_,_,_,_,_,_,LL W0.drew.heap.size nv] rfl rfl ?_ ?_
 ·intro K' a wy ho hd hb hK;rw[wN rfl];have q0:=hd ⟨0,.data⟩ (by simp) rfl;have q1:=hd ⟨1,.data⟩ (by simp) rfl;have q17:=hd ⟨17,.data⟩ (by simp) rfl;have q18:=hd ⟨18,.data⟩ (by simp) rfl;simp[aU,aG,aD]at q0 q1 q17 q18;clear hd ho;go_simp;have hst:=HCP.out wy hb;refine(HGO.out wy hst.b).mono ?_;rintro e wz ⟨⟨a9,b9,c9,d9,rfl,hown⟩,hz⟩;exact hK _ _ ⟨a9,b9,c9,d9,rfl,⟨hown.bd.down hb.size,hown.ss.down hb.size,hown.ne⟩⟩ hz
 intro X wz hR hz;obtain⟨x0,x1,x2,x3,x4,x5,x6,x7,x8,x9,x10,x11,x12,x13,x14,x15,x16,x17,x18,x19,-⟩:=hR;obtain⟨a9,b9,c9,d9,e9,own9⟩:=x19;unfold EZ at e9;simp only[aG]at x0 x1 x2 x3 x4 x5 x6 x7 x8 x9 x10 x11 x12 x13 x14 x15 x16 x17 x18;simp only[aE,x0,x1,x2,x3,x4,x5,x6,x7,x8,x9,x10,x11,x12,x13,x14,x15,x16,x17,x18,e9];clear x0 x1 x2 x3 x4 x5 x6 x7 x8 x9 x10 x11 x12 x13 x14 x15 x16 x17 x18;have V7:Hid (dD w [(w.heap.size,(bG pa pc p)),(w.heap.size+1,(aX ba ca bo cb x)),(w.heap.size+1+1,(cR VF src dst sp dp)),(w.heap.size+1+1+1,gU)] wz):=HCP.out wz hz;clear hz HCP;have HHz:=V7.out.at iF;obtain⟨z0,z1,z2,z3,z4,z5,z6,z7⟩:=HHz.c8;obtain⟨zf0,zf1,zf2,zf3,zf4,zf5,zf6,zf7⟩:=HHz.f8;obtain⟨HRR,RB⟩:=vN HHz V7.out.b hRw (.slice a9 nv.bib.VN.length c9) (.slice b9 nv.bib.VK.length d9) (iV nv.bind.VF) (.string nv.bind.inn) (iV nv.bind.VH) (.string nv.bind.out) (iV nv.bind.VI) (iV nv.code);clear HHz;have HOW:Hid (bV w.heap.size ((sW (sW (sW (sW (sW (sW (sW wz (w.heap.size+1+1+1) 0 (.slice a9 nv.bib.VN.length c9)) (w.heap.size+1+1+1) 1 (.slice b9 nv.bib.VK.length d9)) (w.heap.size+1+1+1) 2 (iV nv.bind.VF)) (w.heap.size+1+1+1) 3 (.string nv.bind.inn)) (w.heap.size+1+1+1) 4 (iV nv.bind.VH)) (w.heap.size+1+1+1) 5 (.string nv.bind.out)) (w.heap.size+1+1+1) 6 (iV nv.bind.VI)).setCell ⟨w.heap.size+1+1+1,7,none⟩ (iV nv.code)) a9 b9 nv.bib):=⟨(own9.bd.grown (aB (aB (aB (aB (aB (aB (aB (aB (World.grownBy.refl _ _) _) _) _) _) _) _) _) _) hRl).down hwl,(own9.ss.grown (aB (aB (aB (aB (aB (aB (aB (aB (World.grownBy.refl _ _) _) _) _) _) _) _) _) _) hRl).down hwl,own9.ne⟩
 clear own9 V7 HGO;intro K10 hK10;go_simp;refine hK10 _ _ ?_;simp only[fN];go_wp2_with fail
 exact VB (aF Tryz.results63 _ _ _ _ _ rfl HRR.out Tryz.underlying104 rfl (show (Tryz.prog.info? 104).map (·.size)=some 8 by kernel_rfl)) rfl (And.intro ⟨a9,b9,c9,d9,rfl,HOW.out⟩ RB.out)
theorem ED(pa:OA)(pc:Nat)(p:Pl)(ba bo:OA)(ca cb:Nat)(x:Bb)(f:Fl)(t:BA)(now:Int)(w:World)(hpo:cU p=true)(hnow:bT now=true)(hfs:f.dst.size≤1048576)(h0:0≤f.dp)(h1:f.dp≤65535)(ht:t.size≤1048576)(h20:f.VF=6→20≤t.size)(hl1:x.VN.length≤1048576)(hl2:x.VK.length≤1048576)(hp:bP cB 1 w pa p.VL)(hx:dC w ba bo x) :
  Calls Tryz.prog 77 #[iK pa pc p,gP ba bo ca cb x,gF f,.string t,iV now] w fun e w'=>kX w.heap.size (dO p x (cE f t) now) e w'∧Below w.heap.size w w':=by
 have HGO:Hid (∀W,Below w.heap.size w W→Calls Tryz.prog 114 #[iK pa pc p,gP ba bo ca cb x,.agg (eH f.VF false f.dst f.dp f.src (fF f.VF f.sp) (fU f.VF t)).toArray,iV now] W fun e w'=>kX W.heap.size (dO p x (cE f t) now) e w'∧Below W.heap.size W w'):=fun W hW=>xC pa pc p ba bo ca cb x (cE f t) now W hpo hnow hfs h0 h1 hl1 hl2 (hp.below hW) (hx.below hW)
 have HPO:Hid (∀W,Cb 116 #[gF f,iV f.sp] W (iV (fF f.VF f.sp))):=fun W=>uN f _ W
 have HFL:Hid (∀W,Cb 117 #[gF f,.string t] W (iV (fU f.VF t))):=fun W=>sS f t W ht h20
 generalize dO p x (cE f t) now=nv at *;generalize fF f.VF f.sp=pv at *;generalize fU f.VF t=fv at *;obtain⟨VF,src,dst,sp,dp⟩:=f;dsimp only at *;clear hp hx hpo hnow h20;unfold iK gP gF at *;dsimp only at *;have e0:aA ((aW (aW (aW w (bG pa pc p) 27) (aX ba ca bo cb x) 31) (cR VF src dst sp dp) 43).alloc (.cells gU.toArray 104)) (w.heap.size) (bG pa pc p):=by
  have h:=aA.new w (bG pa pc p) 27;try simp only[UC]at h
  exact(((h.alloc _).alloc _).alloc _)
 have e1:aA ((aW (aW (aW w (bG pa pc p) 27) (aX ba ca bo cb x) 31) (cR VF src dst sp dp) 43).alloc (.cells gU.toArray 104)) (w.heap.size+1) (aX ba ca bo cb x):=by
  have h:=aA.new (w.alloc (.cells (bG pa pc p).toArray 27)) (aX ba ca bo cb x) 31;try simp only[UC]at h
  exact((h.alloc _).alloc _)
 have e2:aA ((aW (aW (aW w (bG pa pc p) 27) (aX ba ca bo cb x) 31) (cR VF src dst sp dp) 43).alloc (.cells gU.toArray 104)) (w.heap.size+1+1) (cR VF src dst sp dp):=by
  have h:=aA.new ((aW w (bG pa pc p) 27).alloc (.cells (aX ba ca bo cb x).toArray 31)) (cR VF src dst sp dp) 43;try simp only[UC]at h
  exact(h.alloc _)
 have e3:aA ((aW (aW (aW w (bG pa pc p) 27) (aX ba ca bo cb x) 31) (cR VF src dst sp dp) 43).alloc (.cells gU.toArray 104)) (w.heap.size+1+1+1) gU:=by
  have h:=aA.new ((aW (aW w (bG pa pc p) 27) (aX ba ca bo cb x) 31).alloc (.cells (cR VF src dst sp dp).toArray 43)) gU 104;try simp only[UC]at h
  exact h
 have HS0:Hid (dD w [(w.heap.size,(bG pa pc p)),(w.heap.size+1,(aX ba ca bo cb x)),(w.heap.size+1+1,(cR VF src dst sp dp)),(w.heap.size+1+1+1,gU)] ((aW (aW (aW w (bG pa pc p) 27) (aX ba ca bo cb x) 31) (cR VF src dst sp dp) 43).alloc (.cells gU.toArray 104))):=by
  refine⟨fun e he=>?_,((((bR.alloc (by (try simp only[UC]);omega) _).alloc (by (try simp only[UC]);omega) _).alloc (by (try simp only[UC]);omega) _).alloc (by (try simp only[UC]);omega) _),fun e he=>?_⟩
  ·simp only[UH,UG,or_false]at he;rcases he with rfl|rfl|rfl|rfl
   ·exact e0
   ·exact e1
   ·exact e2
   ·exact e3
  ·simp only[UH,UG,or_false]at he;rcases he with rfl|rfl|rfl|rfl<;>simp
 clear e0 e1 e2 e3;have hRw:w.heap.size≤w.heap.size+1+1+1:=by omega
 go_enter Tryz.func77,Tryz.ntmps77
 go_upto_region 1 with fail
 generalize World.alloc _ _=W0 at *;have hR0:w.heap.size+1+1+1 < W0.heap.size:=(HS0.out.k _ iF).lt (by simp);have HCP:Hid (∀wy,Below W0.drew.heap.size W0.drew wy→_):=fun wy hy=>HS0.out.kept (bR.drew.trans hy)
 have hRl:w.heap.size+1+1+1 < W0.drew.heap.size:=hR0;have hwl:w.heap.size≤W0.drew.heap.size:=HS0.out.b.size;clear HS0 hR0;refine aN [11,12,13,14,15,16,17,18,19,20,21,22,23,24,25,26,27,28,29,30] (by kernel_rfl) (by kernel_rfl) ?_;iterate 16 (apply bC.u rfl;(·intro K' a wy ho hd hb hK;simp[aU,aG,aD,Region.binds]at ho hd;have hst:=HCP.out wy hb;have kC:=(hst.at cM).c10;have kC:=(hst.at dZ).c2;have kC:=(hst.at eL).c5;clear hst;go_simp;first|((try go_bits);exact hK _ _ rfl bQ)|(refine(HPO.out wy).mono ?_;rintro e wz ⟨rfl,hz⟩;exact hK _ _ rfl hz));dsimp only[nA,cA])
 iterate 3 (apply bC.u rfl;(·intro K' a wy ho hd hb hK;simp[aU,aG,aD,Region.binds]at ho hd;go_simp;first|((try go_bits);exact hK _ _ rfl bQ)|(refine(HFL.out wy).mono ?_;rintro e wz ⟨rfl,hz⟩;exact hK _ _ rfl hz));dsimp only[nA,cA])
 refine bC.rel (n:=19) (LL W0.drew.heap.size nv) (uP _ _) [_,_,_,_,_,_,_,_,_,_,_,_,_,_,_,_,_,_,_,LL W0.drew.heap.size nv] rfl rfl ?_ ?_
 ·intro K' a wy ho hd hb hK;rw[wN rfl];have q0:=hd ⟨0,.data⟩ (by simp) rfl;have q1:=hd ⟨1,.data⟩ (by simp) rfl;have q17:=hd ⟨17,.data⟩ (by simp) rfl;have q18:=hd ⟨18,.data⟩ (by simp) rfl;simp[aU,aG,aD]at q0 q1 q17 q18;clear hd ho;go_simp;have hst:=HCP.out wy hb;refine(HGO.out wy hst.b).mono ?_;rintro e wz ⟨⟨a9,b9,c9,d9,rfl,hown⟩,hz⟩;exact hK _ _ ⟨a9,b9,c9,d9,rfl,⟨hown.bd.down hb.size,hown.ss.down hb.size,hown.ne⟩⟩ hz
 intro X wz hR hz;obtain⟨x0,x1,x2,x3,x4,x5,x6,x7,x8,x9,x10,x11,x12,x13,x14,x15,x16,x17,x18,x19,-⟩:=hR;obtain⟨a9,b9,c9,d9,e9,own9⟩:=x19;unfold EZ at e9;simp only[aG]at x0 x1 x2 x3 x4 x5 x6 x7 x8 x9 x10 x11 x12 x13 x14 x15 x16 x17 x18;simp only[aE,x0,x1,x2,x3,x4,x5,x6,x7,x8,x9,x10,x11,x12,x13,x14,x15,x16,x17,x18,e9];clear x0 x1 x2 x3 x4 x5 x6 x7 x8 x9 x10 x11 x12 x13 x14 x15 x16 x17 x18;have V7:Hid (dD w [(w.heap.size,(bG pa pc p)),(w.heap.size+1,(aX ba ca bo cb x)),(w.heap.size+1+1,(cR VF src dst sp dp)),(w.heap.size+1+1+1,gU)] wz):=HCP.out wz hz;clear hz HCP;have HHz:=V7.out.at iF;obtain⟨z0,z1,z2,z3,z4,z5,z6,z7⟩:=HHz.c8;obtain⟨zf0,zf1,zf2,zf3,zf4,zf5,zf6,zf7⟩:=HHz.f8;obtain⟨HRR,RB⟩:=vN HHz V7.out.b hRw (.slice a9 nv.bib.VN.length c9) (.slice b9 nv.bib.VK.length d9) (iV nv.bind.VF) (.string nv.bind.inn) (iV nv.bind.VH) (.string nv.bind.out) (iV nv.bind.VI) (iV nv.code);clear HHz;have HOW:Hid (bV w.heap.size ((sW (sW (sW (sW (sW (sW (sW wz (w.heap.size+1+1+1) 0 (.slice a9 nv.bib.VN.length c9)) (w.heap.size+1+1+1) 1 (.slice b9 nv.bib.VK.length d9)) (w.heap.size+1+1+1) 2 (iV nv.bind.VF)) (w.heap.size+1+1+1) 3 (.string nv.bind.inn)) (w.heap.size+1+1+1) 4 (iV nv.bind.VH)) (w.heap.size+1+1+1) 5 (.string nv.bind.out)) (w.heap.size+1+1+1) 6 (iV nv.bind.VI)).setCell ⟨w.heap.size+1+1+1,7,none⟩ (iV nv.code)) a9 b9 nv.bib):=⟨(own9.bd.grown (aB (aB (aB (aB (aB (aB (aB (aB (World.grownBy.refl _ _) _) _) _) _) _) _) _) _) hRl).down hwl,(own9.ss.grown (aB (aB (aB (aB (aB (aB (aB (aB (World.grownBy.refl _ _) _) _) _) _) _) _) _) _) hRl).down hwl,own9.ne⟩
 clear own9 V7 HGO;intro K10 hK10;go_simp;refine hK10 _ _ ?_;simp only[fN];go_wp2_with fail
 exact VB (aF Tryz.results77 _ _ _ _ _ rfl HRR.out Tryz.underlying104 rfl (show (Tryz.prog.info? 104).map (·.size)=some 8 by kernel_rfl)) rfl (And.intro ⟨a9,b9,c9,d9,rfl,HOW.out⟩ RB.out)
theorem FM(VM:Int)(w:World) :
  Cw 167 #[iV VM] w (.bool (decide (bits .and .i64 VM 22=2))):=by
 by_cases h:bits .and .i64 VM 22=2
 ·go_enter Tryz.func167,Tryz.ntmps167
  go_wp2_with fail
  go_ret;exact⟨aC (by simp[h]),rfl⟩
 ·go_enter Tryz.func167,Tryz.ntmps167
  go_wp2_with fail
  go_ret;exact⟨aC (by simp[h]),rfl⟩
theorem MW{VF:Int}{VJ:Bool}{VM:Int}(hf:aO VM 0 255=true):bF VF VJ VM=if dF VF=true then 3 else if VF=6 then (if bits .and .i64 VM 22=2 then (if VJ=true then 1 else 2) else 0) else 0:=by
 unfold bF;have e:=CX hf;rw[if_neg (by rw[hf];decide)];by_cases h1:dF VF=true
 ·rw[if_pos h1,if_pos h1]
 ·rw[if_neg h1,if_neg h1];by_cases h2:VF=6
  ·rw[if_pos h2];by_cases h3:bits .and .i64 VM 22=2
   ·rw[if_pos h3,if_pos ⟨h2,e.mpr h3⟩]
   ·rw[if_neg h3,if_neg (fun h=>h3 (e.mp h.2))]
  ·rw[if_neg h2,if_neg (fun h=>h2 h.1)]
theorem KJ(VF:Int)(VJ:Bool)(VM:Int):0≤bF VF VJ VM∧bF VF VJ VM≤3:=by
 unfold bF;(repeat' split)<;>omega
theorem AP(VF:Int)(VJ:Bool)(VM:Int)(w:World)(hf:aO VM 0 255=true) :
  Cw 139 #[iV VF,.bool VJ,iV VM] w (iV (bF VF VJ VM)):=by
 have HA:Hid (∀W,Cw 143 #[iV VF] W (.bool (dF VF))):=fun W=>nO _ W
 have HC:Hid (∀W,Cw 121 #[iV VM] W (.bool (aO VM 0 255))):=fun W=>jL _ W
 have HB:Hid (∀W,Cw 167 #[iV VM] W (.bool (decide (bits .and .i64 VM 22=2)))):=fun W=>FM _ W
 have HV:Hid (bF VF VJ VM=if dF VF=true then 3 else if VF=6 then (if bits .and .i64 VM 22=2 then (if VJ=true then 1 else 2) else 0) else 0):=MW hf;rw[hf]at HC;generalize bF VF VJ VM=ans at *;clear hf
 cases hs:dF VF with
 | true=>
  rw[hs]at HA;have HX:Hid (ans=3):=by unfold Hid;rw[HV.out,if_pos hs]
  clear HV hs;go_enter Tryz.func139,Tryz.ntmps139
  go_wp2_with fail
  refine(HA.out _).mono ?_;rintro e w1 ⟨rfl,rfl⟩;go_wp2_with fail
  go_ret;exact⟨aK HX.out.symm,rfl⟩
 | false=>
  rw[hs,if_neg (by decide)]at HV;rw[hs]at HA;clear hs;by_cases hp:VF=6
  ·subst hp;rw[if_pos rfl]at HV;by_cases hb:bits .and .i64 VM 22=2
   ·rw[if_pos hb]at HV;rw[UE hb]at HB;clear hb
    cases VJ;all_goals
     simp at HV;go_enter Tryz.func139,Tryz.ntmps139
     go_wp2_with fail
     refine(HA.out _).mono ?_;rintro e w1 ⟨rfl,rfl⟩;go_wp2_with fail
     refine(HC.out _).mono ?_;rintro e w1 ⟨rfl,rfl⟩;go_wp2_with fail
     refine(HB.out _).mono ?_;rintro e w1 ⟨rfl,rfl⟩;go_wp2_with fail
     go_ret;exact⟨aK HV.out.symm,rfl⟩
   ·rw[if_neg hb]at HV;rw[UD hb]at HB;clear hb;go_enter Tryz.func139,Tryz.ntmps139
    go_wp2_with fail
    refine(HA.out _).mono ?_;rintro e w1 ⟨rfl,rfl⟩;go_wp2_with fail
    refine(HC.out _).mono ?_;rintro e w1 ⟨rfl,rfl⟩;go_wp2_with fail
    refine(HB.out _).mono ?_;rintro e w1 ⟨rfl,rfl⟩;go_wp2_with fail
    go_ret;exact⟨aK HV.out.symm,rfl⟩
  ·rw[if_neg hp]at HV;go_enter Tryz.func139,Tryz.ntmps139
   go_wp2_with fail
   refine(HA.out _).mono ?_;rintro e w1 ⟨rfl,rfl⟩;go_wp2_with fail
   go_ret;exact⟨aK HV.out.symm,rfl⟩
theorem xR(t:Tc)(w:World)(hs1:t.addr.size≤1048576)(hs2:t.peer.size≤1048576) :
  Cb 105 #[pJ t] w (.bool (cC t)):=by
 obtain⟨VF,VJ,addr,port,peer,VG,VM⟩:=t;dsimp only at hs1 hs2;have HZ:Hid (Below w.heap.size w (w.alloc (.cells (eH VF VJ addr port peer VG VM).toArray 89))):=bR.alloc lR _;have HT:Hid (aA (w.alloc (.cells (eH VF VJ addr port peer VG VM).toArray 89)) w.heap.size (eH VF VJ addr port peer VG VM)):=aA.new w (eH VF VJ addr port peer VG VM) 89;have H1:Hid (∀W,Cw 136 #[iV VF] W (.bool (eN VF))):=fun W=>uG _ W
 have H2:Hid (∀W,Cw 129 #[.string addr] W (.bool (cO addr))):=fun W=>kS addr W
 have H3:Hid (∀W,Cw 122 #[iV port] W (.bool (jS port))):=fun W=>dU _ W
 have H4:Hid (∀W,Cw 122 #[iV VG] W (.bool (jS VG))):=fun W=>dU _ W
 have H5:Hid (∀W,Cw 121 #[iV VM] W (.bool (aO VM 0 255))):=fun W=>jL _ W
 have HV:Hid (cC ⟨VF,VJ,addr,port,peer,VG,VM⟩=(eN VF&&cO addr&&(VJ||decide (addr.size=4))&&jS port&&decide (peer.size=4)&&jS VG&&aO VM 0 255)):=rfl;generalize cC ⟨VF,VJ,addr,port,peer,VG,VM⟩=ans at *;generalize eN VF=b1 at *;generalize cO addr=b2 at *;generalize jS port=b3 at *;generalize jS VG=b4 at *;generalize aO VM 0 255=b5 at *;unfold pJ;go_enter Tryz.func105,Tryz.ntmps105
 go_upto_region 1 with fail
 generalize (w.alloc (.cells (eH VF VJ addr port peer VG VM).toArray 89))=W at *;obtain⟨k0,k1,k2,k3,k4,k5,k6⟩:=HT.out.c7;clear HT;go_wp2_with fail
 refine(H1.out _).mono ?_;rintro e W ⟨rfl,rfl⟩
 cases b1 with
 | false=>
  go_wp2_with fail
  go_ret;exact⟨aC (by rw[HV.out];rfl),HZ.out⟩
 | true=>
 go_wp2_with fail
 refine(H2.out _).mono ?_;rintro e W ⟨rfl,rfl⟩
 cases b2 with
 | false=>
  go_wp2_with fail
  go_ret;exact⟨aC (by rw[HV.out];rfl),HZ.out⟩
 | true=>
 by_cases hi:VJ=false∧¬addr.size=4
 ·obtain⟨rfl,ha⟩:=hi;have haI:¬(addr.size:Int)=4:=by omega
  go_wp2_with fail
  go_ret;exact⟨aC (by rw[HV.out,UD ha];rfl),HZ.out⟩
 have HI:Hid ((VJ||decide (addr.size=4))=true):=by
  unfold Hid
  cases VJ with
  | true=>rfl
  | false=>simp at hi;simp[hi]
 have hsp:VJ=true∨(VJ=false∧addr.size=4):=by
  cases VJ with
  | true=>exact .inl rfl
  | false=>simp at hi;exact .inr ⟨rfl,hi⟩
 clear hi;have HV2:Hid (ans=(b3&&decide (peer.size=4)&&b4&&b5)):=by unfold Hid;rw[HV.out,HI.out];rfl
 clear HV HI;rcases hsp with rfl|⟨rfl,ha⟩
 all_goals
  try have haI:(addr.size:Int)=4:=by omega
  go_wp2_with fail
  refine(H3.out _).mono ?_;rintro e W ⟨rfl,rfl⟩
  cases b3 with
  | false=>
   go_wp2_with fail
   go_ret;exact⟨aC (by rw[HV2.out];rfl),HZ.out⟩
  | true=>
  go_wp2_with fail
  refine(H4.out _).mono ?_;rintro e W ⟨rfl,rfl⟩
  cases b4 with
  | false=>
   go_wp2_with fail
   go_ret;exact⟨aC (by rw[HV2.out];simp),HZ.out⟩
  | true=>
  by_cases hp:peer.size=4
  ·have HX:Hid (ans=b5):=by unfold Hid;rw[HV2.out,UE hp];rfl
   have hpI:(peer.size:Int)=4:=by omega
   go_wp2_with fail
   refine(H5.out _).mono ?_;rintro e W ⟨rfl,rfl⟩;go_wp2_with fail
   go_ret;exact⟨aC HX.out.symm,HZ.out⟩
  ·have HX:Hid (ans=false):=by unfold Hid;rw[HV2.out,UD hp];rfl
   have hpI:¬(peer.size:Int)=4:=by omega
   go_wp2_with fail
   go_ret;exact⟨aC HX.out.symm,HZ.out⟩
theorem GF(pa:OA)(pc:Nat)(p:Pl)(ba bo:OA)(ca cb:Nat)(x:Bb)(m1 m2:Nat)(t:Tc)(w:World)(he:qX ⟨t.VF,t.addr,t.port⟩)(hbk:dJ w m1 m2 x.VN x.VN) :
  Cb 106 #[CO pa pc p ba bo ca cb x m1 m2,pJ t] w (.tuple #[pG (cL x t).1,.bool (cL x t).2]):=by
 obtain⟨VF,VJ,addr,port,peer,VG,VM⟩:=t;dsimp only at he;obtain⟨c,hc⟩: ∃c,c=(x.VN.find? (cV VF addr port)).getD lB:=⟨_,rfl⟩;have HLK:Hid (∀W,Below w.heap.size w W→(Instr.lookup 137 (.map (some m2)) (.agg (gT VF addr port).toArray) true).run Tryz.prog W=.ok (.tuple #[.agg (cZ c).toArray,.bool (x.VN.find? (cV VF addr port)).isSome]) W):=fun W hW=>by
  have hl:=(hbk.kept hW).look2 (e:=⟨VF,addr,port⟩) he;rw[show (fun q=>bB (iP q) ⟨VF,addr,port⟩)=cV VF addr port from funext fun c=>pX _ _ _ c,←hc]at hl;exact hl
 have HHE:Hid (∀W,Cb 53 #[.agg (cZ c).toArray] W (.agg (gT c.VF c.inn c.VH).toArray)):=fun W=>lN c W
 have HV:Hid (cL x ⟨VF,VJ,addr,port,peer,VG,VM⟩=if VJ=true then (⟨VF,addr,port⟩,true) else (⟨c.VF,c.inn,c.VH⟩,(x.VN.find? (cV VF addr port)).isSome)):=by rw[hc];rfl
 generalize cL x ⟨VF,VJ,addr,port,peer,VG,VM⟩=ans at *;generalize (x.VN.find? (cV VF addr port)).isSome=fd at *;clear hc he hbk;have hRw:w.heap.size≤w.heap.size+1+1:=by omega
 have hun:undef=Value.tuple #[]:=rfl;have HS0:=RL w (iM pa pc p ba ca bo cb x m1 m2) 139 (eH VF VJ addr port peer VG VM) 89 (gT 0 ⟨#[]⟩ 0) 86 (by simp) (by simp) (by simp)
 skip;unfold CO pJ;go_enter Tryz.func106,Tryz.ntmps106
 go_upto_region 1 with fail
 generalize World.alloc _ _=W at *;have HHt:=HS0.out.at dZ;obtain⟨t0,t1,t2,t3,t4,t5,t6⟩:=HHt.c7;clear HHt;go_upto_region 2 with fail
 have S1:Hid _:=HS0.out.push (gT VF addr port) (by simp) 86;generalize hW1:W.alloc _=W1 at *;clear hW1 HS0 t0 t1 t2 t3 t4 t5 t6;generalize W.heap.size=Be at *
 cases VJ with
 | true=>
  have HX:Hid (ans=(⟨VF,addr,port⟩,true)):=HV.out;clear HV;have HHt:=S1.out.at eL;have t1:=HHt.cell (j:=1) rfl;clear HHt;have HHn:=S1.out.at cM;obtain⟨n0,n1,n2⟩:=HHn.c3;clear HHn;have HHz:=S1.out.at iF;obtain⟨z0,z1,z2⟩:=HHz.c3;obtain⟨zf0,zf1,zf2⟩:=HHz.f3;go_wp2_with fail
  refine VB (v:=.tuple #[.agg (gT VF addr port).toArray,.bool true]) (by simp[results,Tryz.results106,go_sem,z0,z1,z2]) rfl (And.intro (by rw[HX.out];rfl) ?_);exact(sCl (sCl (sCl S1.out.b hRw) hRw) hRw)
 | false=>
  have HX:Hid (ans=(⟨c.VF,c.inn,c.VH⟩,fd)):=HV.out;clear HV;have HHt:=S1.out.at eL;have t1:=HHt.cell (j:=1) rfl;clear HHt;have HHn:=S1.out.at cM;obtain⟨n0,n1,n2⟩:=HHn.c3;clear HHn;have HHk:=S1.out.at dZ;have k13:=HHk.cell (j:=13) rfl;clear HHk;have LK:=HLK.out W1 S1.out.b;go_upto_region 5 with (at_lookup;refine iX rfl _ _ _ _ rfl rfl rfl LK ?_)
  have S2:Hid _:=S1.out.push (cZ c) (by simp) 48;generalize hW2:W1.alloc _=W2 at *;clear hW2 S1 LK HLK n0 n1 n2 k13 t1;generalize W1.heap.size=Bc at *;have HHy:=S2.out.at cM;obtain⟨y0,y1,y2,y3,y4⟩:=HHy.c5;clear HHy;go_wp2_with fail
  refine(HHE.out _).mono ?_;rintro e W3 ⟨rfl,q3⟩;have S3:Hid _:=S2.out.kept q3;clear q3 S2 HHE y0 y1 y2 y3 y4;have HHz:=S3.out.at nH;obtain⟨z0,z1,z2⟩:=HHz.c3;obtain⟨zf0,zf1,zf2⟩:=HHz.f3;go_wp2_with fail
  refine VB (v:=.tuple #[.agg (gT c.VF c.inn c.VH).toArray,.bool fd]) (by simp[results,Tryz.results106,go_sem,z0,z1,z2]) rfl (And.intro (by rw[HX.out];rfl) ?_);exact(sCl (sCl (sCl S3.out.b hRw) hRw) hRw)
theorem CH(q:Ss)(h:En)(s:BA)(B1 B2:Nat)(w:World)(hk0:aA w B1 (xW h))(hk1:aA w B2 [.string s]) :
  Cb 169 #[xL q,.pointer (some ⟨B1,0,none⟩),.pointer (some ⟨B2,0,none⟩)] w (.bool (wJ h s q)):=by
 have HF:Hid (∀W,Cb 134 #[.agg (iE q).toArray] W (.agg (gB q.VF q.inn q.VH q.peer q.VG).toArray)):=fun W=>nK q W
 have HE:Hid (∀W,(binOp .eql 86 (.agg (gT q.VF q.inn q.VH).toArray) (.agg (gT h.VF h.addr h.port).toArray)).run Tryz.prog W=.ok (.bool (bB (hH q) h)) W):=fun W=>wB (hH q) h W
 have HFL:Hid (∀W,Sem.run Tryz.prog (Instr.field 147 (.agg (gB q.VF q.inn q.VH q.peer q.VG).toArray) 0) W=.ok (.agg (gT q.VF q.inn q.VH).toArray) W):=fun W=>by kernel_rfl
 have HV:Hid (wJ h s q=(bB (hH q) h&&decide (q.peer.toList=s.toList))):=rfl;generalize wJ h s q=ans at *;generalize bB (hH q) h=b at *;have HZ:Hid (Below w.heap.size w (w.alloc (.cells (iE q).toArray 59))):=bR.alloc lR _;have HQ:Hid (aA (w.alloc (.cells (iE q).toArray 59)) w.heap.size (iE q)):=aA.new w (iE q) 59;have HK0:Hid (aA (w.alloc (.cells (iE q).toArray 59)) B1 (gT h.VF h.addr h.port)):=aA.alloc (cs:=(gT h.VF h.addr h.port)) hk0 _;have HK1:Hid (aA (w.alloc (.cells (iE q).toArray 59)) B2 [.string s]):=hk1.alloc _;clear hk0 hk1;unfold xL;go_enter Tryz.func169,Tryz.ntmps169
 go_upto_region 1 with fail
 generalize (w.alloc (.cells (iE q).toArray 59))=W at *;go_cut [4] (fun v wx=>v=.bool ans∧Below w.heap.size w wx)
 case first=>
  rename_i J K2 hJ hK2;have HCP:Hid (∀wy,Below W.drew.heap.size W.drew wy→aA wy w.heap.size (iE q)∧aA wy B1 (gT h.VF h.addr h.port)∧aA wy B2 [.string s]):=fun wy hy=>⟨HQ.out.drew.kept (by simp) hy,HK0.out.drew.kept (by simp) hy,HK1.out.drew.kept (by simp) hy⟩
  cases b with
  | false=>
   have HX:Hid (ans=false):=HV.out;clear HV;refine bJ [5,6,7,8,9,10,11,12,13,14,15,4] (by kernel_rfl) (by kernel_rfl) ?_;iterate 2 (apply fI.u rfl;(·intro K' a wy ho hd hb hK;simp[aU,aG,aD,Region.binds]at ho hd;obtain⟨hq,h0,h1⟩:=HCP.out wy hb;have kC:=hq.c7;have kC:=h0.c3;have m0:=h1.cell (j:=0) rfl;go_simp;first|((try go_bits);exact hK _ _ rfl bQ)|(refine(HF.out wy).mono ?_;rintro e wz ⟨rfl,hz⟩;exact hK _ _ rfl hz));dsimp only[nA,cA])
   (apply fI.u rfl;(·intro K' a wy ho hd hb hK;simp[aU,aG,aD,Region.binds]at ho hd;have hfl:=HFL.out wy;go_simp;(try go_bits);exact hK _ _ rfl bQ);dsimp only[nA,cA])
   (apply fI.u rfl;(·intro K' a wy ho hd hb hK;simp[aU,aG,aD,Region.binds]at ho hd;obtain⟨hq,h0,h1⟩:=HCP.out wy hb;have kC:=hq.c7;have kC:=h0.c3;have m0:=h1.cell (j:=0) rfl;go_simp;(try go_bits);exact hK _ _ rfl bQ);dsimp only[nA,cA])
   apply fI.v4
   ·rfl
   ·intro K' a wy ho hd hb hK kz;have q2:=hd ⟨2,.data⟩ (by simp) rfl;have q3:=hd ⟨3,.data⟩ (by simp) rfl;simp[aU,aG,aD]at q2 q3;clear hd ho;refine iU .eql 86 86 (.tmp 7) (.tmp 8) rfl (by simp[Act.eval,aD,q2]) (by simp[Act.eval,aD,q3]) (run_eqGuard_agg _ _ _ _ _ _ _ (by kernel_rfl)) (HE.out wy) ?_;exact kz _ rfl
   iterate 7 ((first|(refine fI.n rfl rfl rfl rfl rfl (by simp) ?_)|(apply fI.u rfl;(·intro K' a wy ho hd hb hK;simp[aU,aG,aD,Region.binds]at ho hd;go_simp;(try go_bits);exact hK _ _ rfl bQ)));dsimp only[nA,cA])
   intro X wz hR hz;simp only[UM,UN,eY,aG]at hR;simp only[aE,hR];clear hR;go_simp;try go_bits
   refine hK2 _ _ (hJ _ _ ?_);(repeat apply Exists.intro)
   refine⟨⟨by rw[HX.out],HZ.out.drew.trans (hz.mono HZ.out.size)⟩,rfl⟩
  | true=>
   have HX:Hid (ans=decide (q.peer.toList=s.toList)):=by unfold Hid;rw[HV.out];rfl
   clear HV;by_cases hs:q.peer.toList=s.toList
   case pos=>
    have hs2:(q.peer.toList==s.toList)=true:=by simp[hs]
    rw[UE hs]at HX;clear hs;refine bJ [5,6,7,8,9,10,11,12,13,14,15,4] (by kernel_rfl) (by kernel_rfl) ?_;iterate 2 (apply fI.u rfl;(·intro K' a wy ho hd hb hK;simp[aU,aG,aD,Region.binds]at ho hd;obtain⟨hq,h0,h1⟩:=HCP.out wy hb;have kC:=hq.c7;have kC:=h0.c3;have m0:=h1.cell (j:=0) rfl;go_simp;first|((try go_bits);exact hK _ _ rfl bQ)|(refine(HF.out wy).mono ?_;rintro e wz ⟨rfl,hz⟩;exact hK _ _ rfl hz));dsimp only[nA,cA])
    (apply fI.u rfl;(·intro K' a wy ho hd hb hK;simp[aU,aG,aD,Region.binds]at ho hd;have hfl:=HFL.out wy;go_simp;(try go_bits);exact hK _ _ rfl bQ);dsimp only[nA,cA])
    (apply fI.u rfl;(·intro K' a wy ho hd hb hK;simp[aU,aG,aD,Region.binds]at ho hd;obtain⟨hq,h0,h1⟩:=HCP.out wy hb;have kC:=hq.c7;have kC:=h0.c3;have m0:=h1.cell (j:=0) rfl;go_simp;(try go_bits);exact hK _ _ rfl bQ);dsimp only[nA,cA])
    apply fI.v4
    ·rfl
    ·intro K' a wy ho hd hb hK kz;have q2:=hd ⟨2,.data⟩ (by simp) rfl;have q3:=hd ⟨3,.data⟩ (by simp) rfl;simp[aU,aG,aD]at q2 q3;clear hd ho;refine iU .eql 86 86 (.tmp 7) (.tmp 8) rfl (by simp[Act.eval,aD,q2]) (by simp[Act.eval,aD,q3]) (run_eqGuard_agg _ _ _ _ _ _ _ (by kernel_rfl)) (HE.out wy) ?_;exact kz _ rfl
    iterate 7 ((first|apply fI.u rfl|apply fI.g rfl rfl rfl rfl rfl (by simp));(·intro K' a wy ho hd hb hK;simp[aU,aG,aD,Region.binds]at ho hd;obtain⟨hq,h0,h1⟩:=HCP.out wy hb;have kC:=hq.c7;have kC:=h0.c3;have m0:=h1.cell (j:=0) rfl;go_simp;(try go_bits);exact hK _ _ rfl bQ);dsimp only[nA,cA])
    intro X wz hR hz;simp only[UM,UN,eY,aG]at hR;simp only[aE,hR];clear hR;go_simp;try go_bits
    refine hK2 _ _ (hJ _ _ ?_);(repeat apply Exists.intro)
    refine⟨⟨by rw[HX.out],HZ.out.drew.trans (hz.mono HZ.out.size)⟩,rfl⟩
   case neg=>
    have hs2:(q.peer.toList==s.toList)=false:=by simp[hs]
    rw[UD hs]at HX;clear hs;refine bJ [5,6,7,8,9,10,11,12,13,14,15,4] (by kernel_rfl) (by kernel_rfl) ?_;iterate 2 (apply fI.u rfl;(·intro K' a wy ho hd hb hK;simp[aU,aG,aD,Region.binds]at ho hd;obtain⟨hq,h0,h1⟩:=HCP.out wy hb;have kC:=hq.c7;have kC:=h0.c3;have m0:=h1.cell (j:=0) rfl;go_simp;first|((try go_bits);exact hK _ _ rfl bQ)|(refine(HF.out wy).mono ?_;rintro e wz ⟨rfl,hz⟩;exact hK _ _ rfl hz));dsimp only[nA,cA])
    (apply fI.u rfl;(·intro K' a wy ho hd hb hK;simp[aU,aG,aD,Region.binds]at ho hd;have hfl:=HFL.out wy;go_simp;(try go_bits);exact hK _ _ rfl bQ);dsimp only[nA,cA])
    (apply fI.u rfl;(·intro K' a wy ho hd hb hK;simp[aU,aG,aD,Region.binds]at ho hd;obtain⟨hq,h0,h1⟩:=HCP.out wy hb;have kC:=hq.c7;have kC:=h0.c3;have m0:=h1.cell (j:=0) rfl;go_simp;(try go_bits);exact hK _ _ rfl bQ);dsimp only[nA,cA])
    apply fI.v4
    ·rfl
    ·intro K' a wy ho hd hb hK kz;have q2:=hd ⟨2,.data⟩ (by simp) rfl;have q3:=hd ⟨3,.data⟩ (by simp) rfl;simp[aU,aG,aD]at q2 q3;clear hd ho;refine iU .eql 86 86 (.tmp 7) (.tmp 8) rfl (by simp[Act.eval,aD,q2]) (by simp[Act.eval,aD,q3]) (run_eqGuard_agg _ _ _ _ _ _ _ (by kernel_rfl)) (HE.out wy) ?_;exact kz _ rfl
    iterate 7 ((first|apply fI.u rfl|apply fI.g rfl rfl rfl rfl rfl (by simp));(·intro K' a wy ho hd hb hK;simp[aU,aG,aD,Region.binds]at ho hd;obtain⟨hq,h0,h1⟩:=HCP.out wy hb;have kC:=hq.c7;have kC:=h0.c3;have m0:=h1.cell (j:=0) rfl;go_simp;(try go_bits);exact hK _ _ rfl bQ);dsimp only[nA,cA])
    intro X wz hR hz;simp only[UM,UN,eY,aG]at hR;simp only[aE,hR];clear hR;go_simp;try go_bits
    refine hK2 _ _ (hJ _ _ ?_);(repeat apply Exists.intro)
    refine⟨⟨by rw[HX.out],HZ.out.drew.trans (hz.mono HZ.out.size)⟩,rfl⟩
 case rest=>
  obtain⟨rfl,hb⟩:=hcut;have HB:Hid (Below w.heap.size w wc):=hb;clear hb;go_wp2_with fail
  go_ret;exact⟨rfl,HB.out⟩
theorem FJ(pa:OA)(pc:Nat)(p:Pl)(ba bo:OA)(ca cb:Nat)(x:Bb)(m1 m2:Nat)(h:En)(s:BA)(w:World)(hl2:x.VK.length≤1048576)(hx:dC w ba bo x) :
  Cb 140 #[CO pa pc p ba bo ca cb x m1 m2,pG h,.string s] w (.bool (lA p x h s)):=by
 have HC:Hid (∀W B1 B2,Below w.heap.size w W→aA W B1 (xW h)→aA W B2 [.string s]→Cb 168 #[.slice bo x.VK.length cb,.func (.func 169) #[] #[.pointer (some ⟨B1,0,none⟩),.pointer (some ⟨B2,0,none⟩)]] W (.bool (x.VK.any (wJ h s)))):=fun W B1 B2 hW h1 h2=>uB (wJ h s) 169 (fun args W=>by kernel_rfl) #[.pointer (some ⟨B1,0,none⟩),.pointer (some ⟨B2,0,none⟩)] x.VK bo cb W hl2 (hx.ss.below hW) (fun W' hW' q hq=>CH q h s B1 B2 W' (h1.kept (by simp[xW]) hW') (h2.kept (by simp) hW'))
 have HV:Hid (lA p x h s=if p.filter=0 then true else if p.filter=1 then x.VK.any (wJ h s) else false):=rfl;generalize lA p x h s=ans at *;generalize x.VK.any (wJ h s)=an at *;clear hx;have HS0:=RL w (iM pa pc p ba ca bo cb x m1 m2) 139 (gT h.VF h.addr h.port) 86 [.string s] 9 (by simp) (by simp) (by simp)
 skip;unfold CO pG;go_enter Tryz.func140,Tryz.ntmps140
 go_upto_region 1 with fail
 generalize World.alloc _ _=W at *;have HHk:=HS0.out.at cM;obtain⟨k0,k1,k2,k3,k4,k5,k6,k7,k8,k9,k10,k11,k12,k13⟩:=HHk.c14;clear HHk;by_cases h0:p.filter=0
 case pos=>
  have d0:(p.filter==0)=true:=by simp[h0]
  have HX:Hid (ans=true):=by unfold Hid;rw[HV.out,if_pos h0]
  clear h0 HV;go_wp2_with fail
  go_ret;exact⟨aC HX.out.symm,HS0.out.b⟩
 have d0:(p.filter==0)=false:=by simp[h0]
 by_cases h1:p.filter=1
 case neg=>
  have d1:(p.filter==1)=false:=by simp[h1]
  have HX:Hid (ans=false):=by unfold Hid;rw[HV.out,if_neg h0,if_neg h1]
  clear h0 h1 HV;go_wp2_with fail
  go_ret;exact⟨aC HX.out.symm,HS0.out.b⟩
 have d1:(p.filter==1)=true:=by simp[h1]
 have HX:Hid (ans=an):=by unfold Hid;rw[HV.out,if_neg h0,if_pos h1]
 clear h0 h1 HV;go_wp2_with fail
 refine(HC.out _ _ _ HS0.out.b (HS0.out.k _ dZ) (HS0.out.k _ eL)).mono ?_;rintro e W1 ⟨rfl,q1⟩;have B1:Hid (Below w.heap.size w W1):=HS0.out.b.trans (q1.mono HS0.out.b.size);clear q1 HS0;go_wp2_with fail
 go_ret;exact⟨aC HX.out.symm,B1.out⟩
theorem rB(x:Bb)(ba bo:OA)(ca cb:Nat)(w:World)(hbl1:x.VN.length≤1048576)(hbl2:x.VK.length≤1048576)(hgb:∀q∈x.VN,fG q)(hgs:∀s∈x.VK,iI s)(hx:dC w ba bo x) :
  Calls Tryz.prog 109 #[gP ba bo ca cb x] w fun e w'=>oE w.heap.size x e w'∧Below w.heap.size w w':=by
 have HSX:Hid (dC w ba bo x):=hx;have HGB:Hid (∀q∈x.VN,fG q):=hgb;have HGS:Hid (∀s∈x.VK,iI s):=hgs;have hRw:w.heap.size≤w.heap.size+1:=by omega
 clear hx hgb hgs;have HS0:=SL w (aX ba ca bo cb x) 31 [.slice none 0 0,.slice none 0 0] 31 (by simp) (by simp)
 skip;have hun:undef=Value.tuple #[]:=rfl;unfold gP;go_enter Tryz.func109,Tryz.ntmps109
 go_upto_region 1 with fail
 generalize World.alloc _ _=W at *;have hlt1:w.heap.size+1 < W.heap.size:=(HS0.out.lts _ dZ).1;go_upto_region 2 with fail
 have HS1:Hid (iB w (W.alloc (.cells #[.slice none 0 0,.slice none 0 0] 31)).heap.size W.heap.size [(w.heap.size,(aX ba ca bo cb x)),(w.heap.size+1,[.slice none 0 0,.slice none 0 0])] (.slice none 0 0) (.slice none 0 0) [] [] (W.alloc (.cells #[.slice none 0 0,.slice none 0 0] 31))):=by
  have bn:Below W.heap.size W (W.alloc (.cells #[.slice none 0 0,.slice none 0 0] 31)):=bR.alloc lR _;have hn:=aA.new W [.slice none 0 0,.slice none 0 0] 31;refine iB.start [(w.heap.size,(aX ba ca bo cb x)),(w.heap.size+1,[.slice none 0 0,.slice none 0 0])] hn (HS0.out.kept bn).b (HS0.out.kept bn).k (by omega) (fun e he=>?_);simp only[UH,UG,or_false]at he;rcases he with rfl|rfl
  ·refine⟨by simp;omega,by show w.heap.size≠_;omega,by simp⟩
  ·refine⟨by simp;omega,by show w.heap.size+1≠_;omega,by simp⟩
 clear HS0;generalize (W.alloc (.cells #[.slice none 0 0,.slice none 0 0] 31))=W3 at *;generalize W3.heap.size=base at *;have hO:w.heap.size+1 < W.heap.size:=hlt1;clear hlt1;generalize W.heap.size=O at *;have c0:W3.cell? ⟨w.heap.size,0,none⟩=some (.slice ba x.VN.length ca):=(show aA W3 w.heap.size (aX ba ca bo cb x) from HS1.out.k _ (List.mem_cons_self ..)).cell rfl;go_wp2_with fail
 clear c0;go_loopw [11] (fun iv wr=>∃(i:Nat) (v:Value),i≤x.VN.length∧iv=iV i∧iB w base O [(w.heap.size,(aX ba ca bo cb x)),(w.heap.size+1,[.slice none 0 0,.slice none 0 0])] v (.slice none 0 0) (x.VN.take i) ([]) wr) (fun iv _=>x.VN.length-(intOf iv).toNat)
 case atStart=>exact⟨0,_,VC _,rfl,HS1.out⟩
 case round=>
  obtain⟨i,v,hi,rfl,hS⟩:=hrel;have S1:Hid _:=hS;clear hS HS1;generalize wr=w4 at *;by_cases hlt:i < x.VN.length
  case pos=>
   obtain⟨bb,off,rfl,hb,hat⟩:=HSX.out.bd.at hlt;have hA:=(hat.below hb S1.out.b) i hlt;have HTK:Hid (x.VN.take (i+1)=x.VN.take i++[x.VN[i]]):=List.take_succ_eq_append_getElem hlt;have hfl:(x.VN.take i).length≤1048576:=by rw[List.length_take];omega
   have hgd:=HGB.out x.VN[i] (UJ hlt);obtain⟨q,hq⟩: ∃q,q=x.VN[i]:=⟨_,rfl⟩;rw[←hq]at hA HTK hgd;have HGD:Hid (fG q):=hgd;have hltI:(i:Int) < (x.VN.length:Int):=by omega
   obtain⟨s0,s1,s2,s3,s4⟩:=LH hA;generalize x.VN.take i=zs at *;clear hA hat hq hgd hb;go_upto_region 5 with fail
   have bn:Below w4.heap.size w4 (w4.alloc (.cells (cZ q).toArray 48)):=bR.alloc lR _;have HQ:Hid (aA (w4.alloc (.cells (cZ q).toArray 48)) w4.heap.size (cZ q)):=aA.new w4 (cZ q) 48;have S2:Hid _:=S1.out.kept bn;generalize (w4.alloc (.cells (cZ q).toArray 48))=W5 at *;clear bn S1 s0 s1 s2 s3 s4;generalize w4.heap.size=Bq at *;have HCY:Hid (∀W,Cb 82 #[.agg (cZ q).toArray] W (.agg (cZ q).toArray)):=fun W=>kR q W HGD.out.1 HGD.out.2.1
   have HCP:Hid (∀wy,Below W5.drew.heap.size W5.drew wy→iB w base O [(w.heap.size,(aX (some ⟨bb,off,none⟩) ca bo cb x)),(w.heap.size+1,[.slice none 0 0,.slice none 0 0])] v (.slice none 0 0) (zs) ([]) wy∧aA wy Bq (cZ q)):=fun wy hy=>⟨S2.out.kept (bR.drew.trans hy),HQ.out.drew.kept (by simp) hy⟩
   clear hun;refine aN [15,16,17,18,19] (by kernel_rfl) (by kernel_rfl) ?_;iterate 4 (apply bC.u rfl;(·intro K' a wy ho hd hb hK;simp[aU,aG,aD,Region.binds]at ho hd;obtain⟨hst,hqq⟩:=HCP.out wy hb;have ko:wy.cell? ⟨O,0,none⟩=some v:=hst.o.cell rfl;have kC:=hqq.c5;go_simp;first|((try go_bits);exact hK _ _ rfl bQ)|(refine(HCY.out wy).mono ?_;rintro e wz ⟨rfl,hz⟩;exact hK _ _ rfl hz));dsimp only[nA,cA])
   refine bC.rel (n:=4) (jE (dP q)) (gD _ (by simp[dP])) [_,_,_,_,jE (dP q)] rfl rfl ?_ ?_
   ·intro K' a wy ho hd hb hK;rw[wN rfl];have q3:=hd ⟨3,.data⟩ (by simp) rfl;simp[aU,aG,aD]at q3;clear hd ho;go_simp;exact hK _ _ ⟨wy.heap.size,rfl,aA.new wy (dP q) _⟩ (bR.alloc lR _)
   intro X wz hR hz;obtain⟨x0,x1,x2,x3,x4,-⟩:=hR;simp only[aG]at x0 x1 x2 x3;simp only[aE,x0,x1,x2,x3,aE];clear x0 x1 x2 x3;obtain⟨g7,e7,r7⟩:=x4;have SZ:=(HCP.out wz hz).1;obtain⟨v6,w6,hrun,⟨gg,l6,c6,rfl⟩,hO6,S6⟩:=SZ.appB q g7 r7 hfl;have HRUN:Hid _:=hrun;have HS6:Hid _:=S6;have p1:w6.cell? ⟨O,0,none⟩=some v:=hO6.cell rfl;have p2:=hO6.free (j:=0) (by simp);clear hrun S6 hO6 SZ r7 hz HCP;simp only[e7];simp only[List.length_cons,List.length_nil,List.drop_succ_cons,List.drop_zero,UI,Nat.reduceAdd];intro K5 hK5;with_reducible refine dI (.tmp 16) (.tmp 19) _ rfl ?_ ?_ HRUN.out (hK5 _ _ ?_)
   ·simp[Act.eval,Act.put]
   ·simp[Act.eval,Act.put]
   intro K6 hK6;go_simp;refine hK6 _ _ ?_;intro K7 hK7;go_simp;refine hK7 _ _ ?_;simp only[fN];go_wp2_with fail
   go_roundw
   case rel=>
    first | exact⟨i+1,_,by omega,by go_num,by rw[HTK.out];exact HS6.out⟩ | ((repeat apply Exists.intro);exact⟨⟨i+1,_,by omega,by go_num,by rw[HTK.out];exact HS6.out⟩,rfl⟩)
   case measure=>simp[intOf]<;>omega
  case neg=>
   have hie:i=x.VN.length:=by omega
   rw[hie,List.take_length]at S1;have hge:¬(i:Int) < (x.VN.length:Int):=by omega
   clear hie hlt;obtain⟨sa,sc,hsv,hsc,hso⟩:=S1.out.shapes.1;subst hsv;clear hsc hso;have c1:w4.cell? ⟨w.heap.size,1,none⟩=some (.slice bo x.VK.length cb):=(show aA w4 w.heap.size (aX ba ca bo cb x) from S1.out.k _ (List.mem_cons_self ..)).cell rfl;go_wp2_with fail
   clear c1 hge;have S9:Hid _:=S1.out;clear S1;generalize w4=V4 at *;go_loopw [26] (fun iv wr=>∃(i:Nat) (v:Value),i≤x.VK.length∧iv=iV i∧iB w base O [(w.heap.size,(aX ba ca bo cb x)),(w.heap.size+1,[.slice none 0 0,.slice none 0 0])] (.slice sa x.VN.length sc) v (x.VN) (x.VK.take i) wr) (fun iv _=>x.VK.length-(intOf iv).toNat)
   case atStart=>exact⟨0,_,VC _,rfl,S9.out⟩
   case round=>
    obtain⟨i,v,hi,rfl,hS⟩:=hrel;have S1:Hid _:=hS;clear hS S9;generalize wr=w4 at *;by_cases hlt:i < x.VK.length
    case pos=>
     obtain⟨bb,off,rfl,hb,hat⟩:=HSX.out.ss.at hlt;have hA:=(hat.below hb S1.out.b) i hlt;have HTK:Hid (x.VK.take (i+1)=x.VK.take i++[x.VK[i]]):=List.take_succ_eq_append_getElem hlt;have hfl:(x.VK.take i).length≤1048576:=by rw[List.length_take];omega
     have hgd:=HGS.out x.VK[i] (UJ hlt);obtain⟨q,hq⟩: ∃q,q=x.VK[i]:=⟨_,rfl⟩;rw[←hq]at hA HTK hgd;have HGD:Hid (iI q):=hgd;have hltI:(i:Int) < (x.VK.length:Int):=by omega
     obtain⟨s0,s1,s2,s3,s4,s5,s6⟩:=NE hA;generalize x.VK.take i=zs at *;clear hA hat hq hgd hb;go_upto_region 10 with fail
     have bn:Below w4.heap.size w4 (w4.alloc (.cells (iE q).toArray 59)):=bR.alloc lR _;have HQ:Hid (aA (w4.alloc (.cells (iE q).toArray 59)) w4.heap.size (iE q)):=aA.new w4 (iE q) 59;have S2:Hid _:=S1.out.kept bn;generalize (w4.alloc (.cells (iE q).toArray 59))=W5 at *;clear bn S1 s0 s1 s2 s3 s4 s5 s6;generalize w4.heap.size=Bq at *;have HCY:Hid (∀W,Cb 142 #[.agg (iE q).toArray] W (.agg (iE q).toArray)):=fun W=>oZ q W HGD.out.1 HGD.out.2.1
     have HCP:Hid (∀wy,Below W5.drew.heap.size W5.drew wy→iB w base O [(w.heap.size,(aX ba ca (some ⟨bb,off,none⟩) cb x)),(w.heap.size+1,[.slice none 0 0,.slice none 0 0])] (.slice sa x.VN.length sc) v (x.VN) (zs) wy∧aA wy Bq (iE q)):=fun wy hy=>⟨S2.out.kept (bR.drew.trans hy),HQ.out.drew.kept (by simp) hy⟩
     clear hun;refine aN [30,31,32,33,34] (by kernel_rfl) (by kernel_rfl) ?_;iterate 4 (apply bC.u rfl;(·intro K' a wy ho hd hb hK;simp[aU,aG,aD,Region.binds]at ho hd;obtain⟨hst,hqq⟩:=HCP.out wy hb;have ko:wy.cell? ⟨O,1,none⟩=some v:=hst.o.cell rfl;have kC:=hqq.c7;go_simp;first|((try go_bits);exact hK _ _ rfl bQ)|(refine(HCY.out wy).mono ?_;rintro e wz ⟨rfl,hz⟩;exact hK _ _ rfl hz));dsimp only[nA,cA])
     refine bC.rel (n:=4) (jE (fZ q)) (gD _ (by simp[fZ])) [_,_,_,_,jE (fZ q)] rfl rfl ?_ ?_
     ·intro K' a wy ho hd hb hK;rw[wN rfl];have q3:=hd ⟨3,.data⟩ (by simp) rfl;simp[aU,aG,aD]at q3;clear hd ho;go_simp;exact hK _ _ ⟨wy.heap.size,rfl,aA.new wy (fZ q) _⟩ (bR.alloc lR _)
     intro X wz hR hz;obtain⟨x0,x1,x2,x3,x4,-⟩:=hR;simp only[aG]at x0 x1 x2 x3;simp only[aE,x0,x1,x2,x3,aE];clear x0 x1 x2 x3;obtain⟨g7,e7,r7⟩:=x4;have SZ:=(HCP.out wz hz).1;obtain⟨v6,w6,hrun,⟨gg,l6,c6,rfl⟩,hO6,S6⟩:=SZ.appS q g7 r7 hfl;have HRUN:Hid _:=hrun;have HS6:Hid _:=S6;have p1:w6.cell? ⟨O,1,none⟩=some v:=hO6.cell rfl;have p2:=hO6.free (j:=1) (by simp);clear hrun S6 hO6 SZ r7 hz HCP;simp only[e7];simp only[List.length_cons,List.length_nil,List.drop_succ_cons,List.drop_zero,UI,Nat.reduceAdd];intro K5 hK5;with_reducible refine dI (.tmp 31) (.tmp 34) _ rfl ?_ ?_ HRUN.out (hK5 _ _ ?_)
     ·simp[Act.eval,Act.put]
     ·simp[Act.eval,Act.put]
     intro K6 hK6;go_simp;refine hK6 _ _ ?_;intro K7 hK7;go_simp;refine hK7 _ _ ?_;simp only[fN];go_wp2_with fail
     go_roundw
     case rel=>
      first | exact⟨i+1,_,by omega,by go_num,by rw[HTK.out];exact HS6.out⟩ | ((repeat apply Exists.intro);exact⟨⟨i+1,_,by omega,by go_num,by rw[HTK.out];exact HS6.out⟩,rfl⟩)
     case measure=>simp[intOf]<;>omega
    case neg=>
     have hie:i=x.VK.length:=by omega
     rw[hie,List.take_length]at S1;have hge:¬(i:Int) < (x.VK.length:Int):=by omega
     clear hie hlt;obtain⟨sb,cs1,hsv,_,_⟩:=S1.out.shapes.2;subst hsv;have HHz:=S1.out.at dZ;obtain⟨z0,z1⟩:=HHz.c2;obtain⟨zf0,zf1⟩:=HHz.f2;have HRR:Hid (aA ((sW w4 (w.heap.size+1) 0 (.slice sa x.VN.length sc)).setCell ⟨w.heap.size+1,1,none⟩ (.slice sb x.VK.length cs1)) (w.heap.size+1) (aX sa sc sb cs1 x)):=(HHz.set 0 (.slice sa x.VN.length sc)).set 1 (.slice sb x.VK.length cs1);have RB:Hid (Below w.heap.size w ((sW w4 (w.heap.size+1) 0 (.slice sa x.VN.length sc)).setCell ⟨w.heap.size+1,1,none⟩ (.slice sb x.VK.length cs1))):=(sCl S1.out.b hRw).setCell (p:=⟨w.heap.size+1,1,none⟩) hRw _;have hkb:w.heap.size+1 < base:=(S1.out.kb _ dZ).1;have hwb:w.heap.size≤base:=by omega
     have O1:Hid (World.ownsRow ((sW w4 (w.heap.size+1) 0 (.slice sa x.VN.length sc)).setCell ⟨w.heap.size+1,1,none⟩ (.slice sb x.VK.length cs1)) w.heap.size 48 5 (.slice sa x.VN.length sc) x.VN.length (dL dP x.VN)):=vQ (cG (cG S1.out.bo (dX S1.out.bo hkb)) (dX S1.out.bo hkb)) hwb;have O2:Hid (World.ownsRow ((sW w4 (w.heap.size+1) 0 (.slice sa x.VN.length sc)).setCell ⟨w.heap.size+1,1,none⟩ (.slice sb x.VK.length cs1)) w.heap.size 59 7 (.slice sb x.VK.length cs1) x.VK.length (dL fZ x.VK)):=vQ (cG (cG S1.out.so (dX S1.out.so hkb)) (dX S1.out.so hkb)) hwb;obtain⟨p0,p1⟩:=S1.out.o.c2;clear HHz S1;go_wp2_with fail
     exact VB (aF Tryz.results109 _ _ _ _ _ rfl HRR.out Tryz.underlying31 rfl (show (Tryz.prog.info? 31).map (·.size)=some 2 by kernel_rfl)) rfl (And.intro ⟨_,_,rfl,O1.out,O2.out⟩ RB.out)
end Go.Proofs.YtdkepkaflielhaaGreatDoor
