import Derived.Test.YtdkepkaflielhaaGreatDoorMerged26
import Derived.Lib.AppendStr
import Derived.Laws.IdiomCopy
import Derived.Deep.OwnRows
import Derived.Lib.BufferWrite
set_option linter.unusedVariables false
set_option linter.unusedSimpArgs false
set_option maxRecDepth 100000
set_option maxHeartbeats 8000000
namespace Go.Proofs.YtdkepkaflielhaaGreatDoor
open Go.RowKit Go.PlainAid
theorem EM{f:Nat→Int}(K:Nat):∀m,∃z,gI f (K+m)=gI f K+gI (fun i=>f (2*K+i)) m+65535*z
 | 0=>⟨0,by simp[gI]⟩
 | m+1=>by
  obtain⟨z,e⟩:=EM (f:=f) K m;obtain⟨z1,e1⟩:=lK (gI f (K+m)) (aL f (2*(K+m)));obtain⟨z2,e2⟩:=lK (gI (fun i=>f (2*K+i)) m) (aL (fun i=>f (2*K+i)) (2*m));have ew:aL (fun i=>f (2*K+i)) (2*m)=aL f (2*(K+m)):=by
   unfold aL;show f (2*K+2*m)*256+f (2*K+(2*m+1))=_;rw[show 2*K+2*m=2*(K+m) by omega,show 2*K+(2*m+1)=2*(K+m)+1 by omega]
  refine⟨z+z1-z2,?_⟩;show gC (gI f (K+m)) (aL f (2*(K+m)))=gI f K+gC (gI (fun i=>f (2*K+i)) m) (aL (fun i=>f (2*K+i)) (2*m))+65535*(z+z1-z2);rw[ew]at e2 ⊢;rw[e1,e2,e];omega
theorem nX{a b:BA}{K:Nat}(ha:a.size=2*K):∃z,bI (a++b)=bI a+bI b+65535*z:=by
 obtain⟨z,e⟩:=EM (f:=bt (a++b)) K ((b.size+1) / 2);have e1:bI (a++b)=gI (bt (a++b)) (K+(b.size+1) / 2):=by unfold bI;rw[UF,ha,show (2*K+b.size+1) / 2=K+(b.size+1) / 2 by omega]
 have e2:gI (bt (a++b)) K=bI a:=by
  unfold bI;rw[ha,show (2*K+1) / 2=K by omega];exact oR K (fun i hi=>by rw[dR,if_pos (by omega)])
 have e3:gI (fun i=>bt (a++b) (2*K+i)) ((b.size+1) / 2)=bI b:=by
  unfold bI;refine oR _ (fun i hi=>?_);show bt (a++b) (2*K+i)=bt b i;rw[dR,if_neg (by omega),ha,show 2*K+i-2*K=i by omega]
 exact⟨z,by rw[e1,e,e2,e3]⟩
def eA(c o n:Int):Int:=65535-gC (gC (65535-c) (65535-o)) n
theorem lQ{c o n:Int}(hc:0≤c∧c≤65535)(ho:0≤o∧o≤65535)(hn:0≤n∧n≤65535):0≤eA c o n∧eA c o n≤65535:=by
 unfold eA;have h1:=iN (a:=65535-c) (b:=65535-o) (by omega) (by omega) (by omega) (by omega);have h2:=iN h1.1 h1.2 hn.1 hn.2;omega
theorem qS(c o n:Int):∃z,eA c o n=c+o-n+65535*z:=by
 unfold eA;obtain⟨z1,e1⟩:=lK (65535-c) (65535-o);obtain⟨z2,e2⟩:=lK (gC (65535-c) (65535-o)) n;exact⟨-1-z1-z2,by rw[e2,e1];omega⟩
theorem NM{c o n:Int}(hc:0≤c∧c≤65535)(ho:0≤o∧o≤65535)(hn:0≤n∧n≤65535):lO c o n=eA c o n:=by
 unfold lO eA;rw[if_pos ⟨hc,ho,hn⟩]
def aZ(p:Int)(t:BA):BA:=if aJ p=true then t.extract 0 2++t.extract 4 6 else t.extract 0 4
theorem iA(p:Int){t:BA}(h:8≤t.size):(aZ p t).size=4:=by
 unfold aZ;split
 ·rw[UF,UG,UG];omega
 ·rw[UG];omega
def vM(f g:Fl)(t u:BA):Int :=
 let c:=eA (eA (aL (bt t) (aY f.UU)) (bI (aZ f.UU t)) (bI (aZ g.UU u))) (bI (aO f.src f.dst f.UU t.size)) (bI (aO g.src g.dst g.UU u.size))
 if c=0 then 65535 else c
theorem JP(f g:Fl)(t:BA)(h8:8≤t.size)(h8':8≤(bJ f g t).size):vM f g t (bJ f g t)=cL f g t:=by
 unfold vM cL;obtain⟨z1,e1⟩:=nX (a:=aZ f.UU t) (b:=aO f.src f.dst f.UU t.size) (K:=2) (iA _ h8);obtain⟨z2,e2⟩:=nX (a:=aZ g.UU (bJ f g t)) (b:=aO g.src g.dst g.UU (bJ f g t).size) (K:=2) (iA _ h8');have p1:eL f t=aZ f.UU t++aO f.src f.dst f.UU t.size:=rfl;have p2:eL g (bJ f g t)=aZ g.UU (bJ f g t)++aO g.src g.dst g.UU (bJ f g t).size:=rfl;rw[p1,p2];have rc:=cN (bD t) (aY f.UU);have r1:=cV (aZ f.UU t);have r2:=cV (aZ g.UU (bJ f g t));have r3:=cV (aO f.src f.dst f.UU t.size);have r4:=cV (aO g.src g.dst g.UU (bJ f g t).size);have r5:=cV (aZ f.UU t++aO f.src f.dst f.UU t.size);have r6:=cV (aZ g.UU (bJ f g t)++aO g.src g.dst g.UU (bJ f g t).size);generalize bI (aZ f.UU t++aO f.src f.dst f.UU t.size)=o at *;generalize bI (aZ g.UU (bJ f g t)++aO g.src g.dst g.UU (bJ f g t).size)=n at *;generalize bI (aZ f.UU t)=o1 at *;generalize bI (aZ g.UU (bJ f g t))=n1 at *;generalize bI (aO f.src f.dst f.UU t.size)=o2 at *;generalize bI (aO g.src g.dst g.UU (bJ f g t).size)=n2 at *;generalize aL (bt t) (aY f.UU)=c at *;have q1:=lQ rc r1 r2;have q2:=lQ q1 r3 r4;have q3:=lQ rc r5 r6;obtain⟨y1,d1⟩:=qS c o1 n1;obtain⟨y2,d2⟩:=qS (eA c o1 n1) o2 n2;obtain⟨y3,d3⟩:=qS c o n;show (if eA (eA c o1 n1) o2 n2=0 then (65535:Int) else eA (eA c o1 n1) o2 n2)=if eA c o n=0 then 65535 else eA c o n;generalize eA (eA c o1 n1) o2 n2=a at *;generalize eA c o1 n1=b at *;generalize eA c o n=e at *;split<;>split<;>omega
theorem pR(f g:Fl)(t:BA):0≤cL f g t∧cL f g t≤65535:=by
 unfold cL;have rc:=cN (bD t) (aY f.UU);have r1:=cV (eL f t);have r2:=cV (eL g (bJ f g t));have q:=lQ rc r1 r2;unfold eA at q;dsimp only;split<;>omega
theorem kM{t u:BA}{k:Nat}(h:k+u.size≤t.size)(i:Nat):bt (dW t k u) i=if i < k then bt t i else if i < k+u.size then bt u (i-k) else bt t i:=by
 unfold dW;have s1:(t.extract 0 k).size=k:=by rw[UG];omega
 rw[dR,dR,UF,s1];by_cases h1:i < k
 ·rw[if_pos (by omega),if_pos h1,if_pos h1,fA _ _ _ _ (by omega),if_pos (by omega),TX]
 ·by_cases h2:i < k+u.size
  ·rw[if_pos h2,if_neg h1,if_neg h1,if_pos h2]
  ·rw[if_neg h2,if_neg h1,if_neg h2,fA _ _ _ _ lR];by_cases h3:i < t.size
   ·rw[if_pos (by omega),show k+u.size+(i-(k+u.size))=i by omega]
   ·rw[if_neg (by omega)];unfold bt;rw[dif_neg (by omega)]
def MF(p:Int)(g:Fl)(t:BA):BA :=
 if aJ g.UU=true then dW (dW t 4 (aQ g.sp)) 0 (lL (if bt t 0=iH p then iH g.UU else jV g.UU)) else dW t 0 (aQ g.sp++aQ g.dp)
theorem lE(x:Int):(lL x).size=1:=rfl
theorem MW{t u v:BA}(hu:u.size=2)(hv:v.size=1)(ht:8≤t.size):dW (dW t 4 u) 0 v=dW (dW t 0 v) 4 u:=by
 have s1:=eQ (t:=t) (u:=u) (k:=4) (by omega);have s2:=eQ (t:=t) (u:=v) (k:=0) (by omega);refine FJ ?_ (fun i hi=>?_)
 ·have a1:=eQ (t:=dW t 4 u) (u:=v) (k:=0) (by omega);have a2:=eQ (t:=dW t 0 v) (u:=u) (k:=4) (by omega);omega
 ·rw[kM (by omega),kM (by omega),kM (by omega),kM (by omega),hu,hv];(repeat' split)<;>first | rfl | (exfalso;omega)
theorem FU{f g:Fl}{t:BA}(hf:aJ f.UU=true)(hg:aJ g.UU=true)(hb:bt t 0=iH f.UU∨bt t 0=jV f.UU):(if bt t 0=iH f.UU then iH g.UU else jV g.UU)=lI f g t:=by
 unfold aJ at hf hg;simp only[UK,TU]at hf hg;unfold lI;rcases hf with hf|hf<;>rcases hg with hg|hg<;>rw[hf]at hb ⊢<;>rw[hg]<;>rcases hb with hb|hb<;>rw[hb]<;>decide
theorem uK{f g:Fl}{t:BA}(h:iJ f g t=true):cF f=true∧cF g=true∧(f.UU=g.UU∨aJ f.UU=true∧aJ g.UU=true)∧aU f.src.size f.UU t=0:=by
 unfold iJ at h;simp only[TP,TU,UK]at h;exact⟨h.1.1.1.1.1,h.1.1.1.1.2,h.1.1.1.2,h.1.1.2⟩
theorem JM{n:Nat}{p:Int}{t:BA}(h:aU n p t=0)(he:aJ p=true):bt t 0=iH p∨bt t 0=jV p:=by
 unfold aU at h;by_cases h1:cB p n=false
 ·rw[if_pos h1]at h;simp at h
 rw[if_neg h1]at h;by_cases h2:gA p t=true
 ·rw[if_pos h2]at h;simp at h
 rw[if_neg h2,if_pos he]at h;by_cases h3:(bt t 0≠iH p∧bt t 0≠jV p)∨bt t 1≠0
 ·rw[if_pos h3]at h;simp at h
 ·by_cases h4:bt t 0=iH p
  ·exact .inl h4
  ·refine .inr (Classical.byContradiction fun h5=>h3 (.inl ⟨h4,h5⟩))
theorem OP{f g:Fl}{t:BA}(h:iJ f g t=true):MF f.UU g t=bJ f g t:=by
 obtain⟨h1,h2,h3,h4⟩:=uK h;have h8:=(gR h4).1;have he:aJ g.UU=aJ f.UU:=by
  rcases h3 with h3|h3
  ·rw[h3]
  ·rw[h3.1,h3.2]
 unfold MF bJ;rw[he];by_cases hf:aJ f.UU=true
 ·rw[if_pos hf,if_pos hf,FU hf (he.trans hf) (JM h4 hf)];exact MW (aP _) (lE _) h8
 ·rw[if_neg hf,if_neg hf]
theorem kF{f g:Fl}{t:BA}(h8:8≤t.size):(bJ f g t).size=t.size:=by
 unfold bJ;split
 ·rw[eQ,eQ]
  ·rw[lE];omega
  ·rw[eQ,aP]
   ·omega
   ·rw[lE];omega
 ·rw[eQ];rw[UF,aP,aP];omega
theorem GY{f g:Fl}{t:BA}(ht:t.size≤20000):iJ f g t=((decide (aX f.src f.dst f.UU t=0)&&fU (bK f.src f.dst f.UU t) f)&&(cF g&&(decide (f.UU=g.UU)||(aJ f.UU&&aJ g.UU)))):=by
 unfold iJ;by_cases hc:aX f.src f.dst f.UU t=0
 ·have hfo:bK f.src f.dst f.UU t=aR f.src f.dst f.UU t:=by unfold bK;rw[if_pos hc]
  rw[TT hc,hfo,uI];have hc2:=hc;unfold aX at hc2;by_cases h1:20000 < t.size∨20000 < f.src.size∨20000 < f.dst.size
  ·rw[if_pos h1]at hc2;simp at hc2
  rw[if_neg h1]at hc2;by_cases h2:dV f.src f.dst=false
  ·rw[if_pos h2]at hc2;simp at hc2
  rw[if_neg h2]at hc2;have h2':dV f.src f.dst=true:=by simpa using h2
  have hpo:cB f.UU f.src.size=true:=by
   unfold aU at hc2;by_cases h3:cB f.UU f.src.size=false
   ·rw[if_pos h3]at hc2;simp at hc2
   ·simpa using h3
  by_cases h4:(aR f.src f.dst f.UU t).sp=f.sp
  ·by_cases h5:(aR f.src f.dst f.UU t).dp=f.dp
   ·have hfk:cF f=true:=by
     unfold cF;unfold aR at h4 h5;rw[if_pos hc2]at h4 h5;have w0:=cN (bD t) 0;have w2:=cN (bD t) 2;have w4:=cN (bD t) 4;by_cases he:aJ f.UU=true
     ·rw[if_pos he]at h4 h5;dsimp only at h4 h5;rw[h2',hpo,he,←h4,←h5,gK w4.1 w4.2];simp
     ·rw[if_neg he]at h4 h5;dsimp only at h4 h5;rw[h2',hpo,←h4,←h5,gK w0.1 w0.2,gK w2.1 w2.2];simp[he]
    simp[hfk,hc2,h4,h5,Bool.and_assoc]
   ·simp[h5]
  ·simp[h4]
 ·rw[TR hc,Bool.false_and,Bool.false_and];by_cases hf:cF f=true
  ·have hp:dV f.src f.dst=true:=by unfold cF at hf;simp only[TP]at hf;exact hf.1.1.1.1
   obtain⟨hs,hd⟩:=jM hp;have:aU f.src.size f.UU t≠0:=fun h0=>hc (by
    unfold aX;rw[if_neg (by omega),if_neg (by rw[hp];simp)];exact h0)
   simp[this]
  ·simp[hf]
def pQ(f:Fl)(t:BA):Bool:=decide (f.UU=17)&&decide (aL (bt t) 6=0)
theorem rF(f:Fl)(t:BA):eF f t=(pQ f t&&decide (f.src.size=4)):=by
 unfold eF pQ;by_cases h:f.UU=17
 ·rw[h];rfl
 ·simp[h]
def lG(ws:List Int):BA:=⟨((kI ws).map (fun x=>UInt8.ofNat x.toNat)).toArray⟩
theorem uR(ws:List Int):(lG ws).size=2*ws.length:=by
 unfold lG ByteArray.size;simp[nD]
theorem wX{w:World}{b cap n:Nat}{ws:List Int}(hn:n=2*ws.length)(hw:∀m∈ws,0≤m∧m≤65535)(hc:∀i,i < n→w.cell? ⟨b,i,none⟩=some (.int .u8 (fL ws i))) :
  (convert 22 9 (.slice (some ⟨b,0,none⟩) n cap)).run Tryz.prog w=.ok (.string (lG ws)) w:=by
 have hl:=nD ws;have e:n=((kI ws).map (fun x=>UInt8.ofNat x.toNat)).length:=by simp[hl,hn]
 rw[e];refine run_convert_bytes_back (P:=Tryz.prog) w 22 9 5 ⟨b,0,none⟩ cap ((kI ws).map (fun x=>UInt8.ofNat x.toNat)) Tryz.underlying22 Tryz.underlying5 Tryz.underlying9 ?_;intro j hj;have hj2:j < (kI ws).length:=by simpa using hj
 have hb:=zS ws hw j;have e2:fL ws j=(kI ws)[j]:=by simp[fL,List.getD,hj2]
 rw[e2]at hb;have e3:Addr.add ⟨b,0,none⟩ j=⟨b,j,none⟩:=by simp[Addr.add];omega
 rw[e3,List.getElem_map,fI _ hb.1 hb.2,←e2];exact hc j (by omega)
theorem ES(p n:Int)(hp:0≤p∧p≤255):kE 0 p++aQ n=lG [p,n]:=by
 have e1:p / 256=0:=by omega
 have e2:p % 256=p:=by omega
 simp only[lG,kI,e1,e2];rfl
theorem IH(p n:Int)(hp:0≤p∧p≤255)(hn:0≤n∧n≤65535):aQ (n / 65536)++aQ (n % 65536)++oW 0 p=lG [n / 65536,n,0,p]:=by
 have e1:p / 256=0:=by omega
 have e2:p % 256=p:=by omega
 have e3:n % 65536=n:=by omega
 simp only[lG,kI,e1,e2,e3];rfl
theorem sJ(s d:BA)(p:Int)(n:Nat)(w:World)(hs:s.size=4∨s.size=16)(hd:d.size≤16)(hp:0≤p∧p≤255)(hn:n≤65535) :
  Cb 176 #[.string s,.string d,iV p,iV n] w (.string (aO s d p n)):=by
 have n1:¬9223372036854775807 < s.size+d.size:=by omega
 rcases hs with hs|hs
 ·have d4:((s.size:Int)==16)=false:=by simp;omega
  by_cases h1:p=1
  ·have d1:(p==1)=true:=by simp[h1]
   have HV:Hid (aO s d p n=⟨#[]⟩):=by unfold Hid aO;rw[if_pos ⟨h1,hs⟩]
   generalize aO s d p n=ans at *;clear h1;go_enter Tryz.func176,Tryz.ntmps176
   go_wp2_with fail
   go_ret;exact⟨rN HV.out.symm,Below.refl _ _⟩
  ·have d1:(p==1)=false:=by simp[h1]
   have HV:Hid (aO s d p n=s++d++lG [p,(n:Int)]):=by
    unfold Hid aO;rw[if_neg (fun h=>h1 h.1),if_pos hs,←ES p n hp,ByteArray.append_assoc (a:=s++d)]
   generalize aO s d p n=ans at *;have hws:∀m∈[p,(n:Int)],0≤m∧m≤65535:=by intro m hm;simp at hm;rcases hm with rfl|rfl<;>omega
   have HL:Hid (Calls Tryz.prog 154 #[.slice (some ⟨w.heap.size,0,none⟩) 2 2] (w.alloc (.cells #[iV p,iV n] 2)) fun e w' =>
    e=.returned (.slice (some ⟨w.heap.size+1,0,none⟩) 4 4)∧(∀i,i < 4→w'.cell? ⟨w.heap.size+1,i,none⟩=some (.int .u8 (fL [p,(n:Int)] i)))∧Below w.heap.size w w'):=ME [p,(n:Int)] w (by simp) hws
   have HW:Hid (∀m∈[p,(n:Int)],0≤m∧m≤65535):=hws;have z:=uR [p,(n:Int)];simp at z;have n2:¬9223372036854775807 < s.size+d.size+(lG [p,(n:Int)]).size:=by omega
   clear hws h1;go_enter Tryz.func176,Tryz.ntmps176
   go_wp2_with fail
   refine HL.out.mono ?_;rintro e w1 ⟨rfl,hc,hB⟩;have hcv:=wX (cap:=4) (by simp) HW.out hc;have HB:Hid (Below w.heap.size w w1):=hB;clear hc hB HL;generalize lG [p,(n:Int)]=u at *;go_wp2_with fail
   go_ret;exact⟨rN HV.out.symm,HB.out⟩
 ·have d4:((s.size:Int)==16)=true:=by simp;omega
  have HV:Hid (aO s d p n=s++d++lG [(n:Int) / 65536,(n:Int),0,p]):=by
   unfold Hid aO;rw[if_neg (by omega),if_neg (by omega),←IH p n hp (by omega),ByteArray.append_assoc (a:=s++d),ByteArray.append_assoc (a:=s++d)]
  generalize aO s d p n=ans at *;have hws:∀m∈[(n:Int) / 65536,(n:Int),0,p],0≤m∧m≤65535:=by intro m hm;simp at hm;rcases hm with rfl|rfl|rfl|rfl<;>omega
  have HL:Hid (Calls Tryz.prog 154 #[.slice (some ⟨w.heap.size,0,none⟩) 4 4] (w.alloc (.cells #[iV ((n:Int) / 65536),iV n,iV 0,iV p] 2)) fun e w' =>
   e=.returned (.slice (some ⟨w.heap.size+1,0,none⟩) 8 8)∧(∀i,i < 8→w'.cell? ⟨w.heap.size+1,i,none⟩=some (.int .u8 (fL [(n:Int) / 65536,(n:Int),0,p] i)))∧Below w.heap.size w w'):=ME [(n:Int) / 65536,(n:Int),0,p] w (by simp) hws
  have HW:Hid (∀m∈[(n:Int) / 65536,(n:Int),0,p],0≤m∧m≤65535):=hws;have z:=uR [(n:Int) / 65536,(n:Int),0,p];simp at z;have n2:¬9223372036854775807 < s.size+d.size+(lG [(n:Int) / 65536,(n:Int),0,p]).size:=by omega
  clear hws;go_enter Tryz.func176,Tryz.ntmps176
  go_wp2_with fail
  refine HL.out.mono ?_;rintro e w1 ⟨rfl,hc,hB⟩;have hcv:=wX (cap:=8) (by simp) HW.out hc;have HB:Hid (Below w.heap.size w w1):=hB;clear hc hB HL;generalize lG [(n:Int) / 65536,(n:Int),0,p]=u at *;go_wp2_with fail
  go_ret;exact⟨rN HV.out.symm,HB.out⟩
theorem CZ(p:Int)(t:BA)(w:World)(h8:8≤t.size)(ht:t.size≤1048576) :
  Cw 151 #[iV p,.string t] w (.bool (decide (p=17)&&decide (aL (bt t) 6=0))):=by
 have HW:Hid (∀W,Cw 131 #[.string t,iV (6:Nat)] W (iV (aL (bt t) 6))):=fun W=>lJ t 6 W (by omega) (by unfold maxLen;omega)
 have dq:(aL (bt t) 6==0)=decide (aL (bt t) 6=0):=rfl;generalize decide (aL (bt t) 6=0)=q at *;generalize aL (bt t) 6=x at *;by_cases h:p=17
 ·have d1:(p==17)=true:=by simp[h]
  rw[TT h];clear h;go_enter Tryz.func151,Tryz.ntmps151
  go_wp2_with fail
  refine(HW.out _).mono ?_;rintro e w2 ⟨rfl,rfl⟩;go_wp2_with fail
  go_ret;exact⟨rfl,rfl⟩
 ·have d1:(p==17)=false:=by simp[h]
  rw[TR h];clear h;go_enter Tryz.func151,Tryz.ntmps151
  go_wp2_with fail
  go_ret;exact⟨rfl,rfl⟩
structure SU(w:World)(B b cap:Nat)(t:BA)(k:Nat):Prop where
 c0:w.cell? ⟨B,0,none⟩=some (.slice (some ⟨b,0,none⟩) t.size cap)
 f0:w.frozen? ⟨B,0,none⟩=false
 c1:w.cell? ⟨B,1,none⟩=some (iV k)
 f1:w.frozen? ⟨B,1,none⟩=false
 bs:∀i,i < t.size→w.cell? ⟨b,i,none⟩=some (.int .u8 (bt t i))
 ne:b≠B
 lt:b < w.heap.size
 cp:t.size≤cap
theorem OE{s:BA}{j:Nat}(h:j < s.data.toList.length):(s.data.toList[j].toNat:Int)=bt s j:=by
 have h':j < s.size:=by rw[Array.length_toList]at h;exact h
 unfold bt;rw[dif_pos h',ByteArray.getElem_eq_getElem_data];simp
open Go.Lib
theorem fZ(a b:BA):strCells (a++b)=strCells a++strCells b:=by
 unfold strCells;rw[ByteArray.data_append];simp
theorem mE(n:Int)(h0:0≤n)(h1:n≤65535):strCells (aQ n)=[.int .u8 (n / 256),.int .u8 (n % 256)]:=by
 have e1:=fI (n / 256) (by omega) (by omega);have e2:=fI (n % 256) (by omega) (by omega);simp only[strCells,aQ,IG,List.map_cons,List.map_nil,e1,e2]
theorem uP(s:BA)(i:Nat)(h:i < s.size):(strCells s)[i]?=some (.int .u8 (bt s i)):=by
 have h':i < s.data.toList.length:=by rw[Array.length_toList];exact h
 unfold strCells;rw[List.getElem?_map,UJ h',Option.map_some,OE h']
def oC(ws:List Int):Value→World→Prop:=fun v w=>∃b,v=.slice (some ⟨b,0,none⟩) ws.length ws.length∧b < w.heap.size∧∀k,k < ws.length→w.cell? ⟨b,k,none⟩=some (iV (ws.getD k 0))
theorem qD(ws:List Int):eZ (oC ws):=fun v w w' ⟨b,h1,h2,h3⟩ hb=>⟨b,h1,UM h2 hb.size,fun k hk=>((iI hb).1 b k h2).trans (h3 k hk)⟩
theorem KI{w W:World}{base e n:Nat}{v:Value}{xs:List Value}(h:w.ownsRow base e 1 v n xs)(hB:Below w.heap.size w W):W.ownsRow base e 1 v n xs:=by
 obtain⟨h1,h2⟩:=h;refine⟨h1,?_⟩;rcases h2 with h2|⟨g,cap,cur,q1,q2,q3,q4⟩
 ·exact .inl h2
 ·exact .inr ⟨g,cap,cur,q1,q2,by rw[hB.block g (UI.1 q3).1];exact q3,q4⟩
theorem yO{w:World}{base base' e n:Nat}{v:Value}{xs:List Value}(h:w.ownsRow base e 1 v n xs)(hB:base'≤base):w.ownsRow base' e 1 v n xs:=by
 obtain⟨h1,h2⟩:=h;refine⟨h1,?_⟩;rcases h2 with h2|⟨g,cap,cur,q1,q2,q3,q4⟩
 ·exact .inl h2
 ·exact .inr ⟨g,cap,cur,q1,UA hB q2,q3,q4⟩
def BT(base e n:Nat)(xs:List Value):Value→World→Prop:=fun v w=>∃g,v=.slice (some ⟨g,0,none⟩) n n∧w.ownsRow base e 1 v n xs
theorem sY(base e n:Nat)(xs:List Value):eZ (BT base e n xs):=fun v w w' ⟨g,h1,h2⟩ hb=>⟨g,h1,KI h2 hb⟩
def zs(n:Nat):BA:=⟨Array.replicate n 0⟩
theorem QM{w:World}{g o:Nat}{A Z B s:BA}(h:aA w g (strCells (A++Z++B)))(hA:A.size=o)(hZ:Z.size=s.size):aA (w.setCells g o (strCells s)) g (strCells (A++s++B)):=by
 have hl:(strCells (A++Z++B)).length=o+s.size+B.size:=by rw[strCells_length];simp only[UF];omega
 have:=h.setRange o (strCells s) (by rw[hl,strCells_length];omega);rw[strCells_length]at this;rw[fZ,fZ]at this ⊢;rw[List.append_assoc (strCells A),List.take_left' (by rw[strCells_length];exact hA),←List.append_assoc,List.drop_left' (by rw[List.length_append,strCells_length,strCells_length];omega)]at this;exact this
theorem mM{w W:World}{B g:Nat}(h:Below B w W)(hg:B≤g):∀(cs:List Value) (o:Nat),Below B w (W.setCells g o cs)
 | [],o=>h
 | c::cs,o=>by rw[World.setCells];exact mM (h.setCell (p:=⟨g,o,none⟩) hg c) hg cs (o+1)
theorem dX.cells{w wx:World}{ks:List (Nat × List Value)}(h:dX w ks wx){g:Nat}(hne:∀e∈ks,e.1≠g)(hg:w.heap.size≤g){o:Nat}{cs:List Value}:dX w ks (wx.setCells g o cs) :=
 ⟨fun e he=>(h.k e he).setCellsOther (hne e he) cs,mM h.b hg cs o,h.z⟩
theorem IU{w:World}{g:Nat}{t:BA}(h:aA w g (strCells t))(i:Nat)(hi:i < t.size):w.cell? ⟨g,i,none⟩=some (.int .u8 (bt t i)):=h.cell (uP t i hi)
end Go.Proofs.YtdkepkaflielhaaGreatDoor
namespace Go.Proofs.YtdkepkaflielhaaGreatDoor
open Go.RowKit Go.PlainAid
theorem uD(p:Int)(w:World) :
  Cw 153 #[iV p] w (iV (aY p:Nat)):=by
 by_cases h1:p=6
 ·subst h1;go_enter Tryz.func153,Tryz.ntmps153
  go_wp2_with fail
  go_ret;exact⟨rfl,rfl⟩
 ·have d1:(p==6)=false:=by simp[h1]
  by_cases h2:p=17
  ·subst h2;go_enter Tryz.func153,Tryz.ntmps153
   go_wp2_with fail
   go_ret;exact⟨rfl,rfl⟩
  ·have d2:(p==17)=false:=by simp[h2]
   have HV:Hid (aY p=2):=by unfold Hid aY;rw[if_neg h1,if_neg h2]
   generalize aY p=ans at *;go_enter Tryz.func153,Tryz.ntmps153
   go_wp2_with fail
   go_ret;exact⟨aK (by rw[HV.out];rfl),rfl⟩
theorem GF(a b:Int)(w:World) :
  Cw 150 #[iV a,iV b] w (.bool (decide (a=b)||(aJ a&&aJ b))):=by
 have HA:Hid (∀W,Cw 100 #[iV a] W (.bool (aJ a))):=fun W=>fQ a W
 have HB:Hid (∀W,Cw 100 #[iV b] W (.bool (aJ b))):=fun W=>fQ b W
 have hun:undef=Value.tuple #[]:=rfl;by_cases h:a=b
 ·have d1:(a==b)=true:=by simp[h]
  have HV:Hid ((decide (a=b)||(aJ a&&aJ b))=true):=by unfold Hid;simp[h]
  generalize (decide (a=b)||(aJ a&&aJ b))=ans at *;clear h HA HB;go_enter Tryz.func150,Tryz.ntmps150
  go_wp2_with fail
  go_ret;exact⟨aB (by rw[HV.out]),rfl⟩
 ·have d1:(a==b)=false:=by simp[h]
  have HV:Hid ((decide (a=b)||(aJ a&&aJ b))=(aJ a&&aJ b)):=by unfold Hid;simp[h]
  generalize (decide (a=b)||(aJ a&&aJ b))=ans at *;generalize aJ a=ea at *;generalize aJ b=eb at *;clear h
  cases ea with
  | false=>
   go_enter Tryz.func150,Tryz.ntmps150
   go_wp2_with fail
   refine(HA.out _).mono ?_;rintro e w2 ⟨rfl,rfl⟩;go_wp2_with fail
   go_ret;exact⟨aB (by rw[HV.out];rfl),rfl⟩
  | true=>
   go_enter Tryz.func150,Tryz.ntmps150
   go_wp2_with fail
   refine(HA.out _).mono ?_;rintro e w2 ⟨rfl,rfl⟩;go_wp2_with fail
   refine(HB.out _).mono ?_;rintro e w3 ⟨rfl,rfl⟩;go_wp2_with fail
   go_ret;exact⟨aB (by rw[HV.out];rfl),rfl⟩
theorem qY(p:Int)(t:BA)(w:World)(h8:8≤t.size)(ht:t.size≤1048576) :
  Cb 175 #[iV p,.string t] w (.string (aZ p t)):=by
 have HE:Hid (∀W,Cw 100 #[iV p] W (.bool (aJ p))):=fun W=>fQ p W
 have L1:∀W,(Instr.slice 9 (.string t) none (some (iV 4)) none).run Tryz.prog W=.ok (.string (t.extract 0 4)) W:=fun W=>run_slice_string_h (P:=Tryz.prog) (t:=9) (s:=t) (w:=W) (ht:=Tryz.underlying9) .i64 (4:Int) (by omega) (by omega)
 have L2:∀W,(Instr.slice 9 (.string t) none (some (iV 2)) none).run Tryz.prog W=.ok (.string (t.extract 0 2)) W:=fun W=>run_slice_string_h (P:=Tryz.prog) (t:=9) (s:=t) (w:=W) (ht:=Tryz.underlying9) .i64 (2:Int) (by omega) (by omega)
 have L3:∀W,(Instr.slice 9 (.string t) (some (iV 4)) (some (iV 6)) none).run Tryz.prog W=.ok (.string (t.extract 4 6)) W:=fun W=>wT t 4 6 W (by omega) (by omega)
 have z1:(t.extract 0 4).size=4:=by rw[UG];omega
 have z2:(t.extract 0 2).size=2:=by rw[UG];omega
 have z3:(t.extract 4 6).size=2:=by rw[UG];omega
 have HV:Hid (aZ p t=if aJ p=true then t.extract 0 2++t.extract 4 6 else t.extract 0 4):=rfl;generalize t.extract 0 4=u1 at *;generalize t.extract 0 2=u2 at *;generalize t.extract 4 6=u3 at *;generalize aZ p t=ans at *;have n1:¬9223372036854775807 < u2.size+u3.size:=by omega
 generalize aJ p=b at *
 cases b with
 | false=>
  replace HV:Hid (ans=u1):=HV.out;go_enter Tryz.func175,Tryz.ntmps175
  go_wp2_with fail
  refine(HE.out _).mono ?_;rintro e w2 ⟨rfl,rfl⟩;go_wp2_with fail
  go_ret;exact⟨by rw[HV.out];rfl,Below.refl _ _⟩
 | true=>
  replace HV:Hid (ans=u2++u3):=HV.out;go_enter Tryz.func175,Tryz.ntmps175
  go_wp2_with fail
  refine(HE.out _).mono ?_;rintro e w2 ⟨rfl,rfl⟩;go_wp2_with fail
  go_region
  all_goals go_wp2_with fail
  all_goals go_ret
  all_goals exact⟨by rw[HV.out];rfl,bR.drew⟩
theorem dX.setHead{w0 W:World}{ks:List (Nat × List Value)}{C:Nat}{v:Value}(h:dX w0 ((C,[v])::ks) W)(hC:w0.heap.size≤C)(hks:∀e∈ks,e.1≠C)(u:Value):dX w0 ((C,[u])::ks) (W.setCell ⟨C,0,none⟩ u) :=
 ⟨fun e he=>by
  rcases TW.1 he with rfl|he
  ·exact(h.k _ cO).set 0 u
  ·exact aA.setOther (h.k e (.tail _ he)) (hks e he) u,h.b.setCell (p:=⟨C,0,none⟩) hC u,fun e he=>by
  rcases TW.1 he with rfl|he
  ·exact Nat.zero_lt_one
  ·exact h.z e (.tail _ he)⟩
theorem dX.tl{w0 W:World}{k:Nat × List Value}{ks:List (Nat × List Value)}(h:dX w0 (k::ks) W):dX w0 ks W:=⟨fun e he=>h.k e (.tail _ he),h.b,fun e he=>h.z e (.tail _ he)⟩
theorem uC(ta tb:BA)(c:Int)(C:Nat)(ks:List (Nat × List Value))(w0 w:World)(ha:ta.size≤1048576)(hb':tb.size≤1048576)(hc:0≤c∧c≤65535)(hC:w0.heap.size≤C)(hks:∀e∈ks,e.1≠C)(h:dX w0 ((C,[iV c])::ks) w) :
  Calls Tryz.prog 174 #[.pointer (some ⟨C,0,none⟩),.agg #[.string ta,.string tb]] w fun e w'=>e=.returned (.tuple #[])∧dX w0 ((C,[iV (eA c (bI ta) (bI tb))])::ks) w':=by
 have HA:Hid (∀W,Cb 170 #[.string ta] W (iV (bI ta))):=fun W=>(rT ta W (by omega)).mono fun e w' h=>⟨h.1,by rw[h.2];exact Below.refl _ _⟩
 have HB:Hid (∀W,Cb 170 #[.string tb] W (iV (bI tb))):=fun W=>(rT tb W (by omega)).mono fun e w' h=>⟨h.1,by rw[h.2];exact Below.refl _ _⟩
 have HT:Hid (∀W,Cb 184 #[iV c,iV (bI ta),iV (bI tb)] W (iV (eA c (bI ta) (bI tb)))):=fun W=>(uW c (bI ta) (bI tb) W).mono fun e w' h=>⟨by rw[h.1,NM hc (cV ta) (cV tb)],h.2⟩
 have hlt:C < w.heap.size:=(h.k _ cO).lt (by simp);have HS0:Hid (dX w0 ((w.heap.size,[.string ta,.string tb])::(C,[iV c])::ks) (w.alloc (.cells #[.string ta,.string tb] 195))):=h.push [.string ta,.string tb] (by simp) _;have HKS:Hid (∀e∈ks,e.1≠C):=hks;generalize bI ta=sa at *;generalize bI tb=sb at *;generalize eA c sa sb=tc at *;clear h hks;go_enter Tryz.func174,Tryz.ntmps174
 go_upto_region 1 with fail
 generalize (w.alloc (.cells #[.string ta,.string tb] 195))=W1 at *;generalize w.heap.size=P at *;have HCP:Hid (∀wy,Below W1.drew.heap.size W1.drew wy→_):=fun wy hy=>HS0.out.kept (bR.drew.trans hy)
 clear HS0;refine aN [4,5,6,7,8,9,10,11,12,13,14,15,16,17] (by kernel_rfl) (by kernel_rfl) ?_;iterate 10 (apply bC.u rfl;(·intro K' a wy ho hd hb hK;simp[aS,aF,aD,Region.binds]at ho hd;have hst:=HCP.out wy hb;have HHp:=hst.at cO;have HHc:=hst.at eB;have kC:=HHp.c2;have c0:=HHc.cell (j:=0) rfl;clear hst HHp HHc;go_simp;first|((try go_bits);exact hK _ _ rfl bQ)|(refine(HA.out wy).mono ?_;rintro e wz ⟨rfl,hz⟩;exact hK _ _ rfl hz));dsimp only[nA,cA])
 (apply bC.u rfl;(·intro K' a wy ho hd hb hK;simp[aS,aF,aD,Region.binds]at ho hd;go_simp;refine(HB.out wy).mono ?_;rintro e wz ⟨rfl,hz⟩;exact hK _ _ rfl hz);dsimp only[nA,cA])
 iterate 3 (apply bC.u rfl;(·intro K' a wy ho hd hb hK;simp[aS,aF,aD,Region.binds]at ho hd;go_simp;first|((try go_bits);exact hK _ _ rfl bQ)|(refine(HT.out wy).mono ?_;rintro e wz ⟨rfl,hz⟩;exact hK _ _ rfl hz));dsimp only[nA,cA])
 intro X wz hR hz;simp only[UB,UC,eW,aF]at hR;simp only[aE,hR];clear hR;have hst:=HCP.out wz hz;have HF:Hid (dX w0 ((C,[iV tc])::ks) (wz.setCell ⟨C,0,none⟩ (iV tc))):=hst.tl.setHead hC HKS.out _;have HHc:=hst.at eB;have c0:=HHc.cell (j:=0) rfl;have f0:=HHc.free (j:=0) (by simp);clear hst HHc HCP HKS;intro K10 hK10;go_simp;refine hK10 _ _ ?_;simp only[fO];go_end0
 exact⟨rfl,HF.out⟩
theorem GE(a b a' b':BA)(c:Int)(C R:Nat)(ks:List (Nat × List Value))(w0 w:World)(ha:a.size≤1048576)(hb:b.size≤1048576)(ha':a'.size≤1048576)(hb':b'.size≤1048576)(hc:0≤c∧c≤65535)(hC:w0.heap.size≤C)(hR:R≠C)(hks:∀e∈ks,e.1≠C)(h:dX w0 ((C,[iV c])::(R,[.string a,.string b,.string a',.string b'])::ks) w) :
  Calls Tryz.prog 173 #[.func (.func 174) #[.pointer (some ⟨C,0,none⟩)] #[],.slice (some ⟨R,0,none⟩) 2 2] w fun e w'=>e=.returned (.tuple #[])∧dX w0 ((C,[iV (eA (eA c (bI a) (bI b)) (bI a') (bI b'))])::(R,[.string a,.string b,.string a',.string b'])::ks) w':=by
 have r1:=lQ hc (cV a) (cV b);have HKR:Hid (∀e∈(R,[Value.string a,.string b,.string a',.string b'])::ks,e.1≠C):=fun e he=>by
  rcases TW.1 he with rfl|he
  ·exact hR
  ·exact hks e he
 have H1:Hid (∀W ls,(∀e∈ls,e.1≠C)→dX w0 ((C,[iV c])::ls) W→Calls Tryz.prog 174 #[.pointer (some ⟨C,0,none⟩),.agg #[.string a,.string b]] W fun e w'=>e=.returned (.tuple #[])∧dX w0 ((C,[iV (eA c (bI a) (bI b))])::ls) w'):=fun W ls hl hW=>uC a b c C ls w0 W ha hb hc hC hl hW
 have H2:Hid (∀W ls,(∀e∈ls,e.1≠C)→dX w0 ((C,[iV (eA c (bI a) (bI b))])::ls) W→Calls Tryz.prog 174 #[.pointer (some ⟨C,0,none⟩),.agg #[.string a',.string b']] W fun e w'=>e=.returned (.tuple #[])∧dX w0 ((C,[iV (eA (eA c (bI a) (bI b)) (bI a') (bI b'))])::ls) w'):=fun W ls hl hW=>uC a' b' _ C ls w0 W ha' hb' r1 hC hl hW
 have HS0:Hid _:=h;generalize eA (eA c (bI a) (bI b)) (bI a') (bI b')=c2 at *;generalize eA c (bI a) (bI b)=c1 at *;clear h hks r1 ha hb ha' hb' hc;go_enter Tryz.func173,Tryz.ntmps173
 go_wp2_with fail
 go_loopw [8] (fun i wr=>∃k:Nat,k≤2∧i=iV k∧dX w0 ((C,[iV (if k=0 then c else if k=1 then c1 else c2)])::(R,[.string a,.string b,.string a',.string b'])::ks) wr) (fun i _=>2-(intOf i).toNat)
 case atStart=>exact⟨0,by omega,rfl,HS0.out⟩
 case round=>
  obtain⟨k,hk,rfl,hst⟩:=hrel;clear HS0;match k,hk with
  | 0,_=>
   have S1:Hid (dX w0 ((C,[iV c])::(R,[.string a,.string b,.string a',.string b'])::ks) wr):=hst;have HHr:=S1.out.at eB;obtain⟨q0,q1⟩:=HHr.c2;clear HHr hst;have B1:Hid (Below wr.heap.size wr (wr.alloc (.cells #[.string a,.string b] 195))):=bR.alloc lR _;go_wp2_with fail
   refine(H1.out _ _ HKR.out (S1.out.kept B1.out)).mono ?_;rintro e w2 ⟨rfl,hb2⟩;have S2:Hid _:=hb2;clear hb2 S1 B1;go_wp2_with fail
   go_roundw
   case rel=>exact⟨1,by omega,by go_num,S2.out⟩
   case measure=>simp[intOf]
  | 1,_=>
   have S1:Hid (dX w0 ((C,[iV c1])::(R,[.string a,.string b,.string a',.string b'])::ks) wr):=hst;have HHr:=S1.out.at eB;obtain⟨-,-,q2,q3⟩:=HHr.c4;clear HHr hst;have B1:Hid (Below wr.heap.size wr (wr.alloc (.cells #[.string a',.string b'] 195))):=bR.alloc lR _;go_wp2_with fail
   refine(H2.out _ _ HKR.out (S1.out.kept B1.out)).mono ?_;rintro e w2 ⟨rfl,hb2⟩;have S2:Hid _:=hb2;clear hb2 S1 B1;go_wp2_with fail
   go_roundw
   case rel=>exact⟨2,by omega,by go_num,S2.out⟩
   case measure=>simp[intOf]
  | 2,_=>
   have S1:Hid (dX w0 ((C,[iV c2])::(R,[.string a,.string b,.string a',.string b'])::ks) wr):=hst;clear hst;go_wp2_with fail
   go_end0
   exact⟨rfl,S1.out⟩
def PW(base:Nat)(vs:List Value):Value→World→Prop:=fun v w=>∃b,v=.slice (some ⟨b,0,none⟩) 2 2∧base≤b∧aA w b vs
theorem EJ(base:Nat)(vs:List Value)(h:0 < vs.length):eZ (PW base vs):=fun v w w' ⟨b,h1,h2,h3⟩ hb=>⟨b,h1,h2,h3.kept h hb⟩
theorem JQ{p:Int}{n:Nat}(h8:8≤n)(hp:p=6→20≤n):aY p < n:=by
 unfold aY;split
 ·rename_i h;have:=hp h;omega
 ·split<;>omega
theorem CY(f g:Fl)(t u:BA)(w:World)(h8:8≤t.size)(ht:t.size≤65535)(hp:f.UU=6→20≤t.size)(u8:8≤u.size)(hu:u.size≤65535)(fs:f.src.size=4∨f.src.size=16)(fd:f.dst.size≤16)(fp:0≤f.UU∧f.UU≤255)(gs:g.src.size=4∨g.src.size=16)(gd:g.dst.size≤16)(gp:0≤g.UU∧g.UU≤255) :
  Cb 155 #[gQ f,gQ g,.string t,.string u] w (iV (vM f g t u)):=by
 have HPl:Hid (∀W,Cw 153 #[iV f.UU] W (iV (aY f.UU:Nat))):=fun W=>uD _ W
 have HWd:Hid (∀W,Cw 131 #[.string t,iV (aY f.UU:Nat)] W (iV (aL (bt t) (aY f.UU)))):=fun W=>lJ t _ W (JQ h8 hp) (by unfold maxLen;omega)
 have HP1:Hid (∀W,Cb 175 #[iV f.UU,.string t] W (.string (aZ f.UU t))):=fun W=>qY _ t W h8 (by omega)
 have HP2:Hid (∀W,Cb 175 #[iV g.UU,.string u] W (.string (aZ g.UU u))):=fun W=>qY _ u W u8 (by omega)
 have HH1:Hid (∀W,Cb 176 #[.string f.src,.string f.dst,iV f.UU,iV t.size] W (.string (aO f.src f.dst f.UU t.size))):=fun W=>sJ _ _ _ _ W fs fd fp ht
 have HH2:Hid (∀W,Cb 176 #[.string g.src,.string g.dst,iV g.UU,iV u.size] W (.string (aO g.src g.dst g.UU u.size))):=fun W=>sJ _ _ _ _ W gs gd gp hu
 have s1:=iA f.UU h8;have s2:=iA g.UU u8;have s3:=kR f.src f.dst f.UU t.size (by omega) fd;have s4:=kR g.src g.dst g.UU u.size (by omega) gd;have rc:=cN (bD t) (aY f.UU);have HV:Hid (vM f g t u=if eA (eA (aL (bt t) (aY f.UU)) (bI (aZ f.UU t)) (bI (aZ g.UU u))) (bI (aO f.src f.dst f.UU t.size)) (bI (aO g.src g.dst g.UU u.size))=0 then 65535 else eA (eA (aL (bt t) (aY f.UU)) (bI (aZ f.UU t)) (bI (aZ g.UU u))) (bI (aO f.src f.dst f.UU t.size)) (bI (aO g.src g.dst g.UU u.size))):=rfl;have HEa:Hid (∀C R ks W,w.heap.size≤C→R≠C→(∀e∈ks,e.1≠C)→dX w ((C,[iV (aL (bt t) (aY f.UU))])::(R,[.string (aZ f.UU t),.string (aZ g.UU u),.string (aO f.src f.dst f.UU t.size),.string (aO g.src g.dst g.UU u.size)])::ks) W→Calls Tryz.prog 173 #[.func (.func 174) #[.pointer (some ⟨C,0,none⟩)] #[],.slice (some ⟨R,0,none⟩) 2 2] W fun e w'=>e=.returned (.tuple #[])∧dX w ((C,[iV (eA (eA (aL (bt t) (aY f.UU)) (bI (aZ f.UU t)) (bI (aZ g.UU u))) (bI (aO f.src f.dst f.UU t.size)) (bI (aO g.src g.dst g.UU u.size)))])::(R,[.string (aZ f.UU t),.string (aZ g.UU u),.string (aO f.src f.dst f.UU t.size),.string (aO g.src g.dst g.UU u.size)])::ks) w'):=fun C R ks W h1 h2 h3 h4=>GE _ _ _ _ _ C R ks w W (by omega) (by omega) (by omega) (by omega) rc h1 h2 h3 h4
 generalize eA (eA (aL (bt t) (aY f.UU)) (bI (aZ f.UU t)) (bI (aZ g.UU u))) (bI (aO f.src f.dst f.UU t.size)) (bI (aO g.src g.dst g.UU u.size))=c2 at *;generalize vM f g t u=ans at *;obtain⟨c,hc⟩: ∃c,c=aL (bt t) (aY f.UU):=⟨_,rfl⟩;rw[←hc]at HWd HEa;generalize aZ f.UU t=p1 at *;generalize aZ g.UU u=p2 at *;generalize aO f.src f.dst f.UU t.size=p3 at *;generalize aO g.src g.dst g.UU u.size=p4 at *;generalize (aY f.UU)=pl at *;clear hc rc fs fd fp gs gd gp s1 s2 s3 s4 hp;obtain⟨UU,src,dst,sp,dp⟩:=f;obtain⟨proto',src',dst',sp',dp'⟩:=g;unfold gQ;dsimp only at *;have HS0:=SC w (dA UU src dst sp dp) 43 (dA proto' src' dst' sp' dp') 43 (by simp) (by simp)
 skip;go_enter Tryz.func155,Tryz.ntmps155
 go_upto_region 1 with fail
 generalize World.alloc _ _=W0 at *;have HHk:=HS0.out.at cO;obtain⟨k0,k1,k2,k3,k4⟩:=HHk.c5;clear HHk;have hw0:w.heap.size≤W0.heap.size:=HS0.out.b.size;have hf0:w.heap.size < W0.heap.size:=(HS0.out.k _ cO).lt (by simp);have hg0:w.heap.size+1 < W0.heap.size:=(HS0.out.k _ eB).lt (by simp);have HS1:Hid (dX w ((W0.heap.size,[iV c])::[(w.heap.size,(dA UU src dst sp dp)),(w.heap.size+1,(dA proto' src' dst' sp' dp'))]) (W0.alloc (.cells #[iV c] 190))):=HS0.out.push [iV c] (by simp) _;go_upto_region 2 with (first | (go_at_call 153;refine(HPl.out _).mono ?_;rintro e W0 ⟨rfl,rfl⟩) | (go_at_call 131;refine(HWd.out _).mono ?_;rintro e W0 ⟨rfl,rfl⟩))
 clear HS0 HPl HWd k0 k1 k2 k3 k4;generalize (W0.alloc (.cells #[iV c] 190))=W1 at *;generalize W0.heap.size=C at *;have hcl:C < W1.heap.size:=(HS1.out.k _ cO).lt (by simp);go_cut [46] (fun v wx=>dX w [(C,[iV c2])] wx)
 case first=>
  rename_i J K2 hJ hK2;have HCP:Hid (∀wy,Below W1.drew.heap.size W1.drew wy→_):=fun wy hy=>HS1.out.kept (bR.drew.trans hy)
  clear HS1 HV;refine aN [16,17,18,19,20,21,22,23,24,25,26,27,28,29,30,31,32,33,34,35,36,37,38,39,40,41,42,43,44,45] (by kernel_rfl) (by kernel_rfl) ?_;iterate 8 (apply bC.u rfl;(·intro K' a wy ho hd hb hK;simp[aS,aF,aD,Region.binds]at ho hd;have hst:=HCP.out wy hb;have kC:=(hst.at eB).c3;have kC:=(hst.at eX).c3;clear hst;go_simp;first|((try go_bits);exact hK _ _ rfl bQ)|(refine(HP1.out wy).mono ?_;rintro e wz ⟨rfl,hz⟩;exact hK _ _ rfl hz));dsimp only[nA,cA])
  iterate 10 (apply bC.u rfl;(·intro K' a wy ho hd hb hK;simp[aS,aF,aD,Region.binds]at ho hd;have hst:=HCP.out wy hb;have kC:=(hst.at eB).c3;have kC:=(hst.at eX).c3;clear hst;go_simp;first|((try go_bits);exact hK _ _ rfl bQ)|(refine(HP2.out wy).mono ?_;rintro e wz ⟨rfl,hz⟩;exact hK _ _ rfl hz));dsimp only[nA,cA])
  iterate 9 (apply bC.u rfl;(·intro K' a wy ho hd hb hK;simp[aS,aF,aD,Region.binds]at ho hd;have hst:=HCP.out wy hb;have kC:=(hst.at eB).c3;have kC:=(hst.at eX).c3;clear hst;go_simp;first|((try go_bits);exact hK _ _ rfl bQ)|(refine(HH1.out wy).mono ?_;rintro e wz ⟨rfl,hz⟩;exact hK _ _ rfl hz));dsimp only[nA,cA])
  iterate 2 (apply bC.u rfl;(·intro K' a wy ho hd hb hK;simp[aS,aF,aD,Region.binds]at ho hd;go_simp;first|((try go_bits);exact hK _ _ rfl bQ)|(refine(HH2.out wy).mono ?_;rintro e wz ⟨rfl,hz⟩;exact hK _ _ rfl hz));dsimp only[nA,cA])
  refine bC.rel (n:=29) (PW W1.drew.heap.size [.string p1,.string p2,.string p3,.string p4]) (EJ _ _ (by simp)) [_,_,_,_,_,_,_,_,_,_,_,_,_,_,_,_,_,_,_,_,_,_,_,_,_,_,_,_,_,PW W1.drew.heap.size [.string p1,.string p2,.string p3,.string p4]] rfl rfl ?_ ?_
  ·intro K' a wy ho hd hb hK;rw[wN rfl];have q9:=hd ⟨9,.data⟩ (by simp) rfl;have q28:=hd ⟨28,.data⟩ (by simp) rfl;simp[aS,aF,aD]at q9 q28;clear hd ho;go_simp;exact hK _ _ ⟨wy.heap.size,rfl,hb.size,aA.new wy [.string p1,.string p2,.string p3,.string p4] 195⟩ (bR.alloc lR _)
  intro X wz hR hz;obtain⟨x0,x1,x2,x3,x4,x5,x6,x7,x8,x9,x10,x11,x12,x13,x14,x15,x16,x17,x18,x19,x20,x21,x22,x23,x24,x25,x26,x27,x28,x29,-⟩:=hR;obtain⟨R,e29,b29,h29⟩:=x29;simp only[aF]at x0 x1 x2 x3 x4 x5 x6 x7 x8 x9 x10 x11 x12 x13 x14 x15 x16 x17 x18 x19 x20 x21 x22 x23 x24 x25 x26 x27 x28;simp only[aE,x0,x1,x2,x3,x4,x5,x6,x7,x8,x9,x10,x11,x12,x13,x14,x15,x16,x17,x18,x19,x20,x21,x22,x23,x24,x25,x26,x27,x28,e29];clear x0 x1 x2 x3 x4 x5 x6 x7 x8 x9 x10 x11 x12 x13 x14 x15 x16 x17 x18 x19 x20 x21 x22 x23 x24 x25 x26 x27 x28;have hst:=HCP.out wz hz;have hRC:R≠C:=by
   have:C < W1.drew.heap.size:=hcl;omega
  have HB5:Hid (dX w ((C,[iV c])::(R,[.string p1,.string p2,.string p3,.string p4])::[(w.heap.size,(dA UU src dst sp dp)),(w.heap.size+1,(dA proto' src' dst' sp' dp'))]) wz):=(hst.tl.cons h29 (by simp)).cons (hst.k _ cO) (by simp);have HKS:Hid (∀e∈([(w.heap.size,(dA UU src dst sp dp)),(w.heap.size+1,(dA proto' src' dst' sp' dp'))]:List (Nat × List Value)),e.1≠C):=fun e he=>by
   simp only[TW,TV,or_false]at he;rcases he with rfl|rfl<;>(show _≠C;omega)
  clear hst h29 HCP HP1 HP2 HH1 HH2;intro K10 hK10;go_simp;refine(HEa.out C R _ wz hw0 hRC HKS.out HB5.out).mono ?_;rintro e w5 ⟨rfl,hb5⟩;have HF:Hid (dX w [(C,[iV c2])] w5):=⟨fun e he=>by
   rw[List.mem_singleton]at he;rw[he];exact hb5.k _ cO,hb5.b,fun e he=>by
   rw[List.mem_singleton]at he;rw[he];simp⟩
  clear hb5 HB5 HKS HEa;refine hK10 _ _ ?_;show Exit.then _ _ _ _ _;refine hK2 _ _ (hJ _ _ ?_);(repeat apply Exists.intro)
  exact⟨HF.out,rfl⟩
 case rest=>
 have S6:Hid (dX w [(C,[iV c2])] wc):=hcut;clear hcut HS1 HP1 HP2 HH1 HH2 HEa;generalize wc=W6 at *;have HH6:=S6.out.at cO;have z0:=HH6.cell (j:=0) rfl;clear HH6;have HFB:Hid (Below w.heap.size w W6):=S6.out.b;clear S6;by_cases h0:c2=0
 case pos=>
  have d0:(c2==0)=true:=by simp[h0]
  have HX:Hid (ans=65535):=by unfold Hid;rw[HV.out,if_pos h0]
  clear h0 HV;go_wp2_with fail
  go_ret;exact⟨aK (by rw[HX.out]),HFB.out⟩
 have d0:(c2==0)=false:=by simp[h0]
 have HX:Hid (ans=c2):=by unfold Hid;rw[HV.out,if_neg h0]
 clear h0 HV;go_wp2_with fail
 go_ret;exact⟨aK (by rw[HX.out]),HFB.out⟩
open Go.Lib
theorem xN{W:World}{b:Nat}{t:BA}(h:BR W b t.size (bt t)):aA W b (strCells t):=by
 refine⟨fun j v hv=>?_,fun j hj=>?_⟩
 ·rw[TX];have hj:j < t.size:=by
   have:=(List.getElem?_eq_some_iff.1 hv).1;rwa [strCells_length]at this
  rw[uP t j hj]at hv;injection hv with hv
  rw[←hv];exact(h.get j hj).1
 ·rw[strCells_length]at hj;rw[TX];exact⟨by rw[(h.get j hj).1];rfl,(h.get j hj).2⟩
theorem vR{W:World}{b cap:Nat}{t:BA}(h:aA W b (strCells t)):(convert 22 9 (.slice (some ⟨b,0,none⟩) t.size cap)).run Tryz.prog W=.ok (.string t) W:=by
 have hh:BR W b t.size (bt t):=⟨fun i hi=>⟨IU h i hi,h.free (by rw[strCells_length];exact hi)⟩⟩;have:=hh.conv (cap:=cap) (bD t)
 rw[oG]at this;exact this
theorem yR(t:BA)(k n:Nat)(h:k+n≤t.size):t.extract 0 k++t.extract k (k+n)++t.extract (k+n) t.size=t:=by
 refine FJ ?_ (fun i hi=>?_)
 ·simp only[UF,UG];omega
 ·have s1:(t.extract 0 k).size=k:=by rw[UG];omega
  have s2:(t.extract k (k+n)).size=n:=by rw[UG];omega
  simp only[UF,UG]at hi;rw[dR,dR,UF,s1,s2];by_cases h1:i < k
  ·rw[if_pos (by omega),if_pos h1,fA _ _ _ _ (by omega),if_pos (by omega),TX]
  ·by_cases h2:i < k+n
   ·rw[if_pos h2,if_neg h1,fA _ _ _ _ (by omega),if_pos (by omega),show k+(i-k)=i by omega]
   ·rw[if_neg h2,fA _ _ _ _ lR,if_pos (by omega),show k+n+(i-(k+n))=i by omega]
theorem AF{W:World}{b k:Nat}{t u:BA}(h:aA W b (strCells t))(hk:k+u.size≤t.size):aA (W.setCells b k (strCells u)) b (strCells (dW t k u)):=by
 rw[←yR t k u.size hk]at h;exact QM h (by rw[UG];omega) (by rw[UG];omega)
theorem oN{P:Program}{w:World}{g o dCap base e g6:Nat}{t s:BA}(dT sT ty elem:TypeId)(hu:P.underlying dT=some (.slice elem))(hz:(P.info? elem).map (·.size)=some 1)(h:aA w g (strCells t))(ho:o+s.size≤t.size){dLen sLen:Nat}(hd:s.size≤dLen)(hs:sLen=s.size)(hown:w.ownsRow base e 1 (.slice (some ⟨g6,0,none⟩) sLen sLen) sLen (strCells s)) :
  (Builtin.copy_ #[dT,sT] ty #[.slice (some ⟨g,o,none⟩) dLen dCap,.slice (some ⟨g6,0,none⟩) sLen sLen]).run P w=.ok (goInt s.size) (w.setCells g o (strCells s)):=by
 have hl:(strCells t).length=t.size:=strCells_length t;have:=run_copy_cells (P:=P) w dT sT ty elem g o dLen dCap ⟨g6,0,none⟩ sLen sLen (strCells s) hu hz (by rw[strCells_length,hs];exact(Nat.min_eq_left hd).symm) (fun j v hj=>hown.cells (g:=g6) rfl j v hj) (fun j hj=>by rw[strCells_length]at hj;have:=(h.th (o+j) (by omega)).1;rwa [TX]at this) (fun j hj=>by rw[strCells_length]at hj;have:=(h.th (o+j) (by omega)).2;rwa [TX]at this) (strCells_oneCell _);rw[strCells_length]at this;exact this
theorem JO{x:Int}(h:0≤x∧x≤255):strCells (lL x)=[.int .u8 x]:=by
 unfold strCells lL;simp;omega
theorem yG{W:World}{b:Nat}{t:BA}{x:Int}(h:aA W b (strCells t))(hx:0≤x∧x≤255)(ht:1≤t.size):aA (W.setCell ⟨b,0,none⟩ (.int .u8 x)) b (strCells (dW t 0 (lL x))):=by
 have e:strCells (dW t 0 (lL x))=(strCells t).set 0 (.int .u8 x):=by
  have hs:=yR t 0 1 (by omega);have h0:(strCells (t.extract 0 0))=[]:=by
   apply List.eq_nil_of_length_eq_zero;rw[strCells_length,UG];omega
  have h1:(strCells (t.extract 0 (0+1))).length=1:=by rw[strCells_length,UG];omega
  obtain⟨y,hy⟩:=List.length_eq_one_iff.1 h1;have ht2:strCells t=y::strCells (t.extract (0+1) t.size):=by
   conv=>lhs;rw[←hs]
   rw[fZ,fZ,h0,hy];rfl
  unfold dW;rw[fZ,fZ,h0,JO hx,ht2];rfl
 rw[e];exact h.set 0 _
theorem LQ(p:Int):0≤iH p∧iH p≤255:=by unfold iH;split<;>omega
theorem LO(p:Int):0≤jV p∧jV p≤255:=by unfold jV;split<;>omega
def LH(base:Nat)(n:Nat)(u:BA)(e:Ending)(w':World):Prop:=∃b cap,e=.returned (.slice (some ⟨b,0,none⟩) n cap)∧n≤cap∧base≤b∧aA w' b (strCells u)
theorem JX(p:Int)(g:Fl)(t:BA)(w:World)(h8:8≤t.size)(ht:t.size≤20000)(gw:(0≤g.sp∧g.sp≤65535)∧(0≤g.dp∧g.dp≤65535))(hp:aJ g.UU=true→aJ p=true) :
  Calls Tryz.prog 152 #[iV p,gQ g,.string t] w fun e w'=>LH w.heap.size t.size (MF p g t) e w'∧Below w.heap.size w w':=by
 have HE:Hid (∀W,Cw 100 #[iV g.UU] W (.bool (aJ g.UU))):=fun W=>fQ _ W
 have HV:Hid (MF p g t=if aJ g.UU=true then dW (dW t 4 (aQ g.sp)) 0 (lL (if bt t 0=iH p then iH g.UU else jV g.UU)) else dW t 0 (aQ g.sp++aQ g.dp)):=rfl;have HE1:Hid (aJ p=true→∀W,Cw 130 #[iV p] W (.tuple #[.int .u8 (iH p),.int .u8 (jV p)])):=fun h W=>lV p W h
 have HE2:Hid (aJ g.UU=true→∀W,Cw 130 #[iV g.UU] W (.tuple #[.int .u8 (iH g.UU),.int .u8 (jV g.UU)])):=fun h W=>lV _ W h
 have ra:=LQ g.UU;have rn:=LO g.UU;have z2:=aP g.sp;have z4:(aQ g.sp++aQ g.dp).size=4:=by rw[UF];rfl
 have HL2:Hid ((kI [g.sp,g.dp]).map (Value.int .u8)=strCells (aQ g.sp++aQ g.dp)):=by unfold Hid;rw[fZ,mE _ gw.1.1 gw.1.2,mE _ gw.2.1 gw.2.2];rfl
 have HL1:Hid ((kI [g.sp]).map (Value.int .u8)=strCells (aQ g.sp)):=by unfold Hid;rw[mE _ gw.1.1 gw.1.2];rfl
 have hinfo:(Tryz.prog.info? 5).map (·.size)=some 1:=by
  obtain⟨i0,hi,hz0,hz1,hz2⟩:=info_parts Tryz.info5;rw[hi];simp[hz1]
 generalize MF p g t=ans at *;obtain⟨UU,src,dst,sp,dp⟩:=g;unfold gQ;dsimp only at *;have HS0:=SN w (dA UU src dst sp dp) 43 (by simp)
 skip;obtain⟨cp,W1,hcv,hh,hb1,hcap⟩:=tJ (w.alloc (.cells (dA UU src dst sp dp).toArray 43)) t;rw[show (w.alloc (.cells (dA UU src dst sp dp).toArray 43)).heap.size=w.heap.size+1 by simp]at hcv hh;have HT1:Hid (aA W1 (w.heap.size+1) (strCells t)):=xN hh;have HS1:Hid _:=HS0.out.kept hb1;clear hh hb1 HS0;go_enter Tryz.func152,Tryz.ntmps152
 go_upto_region 2 with fail
 clear hcv;have HHk:=HS1.out.at cO;obtain⟨k0,k1,k2,k3,k4⟩:=HHk.c5;clear HHk;have hlw:w.heap.size+1 < W1.heap.size:=HT1.out.lt (by rw[strCells_length];omega);go_wp2_with fail
 refine(HE.out _).mono ?_;rintro e W1 ⟨rfl,rfl⟩
 cases hec:aJ UU with
 | false=>
  have HX:Hid (ans=dW t 0 (aQ sp++aQ dp)):=by unfold Hid;rw[HV.out,hec];rfl
  clear HV HE1 HE2 HL1;have HL:Hid (Calls Tryz.prog 154 #[.slice (some ⟨W1.heap.size,0,none⟩) 2 2] (W1.alloc (.cells #[iV sp,iV dp] 2)) fun e w'=>e=.returned (.slice (some ⟨W1.heap.size+1,0,none⟩) 4 4)∧w'.ownsRow (W1.heap.size+1) 5 1 (.slice (some ⟨W1.heap.size+1,0,none⟩) 4 4) 4 (strCells (aQ sp++aQ dp))∧Below W1.heap.size W1 w'):=by
   refine(mC [sp,dp] W1.heap.size 2 2 (W1.alloc (.cells #[iV sp,iV dp] 2)) (by omega) (by simp) rfl (qN _ (by simp only[List.forall_mem_cons,TV,false_imp_iff,implies_true,and_true];omega)) (by intro k hk;match k,hk with
   | 0,_=>simp
   | 1,_=>simp)).mono ?_
   rintro e w' ⟨rfl,hown,hB⟩;rw[show (W1.alloc (.cells #[iV sp,iV dp] 2)).heap.size=W1.heap.size+1 by simp]at hown hB ⊢;rw[HL2.out]at hown;exact⟨rfl,hown,(bR.alloc lR _).trans (hB.mono (by omega))⟩
  clear HL2;go_wp2_with fail
  refine HL.out.mono ?_;rintro e w3 ⟨rfl,hown,q3⟩;have hT3:aA w3 (w.heap.size+1) (strCells t):=HT1.out.kept (by rw[strCells_length];omega) q3;have hrun:=oN (P:=Tryz.prog) (dCap:=cp) 22 22 3 5 Tryz.underlying22 hinfo hT3 (o:=0) (by omega) (dLen:=t.size) (by omega) z4.symm hown;rw[z4]at hrun;have HF:Hid (aA (w3.setCells (w.heap.size+1) 0 (strCells (aQ sp++aQ dp))) (w.heap.size+1) (strCells ans)):=by unfold Hid;rw[HX.out];exact AF hT3 (by omega)
  have HB:Hid (Below w.heap.size w (w3.setCells (w.heap.size+1) 0 (strCells (aQ sp++aQ dp)))):=mM ((HS1.out.kept q3).b) (by omega) _ _;clear hT3 hown q3 HT1 HS1 HL HX k0 k1 k2 k3 k4;go_wp2_with fail
  go_ret;exact⟨⟨_,_,rfl,hcap,by omega,HF.out⟩,HB.out⟩
 | true=>
  have hep:=hp hec;have HX:Hid (ans=dW (dW t 4 (aQ sp)) 0 (lL (if bt t 0=iH p then iH UU else jV UU))):=by unfold Hid;rw[HV.out,hec];rfl
  replace HE1:Hid _:=HE1.out hep;replace HE2:Hid _:=HE2.out hec;clear HV HL2 hep hec hp HE;go_upto_region 5 with fail
  clear k0 k1 k2 k3 k4;have n4:¬(t.size:Int) < 4:=by omega
  have c4:¬(cp:Int) < 4:=by omega
  have n5:(4:Int)≤t.size:=by omega
  have c44:¬cp=4:=by omega
  go_cut [33] (fun v wx=>aA wx (w.heap.size+1) (strCells (dW t 4 (aQ sp)))∧dX w [(w.heap.size,(dA UU src dst sp dp))] wx)
  case first=>
   rename_i J K2 hJ hK2;have HCP:Hid (∀wy,Below W1.drew.heap.size W1.drew wy→_):=fun wy hy=>HS1.out.kept (bR.drew.trans hy)
   have HGP:Hid (∀wy,Below W1.drew.heap.size W1.drew wy→aA wy (w.heap.size+1) (strCells t)):=fun wy hy=>HT1.out.kept (by rw[strCells_length];omega) (bR.drew.trans hy)
   have hlw2:w.heap.size≤W1.drew.heap.size:=by show w.heap.size≤W1.heap.size;omega
   clear HT1 HS1 HX HE1 HE2;refine aN [27,28,29,30,31,32] (by kernel_rfl) (by kernel_rfl) ?_;iterate 4 (apply bC.u rfl;(·intro K' a wy ho hd hb hK;simp[aS,aF,aD,Region.binds]at ho hd;have hst:=HCP.out wy hb;have HHk:=hst.at cO;have k3:=HHk.cell (j:=3) rfl;clear HHk;clear hst;go_simp;(try go_bits);exact hK _ _ rfl bQ);dsimp only[nA,cA])
   refine bC.rel (n:=4) (oC [sp]) (qD _) [_,_,_,_,oC [sp]] rfl rfl ?_ ?_
   ·intro K' a wy ho hd hb hK;rw[wN rfl];have q3:=hd ⟨3,.data⟩ (by simp) rfl;simp[aS,aF,aD]at q3;clear hd ho;go_simp;exact hK _ _ ⟨wy.heap.size,rfl,by simp,fun k hk=>by
     simp only[List.length_cons,List.length_nil]at hk;match k,hk with
     | 0,_=>simp⟩ (bR.alloc lR _)
   refine bC.rel (n:=5) (BT w.heap.size 5 2 (strCells (aQ sp))) (sY _ _ _ _) [_,_,_,_,_,BT w.heap.size 5 2 (strCells (aQ sp))] rfl rfl ?_ ?_
   ·intro K' a wy ho hd hb hK;rw[wN rfl];have hr:oC [sp] (aD a 31) wy:=hd ⟨4,.data⟩ (by simp) rfl;obtain⟨b4,e1,e2,e3⟩:=hr;simp[aD]at e1;clear hd ho;go_simp;refine(mC [sp] b4 1 1 wy (by decide) e2 rfl (qN _ (by simp only[List.forall_mem_cons,TV,false_imp_iff,implies_true,and_true];omega)) e3).mono ?_;rintro e wz ⟨rfl,hown,hz⟩;exact hK _ _ ⟨_,rfl,yO (by rw[←HL1.out];exact hown) (UA hlw2 hb.size)⟩ hz
   intro X wz hR hz;obtain⟨x0,x1,x2,x3,x4,x5,-⟩:=hR;obtain⟨b4,e4,-,-⟩:=x4;obtain⟨g5,e5,own5⟩:=x5;simp only[aF]at x0 x1 x2 x3;simp only[aE,x0,x1,x2,x3,e4,e5];clear x0 x1 x2 x3;rw[e5]at own5;have hgz:=HGP.out wz hz;have hrun:=oN (P:=Tryz.prog) (dCap:=cp-4) 22 22 3 5 Tryz.underlying22 hinfo hgz (o:=4) (by omega) (dLen:=t.size-4) (by omega) z2.symm own5;rw[z2]at hrun;have HN2:Hid (aA (wz.setCells (w.heap.size+1) 4 (strCells (aQ sp))) (w.heap.size+1) (strCells (dW t 4 (aQ sp)))):=AF hgz (by omega);have HB2:Hid (dX w [(w.heap.size,(dA UU src dst sp dp))] (wz.setCells (w.heap.size+1) 4 (strCells (aQ sp)))):=(HCP.out wz hz).cells (fun e he=>by
    rw[List.mem_singleton]at he;rw[he];show w.heap.size≠w.heap.size+1;omega) (by omega)
   clear hgz own5 hz HCP HGP;intro K10 hK10;go_simp;refine hK10 _ _ ?_;show Exit.then _ _ _ _ _;refine hK2 _ _ (hJ _ _ ?_);(repeat apply Exists.intro)
   exact⟨⟨HN2.out,HB2.out⟩,rfl⟩
  case rest=>
  obtain⟨hG,hS⟩:=hcut;have G2:Hid _:=hG;have S2:Hid (dX w [(w.heap.size,(dA UU src dst sp dp))] wc):=hS;clear hG hS HT1 HS1 HL1;generalize wc=W2 at *;have hz2:=eQ (t:=t) (u:=aQ sp) (k:=4) (by omega);have c0:=IU G2.out 0 (by omega);have f0:W2.frozen? ⟨w.heap.size+1,0,none⟩=false:=G2.out.free (by rw[strCells_length];omega);have e0:bt (dW t 4 (aQ sp)) 0=bt t 0:=by rw[kM (by omega),if_pos (by omega)]
  rw[e0]at c0;clear e0;have HHk:=S2.out.at cO;obtain⟨k0,k1,k2,k3,k4⟩:=HHk.c5;clear HHk;go_wp2_with fail
  refine(HE1.out _).mono ?_;rintro e W2 ⟨rfl,rfl⟩;go_wp2_with fail
  refine(HE2.out _).mono ?_;rintro e W2 ⟨rfl,rfl⟩;by_cases ha:bt t 0=iH p
  case pos=>
   have d0:(bt t 0==iH p)=true:=by simp[ha]
   have HF:Hid (aA (W2.setCell ⟨w.heap.size+1,0,none⟩ (.int .u8 (iH UU))) (w.heap.size+1) (strCells ans)):=by unfold Hid;rw[HX.out,if_pos ha];exact yG G2.out ra (by omega)
   have HB:Hid (Below w.heap.size w (W2.setCell ⟨w.heap.size+1,0,none⟩ (.int .u8 (iH UU)))):=S2.out.b.setCell (p:=⟨w.heap.size+1,0,none⟩) (by show w.heap.size≤w.heap.size+1;omega) _;clear ha HX G2 S2 HE1 HE2;generalize bt t 0=b0 at *;generalize iH p=ap at *;generalize iH UU=ag at *;generalize jV UU=ng at *;generalize jV p=np at *;go_wp2_with fail
   go_ret;exact⟨⟨_,_,rfl,hcap,by omega,HF.out⟩,HB.out⟩
  case neg=>
   have d0:(bt t 0==iH p)=false:=by simp[ha]
   have HF:Hid (aA (W2.setCell ⟨w.heap.size+1,0,none⟩ (.int .u8 (jV UU))) (w.heap.size+1) (strCells ans)):=by unfold Hid;rw[HX.out,if_neg ha];exact yG G2.out rn (by omega)
   have HB:Hid (Below w.heap.size w (W2.setCell ⟨w.heap.size+1,0,none⟩ (.int .u8 (jV UU)))):=S2.out.b.setCell (p:=⟨w.heap.size+1,0,none⟩) (by show w.heap.size≤w.heap.size+1;omega) _;clear ha HX G2 S2 HE1 HE2;generalize bt t 0=b0 at *;generalize iH p=ap at *;generalize iH UU=ag at *;generalize jV UU=ng at *;generalize jV p=np at *;go_wp2_with fail
   go_ret;exact⟨⟨_,_,rfl,hcap,by omega,HF.out⟩,HB.out⟩
end Go.Proofs.YtdkepkaflielhaaGreatDoor
