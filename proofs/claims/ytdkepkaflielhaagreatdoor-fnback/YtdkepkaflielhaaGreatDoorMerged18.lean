import Derived.Test.YtdkepkaflielhaaGreatDoorMerged14
import Derived.Test.YtdkepkaflielhaaGreatDoorMerged10
set_option linter.unusedVariables false
set_option linter.unusedSimpArgs false
set_option maxRecDepth 100000
set_option maxHeartbeats 8000000
namespace Go.Proofs.YtdkepkaflielhaaGreatDoor
open Go.RowKit Go.PlainAid
theorem GS(s d:BA)(p:Int)(t:BA):(aI s d p t).VF=p∧(aI s d p t).src=s∧(aI s d p t).dst=d:=by
 unfold aI;split
 ·split<;>exact⟨rfl,rfl,rfl⟩
 ·exact⟨rfl,rfl,rfl⟩
theorem DX(f:Fl)(t:BA):iW (aI f.src f.dst f.VF t) f=(decide ((aI f.src f.dst f.VF t).sp=f.sp)&&decide ((aI f.src f.dst f.VF t).dp=f.dp)):=by
 obtain⟨h1,h2,h3⟩:=GS f.src f.dst f.VF t;unfold iW;rw[h1,h2,h3];simp;rfl
theorem gY{n:Nat}{p:Int}{t:BA}(h:aS n p t=0):8≤t.size∧(p=6→20≤t.size):=by
 unfold aS at h;split at h
 ·omega
 split at h
 ·omega
 rename_i h1 h2;have h3:gC p t=false:=by simpa using h2
 unfold gC at h3;rw[Bool.or_eq_false_iff,decide_eq_false_iff_not]at h3;refine⟨by omega,fun hp=>?_⟩;have h4:=h3.1;rw[UE hp,UP,Bool.or_eq_false_iff,Bool.or_eq_false_iff,decide_eq_false_iff_not]at h4;omega
theorem mF{f:Fl}(h:dR f=true):(f.src.size≤16∧f.dst.size≤16)∧(0≤f.VF∧f.VF≤255)∧((0≤f.sp∧f.sp≤65535)∧(0≤f.dp∧f.dp≤65535)):=by
 unfold dR at h;simp only[UB]at h;obtain⟨⟨⟨⟨h1,h2⟩,h3⟩,h4⟩,h5⟩:=h;obtain⟨a,b⟩:=kT h1;refine⟨by omega,?_,by simpa[jS] using h3,by simpa[jS] using h4⟩;unfold cH at h2;simp only[UV,UB,UF]at h2;omega
theorem EN{f:Nat→Int}(K:Nat):∀m,∃z,gM f (K+m)=gM f K+gM (fun i=>f (2*K+i)) m+65535*z
 | 0=>⟨0,by simp[gM]⟩
 | m+1=>by
  obtain⟨z,e⟩:=EN (f:=f) K m;obtain⟨z1,e1⟩:=lM (gM f (K+m)) (aM f (2*(K+m)));obtain⟨z2,e2⟩:=lM (gM (fun i=>f (2*K+i)) m) (aM (fun i=>f (2*K+i)) (2*m));have ew:aM (fun i=>f (2*K+i)) (2*m)=aM f (2*(K+m)):=by
   unfold aM;show f (2*K+2*m)*256+f (2*K+(2*m+1))=_;rw[show 2*K+2*m=2*(K+m) by omega,show 2*K+(2*m+1)=2*(K+m)+1 by omega]
  refine⟨z+z1-z2,?_⟩;show gE (gM f (K+m)) (aM f (2*(K+m)))=gM f K+gE (gM (fun i=>f (2*K+i)) m) (aM (fun i=>f (2*K+i)) (2*m))+65535*(z+z1-z2);rw[ew]at e2 ⊢;rw[e1,e2,e];omega
theorem oA{a b:BA}{K:Nat}(ha:a.size=2*K):∃z,bN (a++b)=bN a+bN b+65535*z:=by
 obtain⟨z,e⟩:=EN (f:=bt (a++b)) K ((b.size+1) / 2);have e1:bN (a++b)=gM (bt (a++b)) (K+(b.size+1) / 2):=by unfold bN;rw[UQ,ha,show (2*K+b.size+1) / 2=K+(b.size+1) / 2 by omega]
 have e2:gM (bt (a++b)) K=bN a:=by
  unfold bN;rw[ha,show (2*K+1) / 2=K by omega];exact oW K (fun i hi=>by rw[dW,if_pos (by omega)])
 have e3:gM (fun i=>bt (a++b) (2*K+i)) ((b.size+1) / 2)=bN b:=by
  unfold bN;refine oW _ (fun i hi=>?_);show bt (a++b) (2*K+i)=bt b i;rw[dW,if_neg (by omega),ha,show 2*K+i-2*K=i by omega]
 exact⟨z,by rw[e1,e,e2,e3]⟩
def eB(c o n:Int):Int:=65535-gE (gE (65535-c) (65535-o)) n
theorem lV{c o n:Int}(hc:0≤c∧c≤65535)(ho:0≤o∧o≤65535)(hn:0≤n∧n≤65535):0≤eB c o n∧eB c o n≤65535:=by
 unfold eB;have h1:=iR (a:=65535-c) (b:=65535-o) (by omega) (by omega) (by omega) (by omega);have h2:=iR h1.1 h1.2 hn.1 hn.2;omega
theorem qV(c o n:Int):∃z,eB c o n=c+o-n+65535*z:=by
 unfold eB;obtain⟨z1,e1⟩:=lM (65535-c) (65535-o);obtain⟨z2,e2⟩:=lM (gE (65535-c) (65535-o)) n;exact⟨-1-z1-z2,by rw[e2,e1];omega⟩
theorem NU{c o n:Int}(hc:0≤c∧c≤65535)(ho:0≤o∧o≤65535)(hn:0≤n∧n≤65535):lT c o n=eB c o n:=by
 unfold lT eB;rw[if_pos ⟨hc,ho,hn⟩]
def bE(p:Int)(t:BA):BA:=if aL p=true then t.extract 0 2++t.extract 4 6 else t.extract 0 4
theorem iD(p:Int){t:BA}(h:8≤t.size):(bE p t).size=4:=by
 unfold bE;split
 ·rw[UQ,UR,UR];omega
 ·rw[UR];omega
def vZ(f g:Fl)(t u:BA):Int :=
 let c:=eB (eB (aM (bt t) (bI f.VF)) (bN (bE f.VF t)) (bN (bE g.VF u))) (bN (aQ f.src f.dst f.VF t.size)) (bN (aQ g.src g.dst g.VF u.size))
 if c=0 then 65535 else c
theorem JV(f g:Fl)(t:BA)(h8:8≤t.size)(h8':8≤(bX f g t).size):vZ f g t (bX f g t)=dB f g t:=by
 unfold vZ dB;obtain⟨z1,e1⟩:=oA (a:=bE f.VF t) (b:=aQ f.src f.dst f.VF t.size) (K:=2) (iD _ h8);obtain⟨z2,e2⟩:=oA (a:=bE g.VF (bX f g t)) (b:=aQ g.src g.dst g.VF (bX f g t).size) (K:=2) (iD _ h8');have p1:eI f t=bE f.VF t++aQ f.src f.dst f.VF t.size:=rfl;have p2:eI g (bX f g t)=bE g.VF (bX f g t)++aQ g.src g.dst g.VF (bX f g t).size:=rfl;rw[p1,p2];have rc:=cW (bH t) (bI f.VF);have r1:=dE (bE f.VF t);have r2:=dE (bE g.VF (bX f g t));have r3:=dE (aQ f.src f.dst f.VF t.size);have r4:=dE (aQ g.src g.dst g.VF (bX f g t).size);have r5:=dE (bE f.VF t++aQ f.src f.dst f.VF t.size);have r6:=dE (bE g.VF (bX f g t)++aQ g.src g.dst g.VF (bX f g t).size);generalize bN (bE f.VF t++aQ f.src f.dst f.VF t.size)=o at *;generalize bN (bE g.VF (bX f g t)++aQ g.src g.dst g.VF (bX f g t).size)=n at *;generalize bN (bE f.VF t)=o1 at *;generalize bN (bE g.VF (bX f g t))=n1 at *;generalize bN (aQ f.src f.dst f.VF t.size)=o2 at *;generalize bN (aQ g.src g.dst g.VF (bX f g t).size)=n2 at *;generalize aM (bt t) (bI f.VF)=c at *;have q1:=lV rc r1 r2;have q2:=lV q1 r3 r4;have q3:=lV rc r5 r6;obtain⟨y1,d1⟩:=qV c o1 n1;obtain⟨y2,d2⟩:=qV (eB c o1 n1) o2 n2;obtain⟨y3,d3⟩:=qV c o n;show (if eB (eB c o1 n1) o2 n2=0 then (65535:Int) else eB (eB c o1 n1) o2 n2)=if eB c o n=0 then 65535 else eB c o n;generalize eB (eB c o1 n1) o2 n2=a at *;generalize eB c o1 n1=b at *;generalize eB c o n=e at *;split<;>split<;>omega
theorem pY(f g:Fl)(t:BA):0≤dB f g t∧dB f g t≤65535:=by
 unfold dB;have rc:=cW (bH t) (bI f.VF);have r1:=dE (eI f t);have r2:=dE (eI g (bX f g t));have q:=lV rc r1 r2;unfold eB at q;dsimp only;split<;>omega
theorem kQ{t u:BA}{k:Nat}(h:k+u.size≤t.size)(i:Nat):bt (eG t k u) i=if i < k then bt t i else if i < k+u.size then bt u (i-k) else bt t i:=by
 unfold eG;have s1:(t.extract 0 k).size=k:=by rw[UR];omega
 rw[dW,dW,UQ,s1];by_cases h1:i < k
 ·rw[if_pos (by omega),if_pos h1,if_pos h1,fB _ _ _ _ (by omega),if_pos (by omega),UI]
 ·by_cases h2:i < k+u.size
  ·rw[if_pos h2,if_neg h1,if_neg h1,if_pos h2]
  ·rw[if_neg h2,if_neg h1,if_neg h2,fB _ _ _ _ lR];by_cases h3:i < t.size
   ·rw[if_pos (by omega),show k+u.size+(i-(k+u.size))=i by omega]
   ·rw[if_neg (by omega)];unfold bt;rw[dif_neg (by omega)]
def MN(p:Int)(g:Fl)(t:BA):BA :=
 if aL g.VF=true then eG (eG t 4 (aR g.sp)) 0 (lP (if bt t 0=iN p then iN g.VF else jV g.VF)) else eG t 0 (aR g.sp++aR g.dp)
theorem lF(x:Int):(lP x).size=1:=rfl
theorem ND{t u v:BA}(hu:u.size=2)(hv:v.size=1)(ht:8≤t.size):eG (eG t 4 u) 0 v=eG (eG t 0 v) 4 u:=by
 have s1:=eR (t:=t) (u:=u) (k:=4) (by omega);have s2:=eR (t:=t) (u:=v) (k:=0) (by omega);refine FK ?_ (fun i hi=>?_)
 ·have a1:=eR (t:=eG t 4 u) (u:=v) (k:=0) (by omega);have a2:=eR (t:=eG t 0 v) (u:=u) (k:=4) (by omega);omega
 ·rw[kQ (by omega),kQ (by omega),kQ (by omega),kQ (by omega),hu,hv];(repeat' split)<;>first | rfl | (exfalso;omega)
theorem FY{f g:Fl}{t:BA}(hf:aL f.VF=true)(hg:aL g.VF=true)(hb:bt t 0=iN f.VF∨bt t 0=jV f.VF):(if bt t 0=iN f.VF then iN g.VF else jV g.VF)=lK f g t:=by
 unfold aL at hf hg;simp only[UV,UF]at hf hg;unfold lK;rcases hf with hf|hf<;>rcases hg with hg|hg<;>rw[hf]at hb ⊢<;>rw[hg]<;>rcases hb with hb|hb<;>rw[hb]<;>decide
theorem uL{f g:Fl}{t:BA}(h:kZ f g t=true):dR f=true∧dR g=true∧(f.VF=g.VF∨aL f.VF=true∧aL g.VF=true)∧aS f.src.size f.VF t=0:=by
 unfold kZ at h;simp only[UB,UF,UV]at h;exact⟨h.1.1.1.1.1,h.1.1.1.1.2,h.1.1.1.2,h.1.1.2⟩
theorem JS{n:Nat}{p:Int}{t:BA}(h:aS n p t=0)(he:aL p=true):bt t 0=iN p∨bt t 0=jV p:=by
 unfold aS at h;by_cases h1:cH p n=false
 ·rw[if_pos h1]at h;simp at h
 rw[if_neg h1]at h;by_cases h2:gC p t=true
 ·rw[if_pos h2]at h;simp at h
 rw[if_neg h2,if_pos he]at h;by_cases h3:(bt t 0≠iN p∧bt t 0≠jV p)∨bt t 1≠0
 ·rw[if_pos h3]at h;simp at h
 ·by_cases h4:bt t 0=iN p
  ·exact .inl h4
  ·refine .inr (Classical.byContradiction fun h5=>h3 (.inl ⟨h4,h5⟩))
theorem OZ{f g:Fl}{t:BA}(h:kZ f g t=true):MN f.VF g t=bX f g t:=by
 obtain⟨h1,h2,h3,h4⟩:=uL h;have h8:=(gY h4).1;have he:aL g.VF=aL f.VF:=by
  rcases h3 with h3|h3
  ·rw[h3]
  ·rw[h3.1,h3.2]
 unfold MN bX;rw[he];by_cases hf:aL f.VF=true
 ·rw[if_pos hf,if_pos hf,FY hf (he.trans hf) (JS h4 hf)];exact ND (aP _) (lF _) h8
 ·rw[if_neg hf,if_neg hf]
theorem kH{f g:Fl}{t:BA}(h8:8≤t.size):(bX f g t).size=t.size:=by
 unfold bX;split
 ·rw[eR,eR]
  ·rw[lF];omega
  ·rw[eR,aP]
   ·omega
   ·rw[lF];omega
 ·rw[eR];rw[UQ,aP,aP];omega
theorem IC{f g:Fl}{t:BA}(ht:t.size≤20000):kZ f g t=((decide (aZ f.src f.dst f.VF t=0)&&iW (bM f.src f.dst f.VF t) f)&&(dR g&&(decide (f.VF=g.VF)||(aL f.VF&&aL g.VF)))):=by
 unfold kZ;by_cases hc:aZ f.src f.dst f.VF t=0
 ·have hfo:bM f.src f.dst f.VF t=aI f.src f.dst f.VF t:=by unfold bM;rw[if_pos hc]
  rw[UE hc,hfo,DX];have hc2:=hc;unfold aZ at hc2;by_cases h1:20000 < t.size∨20000 < f.src.size∨20000 < f.dst.size
  ·rw[if_pos h1]at hc2;simp at hc2
  rw[if_neg h1]at hc2;by_cases h2:eM f.src f.dst=false
  ·rw[if_pos h2]at hc2;simp at hc2
  rw[if_neg h2]at hc2;have h2':eM f.src f.dst=true:=by simpa using h2
  have hpo:cH f.VF f.src.size=true:=by
   unfold aS at hc2;by_cases h3:cH f.VF f.src.size=false
   ·rw[if_pos h3]at hc2;simp at hc2
   ·simpa using h3
  by_cases h4:(aI f.src f.dst f.VF t).sp=f.sp
  ·by_cases h5:(aI f.src f.dst f.VF t).dp=f.dp
   ·have hfk:dR f=true:=by
     unfold dR;unfold aI at h4 h5;rw[if_pos hc2]at h4 h5;have w0:=cW (bH t) 0;have w2:=cW (bH t) 2;have w4:=cW (bH t) 4;by_cases he:aL f.VF=true
     ·rw[if_pos he]at h4 h5;dsimp only at h4 h5;rw[h2',hpo,he,←h4,←h5,iG w4.1 w4.2];simp
     ·rw[if_neg he]at h4 h5;dsimp only at h4 h5;rw[h2',hpo,←h4,←h5,iG w0.1 w0.2,iG w2.1 w2.2];simp[he]
    simp[hfk,hc2,h4,h5,Bool.and_assoc]
   ·simp[h5]
  ·simp[h4]
 ·rw[UD hc,Bool.false_and,Bool.false_and];by_cases hf:dR f=true
  ·have hp:eM f.src f.dst=true:=by unfold dR at hf;simp only[UB]at hf;exact hf.1.1.1.1
   obtain⟨hs,hd⟩:=kT hp;have:aS f.src.size f.VF t≠0:=fun h0=>hc (by
    unfold aZ;rw[if_neg (by omega),if_neg (by rw[hp];simp)];exact h0)
   simp[this]
  ·simp[hf]
def pV(f:Fl)(t:BA):Bool:=decide (f.VF=17)&&decide (aM (bt t) 6=0)
theorem rL(f:Fl)(t:BA):fQ f t=(pV f t&&decide (f.src.size=4)):=by
 unfold fQ pV;by_cases h:f.VF=17
 ·rw[h];rfl
 ·simp[h]
theorem uF(p:Int)(w:World) :
  Cw 153 #[iV p] w (iV (bI p:Nat)):=by
 by_cases h1:p=6
 ·subst h1;go_enter Tryz.func153,Tryz.ntmps153
  go_wp2_with fail
  go_ret;exact⟨rfl,rfl⟩
 ·have d1:(p==6)=false:=by simp[h1]
  by_cases h2:p=17
  ·subst h2;go_enter Tryz.func153,Tryz.ntmps153
   go_wp2_with fail
   go_ret;exact⟨rfl,rfl⟩
  ·have d2:(p==17)=false:=by simp[h2]
   have HV:Hid (bI p=2):=by unfold Hid bI;rw[if_neg h1,if_neg h2]
   generalize bI p=ans at *;go_enter Tryz.func153,Tryz.ntmps153
   go_wp2_with fail
   go_ret;exact⟨aK (by rw[HV.out];rfl),rfl⟩
theorem GJ(a b:Int)(w:World) :
  Cw 150 #[iV a,iV b] w (.bool (decide (a=b)||(aL a&&aL b))):=by
 have HA:Hid (∀W,Cw 100 #[iV a] W (.bool (aL a))):=fun W=>fS a W
 have HB:Hid (∀W,Cw 100 #[iV b] W (.bool (aL b))):=fun W=>fS b W
 have hun:undef=Value.tuple #[]:=rfl;by_cases h:a=b
 ·have d1:(a==b)=true:=by simp[h]
  have HV:Hid ((decide (a=b)||(aL a&&aL b))=true):=by unfold Hid;simp[h]
  generalize (decide (a=b)||(aL a&&aL b))=ans at *;clear h HA HB;go_enter Tryz.func150,Tryz.ntmps150
  go_wp2_with fail
  go_ret;exact⟨aC (by rw[HV.out]),rfl⟩
 ·have d1:(a==b)=false:=by simp[h]
  have HV:Hid ((decide (a=b)||(aL a&&aL b))=(aL a&&aL b)):=by unfold Hid;simp[h]
  generalize (decide (a=b)||(aL a&&aL b))=ans at *;generalize aL a=ea at *;generalize aL b=eb at *;clear h
  cases ea with
  | false=>
   go_enter Tryz.func150,Tryz.ntmps150
   go_wp2_with fail
   refine(HA.out _).mono ?_;rintro e w2 ⟨rfl,rfl⟩;go_wp2_with fail
   go_ret;exact⟨aC (by rw[HV.out];rfl),rfl⟩
  | true=>
   go_enter Tryz.func150,Tryz.ntmps150
   go_wp2_with fail
   refine(HA.out _).mono ?_;rintro e w2 ⟨rfl,rfl⟩;go_wp2_with fail
   refine(HB.out _).mono ?_;rintro e w3 ⟨rfl,rfl⟩;go_wp2_with fail
   go_ret;exact⟨aC (by rw[HV.out];rfl),rfl⟩
theorem rD(p:Int)(t:BA)(w:World)(h8:8≤t.size)(ht:t.size≤1048576) :
  Cb 175 #[iV p,.string t] w (.string (bE p t)):=by
 have HE:Hid (∀W,Cw 100 #[iV p] W (.bool (aL p))):=fun W=>fS p W
 have L1:∀W,(Instr.slice 9 (.string t) none (some (iV 4)) none).run Tryz.prog W=.ok (.string (t.extract 0 4)) W:=fun W=>run_slice_string_h (P:=Tryz.prog) (t:=9) (s:=t) (w:=W) (ht:=Tryz.underlying9) .i64 (4:Int) (by omega) (by omega)
 have L2:∀W,(Instr.slice 9 (.string t) none (some (iV 2)) none).run Tryz.prog W=.ok (.string (t.extract 0 2)) W:=fun W=>run_slice_string_h (P:=Tryz.prog) (t:=9) (s:=t) (w:=W) (ht:=Tryz.underlying9) .i64 (2:Int) (by omega) (by omega)
 have L3:∀W,(Instr.slice 9 (.string t) (some (iV 4)) (some (iV 6)) none).run Tryz.prog W=.ok (.string (t.extract 4 6)) W:=fun W=>xN t 4 6 W (by omega) (by omega)
 have z1:(t.extract 0 4).size=4:=by rw[UR];omega
 have z2:(t.extract 0 2).size=2:=by rw[UR];omega
 have z3:(t.extract 4 6).size=2:=by rw[UR];omega
 have HV:Hid (bE p t=if aL p=true then t.extract 0 2++t.extract 4 6 else t.extract 0 4):=rfl;generalize t.extract 0 4=u1 at *;generalize t.extract 0 2=u2 at *;generalize t.extract 4 6=u3 at *;generalize bE p t=ans at *;have n1:¬9223372036854775807 < u2.size+u3.size:=by omega
 generalize aL p=b at *
 cases b with
 | false=>
  replace HV:Hid (ans=u1):=HV.out;go_enter Tryz.func175,Tryz.ntmps175
  go_wp2_with fail
  refine(HE.out _).mono ?_;rintro e w2 ⟨rfl,rfl⟩;go_wp2_with fail
  go_ret;exact⟨by rw[HV.out];rfl,Below.refl _ _⟩
 | true=>
  replace HV:Hid (ans=u2++u3):=HV.out;go_enter Tryz.func175,Tryz.ntmps175
  go_wp2_with fail
  refine(HE.out _).mono ?_;rintro e w2 ⟨rfl,rfl⟩;go_wp2_with fail
  go_region
  all_goals go_wp2_with fail
  all_goals go_ret
  all_goals exact⟨by rw[HV.out];rfl,bR.drew⟩
end Go.Proofs.YtdkepkaflielhaaGreatDoor
