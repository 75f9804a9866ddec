import Derived.Test.YtdkepkaflielhaaGreatDoorSz
import Derived.Test.YtdkepkaflielhaaGreatDoorAb
import Derived.Test.YtdkepkaflielhaaGreatDoorCarry
import Derived.Test.YtdkepkaflielhaaGreatDoorSumMath
import Derived.Test.YtdkepkaflielhaaGreatDoorEmbed
import Derived.Test.YtdkepkaflielhaaGreatDoorSCSet
import Derived.Test.YtdkepkaflielhaaGreatDoorIFlowOf
set_option linter.unusedVariables false
set_option linter.unusedSimpArgs false
set_option maxRecDepth 100000
set_option maxHeartbeats 8000000
namespace Go.Proofs.YtdkepkaflielhaaGreatDoor
open Go.RowKit Go.PlainAid
theorem sumN_app {f:Nat→Int} (K:Nat):∀ m,∃ z,sumN f (K+m)=sumN f K+sumN (fun i=>f (2*K+i)) m+65535*z
 | 0=>⟨0,by simp [sumN]⟩
 | m+1=>by
  obtain ⟨z,e⟩:=sumN_app (f:=f) K m;obtain ⟨z1,e1⟩:=add1_mod (sumN f (K+m)) (wordN f (2*(K+m)));obtain ⟨z2,e2⟩:=add1_mod (sumN (fun i=>f (2*K+i)) m) (wordN (fun i=>f (2*K+i)) (2*m));have ew:wordN (fun i=>f (2*K+i)) (2*m)=wordN f (2*(K+m)):=by
   unfold wordN;show f (2*K+2*m)*256+f (2*K+(2*m+1))=_;rw [show 2*K+2*m=2*(K+m) by omega,show 2*K+(2*m+1)=2*(K+m)+1 by omega]
  refine ⟨z+z1-z2,?_⟩;show add1 (sumN f (K+m)) (wordN f (2*(K+m)))=sumN f K+add1 (sumN (fun i=>f (2*K+i)) m) (wordN (fun i=>f (2*K+i)) (2*m))+65535*(z+z1-z2);rw [ew] at e2 ⊢;rw [e1,e2,e]; omega
theorem sumV_app {a b:ByteArray} {K:Nat} (ha:a.size=2*K):∃ z,sumV (a++b)=sumV a+sumV b+65535*z:=by
 obtain ⟨z,e⟩:=sumN_app (f:=bt (a++b)) K ((b.size+1) / 2);have e1:sumV (a++b)=sumN (bt (a++b)) (K+(b.size+1) / 2):=by unfold sumV; rw [ByteArray.size_append,ha,show (2*K+b.size+1) / 2=K+(b.size+1) / 2 by omega]
 have e2:sumN (bt (a++b)) K=sumV a:=by
  unfold sumV; rw [ha,show (2*K+1) / 2=K by omega];exact sumN_congr K (fun i hi=>by rw [bt_append,if_pos (by omega)])
 have e3:sumN (fun i=>bt (a++b) (2*K+i)) ((b.size+1) / 2)=sumV b:=by
  unfold sumV;refine sumN_congr _ (fun i hi=>?_);show bt (a++b) (2*K+i)=bt b i;rw [bt_append,if_neg (by omega),ha,show 2*K+i-2*K=i by omega]
 exact ⟨z,by rw [e1,e,e2,e3]⟩
def turn1 (c o n:Int):Int:=65535-add1 (add1 (65535-c) (65535-o)) n
theorem turn1_range {c o n:Int} (hc:0≤c∧c≤65535) (ho:0≤o∧o≤65535) (hn:0≤n∧n≤65535):0≤turn1 c o n∧turn1 c o n≤65535:=by
 unfold turn1;have h1:=add1_range (a:=65535-c) (b:=65535-o) (by omega) (by omega) (by omega) (by omega);have h2:=add1_range h1.1 h1.2 hn.1 hn.2;omega
theorem turn1_mod (c o n:Int):∃ z,turn1 c o n=c+o-n+65535*z:=by
 unfold turn1;obtain ⟨z1,e1⟩:=add1_mod (65535-c) (65535-o);obtain ⟨z2,e2⟩:=add1_mod (add1 (65535-c) (65535-o)) n;exact ⟨-1-z1-z2,by rw [e2,e1]; omega⟩
theorem turnV_of {c o n:Int} (hc:0≤c∧c≤65535) (ho:0≤o∧o≤65535) (hn:0≤n∧n≤65535):sumTurnV c o n=turn1 c o n:=by
 unfold sumTurnV turn1; rw [if_pos ⟨hc,ho,hn⟩]
def setPartV (p:Int) (t:ByteArray):ByteArray:=if echoP p=true then t.extract 0 2++t.extract 4 6 else t.extract 0 4
theorem setPartV_size (p:Int) {t:ByteArray} (h:8≤t.size):(setPartV p t).size=4:=by
 unfold setPartV;split
 ·rw [ByteArray.size_append,ByteArray.size_extract,ByteArray.size_extract]; omega
 ·rw [ByteArray.size_extract]; omega
def checkI (f g:Fl) (t u:ByteArray):Int :=
 let c:=turn1 (turn1 (wordN (bt t) (checkP f.proto)) (sumV (setPartV f.proto t)) (sumV (setPartV g.proto u))) (sumV (pseudoV f.src f.dst f.proto t.size)) (sumV (pseudoV g.src g.dst g.proto u.size))
 if c=0 then 65535 else c
theorem checkI_eq (f g:Fl) (t:ByteArray) (h8:8≤t.size) (h8':8≤(setOut f g t).size):checkI f g t (setOut f g t)=newCheck f g t:=by
 unfold checkI newCheck;obtain ⟨z1,e1⟩:=sumV_app (a:=setPartV f.proto t) (b:=pseudoV f.src f.dst f.proto t.size) (K:=2) (setPartV_size _ h8);obtain ⟨z2,e2⟩:=sumV_app (a:=setPartV g.proto (setOut f g t)) (b:=pseudoV g.src g.dst g.proto (setOut f g t).size) (K:=2) (setPartV_size _ h8');have p1:partV f t=setPartV f.proto t++pseudoV f.src f.dst f.proto t.size:=rfl;have p2:partV g (setOut f g t)=setPartV g.proto (setOut f g t)++pseudoV g.src g.dst g.proto (setOut f g t).size:=rfl;rw [p1,p2];have rc:=wordN_range (bt_isByte t) (checkP f.proto);have r1:=sumV_range (setPartV f.proto t);have r2:=sumV_range (setPartV g.proto (setOut f g t));have r3:=sumV_range (pseudoV f.src f.dst f.proto t.size);have r4:=sumV_range (pseudoV g.src g.dst g.proto (setOut f g t).size);have r5:=sumV_range (setPartV f.proto t++pseudoV f.src f.dst f.proto t.size);have r6:=sumV_range (setPartV g.proto (setOut f g t)++pseudoV g.src g.dst g.proto (setOut f g t).size);generalize sumV (setPartV f.proto t++pseudoV f.src f.dst f.proto t.size)=o at *;generalize sumV (setPartV g.proto (setOut f g t)++pseudoV g.src g.dst g.proto (setOut f g t).size)=n at *;generalize sumV (setPartV f.proto t)=o1 at *;generalize sumV (setPartV g.proto (setOut f g t))=n1 at *;generalize sumV (pseudoV f.src f.dst f.proto t.size)=o2 at *;generalize sumV (pseudoV g.src g.dst g.proto (setOut f g t).size)=n2 at *;generalize wordN (bt t) (checkP f.proto)=c at *;have q1:=turn1_range rc r1 r2;have q2:=turn1_range q1 r3 r4;have q3:=turn1_range rc r5 r6;obtain ⟨y1,d1⟩:=turn1_mod c o1 n1;obtain ⟨y2,d2⟩:=turn1_mod (turn1 c o1 n1) o2 n2;obtain ⟨y3,d3⟩:=turn1_mod c o n;show (if turn1 (turn1 c o1 n1) o2 n2=0 then (65535:Int) else turn1 (turn1 c o1 n1) o2 n2)=if turn1 c o n=0 then 65535 else turn1 c o n;generalize turn1 (turn1 c o1 n1) o2 n2=a at *;generalize turn1 c o1 n1=b at *;generalize turn1 c o n=e at *;split<;>split<;>omega
theorem newCheck_range (f g:Fl) (t:ByteArray):0≤newCheck f g t∧newCheck f g t≤65535:=by
 unfold newCheck;have rc:=wordN_range (bt_isByte t) (checkP f.proto);have r1:=sumV_range (partV f t);have r2:=sumV_range (partV g (setOut f g t));have q:=turn1_range rc r1 r2;unfold turn1 at q;dsimp only;split<;>omega
theorem bt_put {t u:ByteArray} {k:Nat} (h:k+u.size≤t.size) (i:Nat):bt (putV t k u) i=if i < k then bt t i else if i < k+u.size then bt u (i-k) else bt t i:=by
 unfold putV;have s1:(t.extract 0 k).size=k:=by rw [ByteArray.size_extract]; omega
 rw [bt_append,bt_append,ByteArray.size_append,s1];by_cases h1:i < k
 ·rw [if_pos (by omega),if_pos h1,if_pos h1,bt_extract _ _ _ _ (by omega),if_pos (by omega),Nat.zero_add]
 ·by_cases h2:i < k+u.size
  ·rw [if_pos h2,if_neg h1,if_neg h1,if_pos h2]
  ·rw [if_neg h2,if_neg h1,if_neg h2,bt_extract _ _ _ _ lR];by_cases h3:i < t.size
   ·rw [if_pos (by omega),show k+u.size+(i-(k+u.size))=i by omega]
   ·rw [if_neg (by omega)];unfold bt; rw [dif_neg (by omega)]
def layV (p:Int) (g:Fl) (t:ByteArray):ByteArray :=
 if echoP g.proto=true then putV (putV t 4 (twoV g.sp)) 0 (oneV (if bt t 0=askP p then askP g.proto else ansP g.proto)) else putV t 0 (twoV g.sp++twoV g.dp)
theorem oneV_size (x:Int):(oneV x).size=1:=rfl
theorem put_swap {t u v:ByteArray} (hu:u.size=2) (hv:v.size=1) (ht:8≤t.size):putV (putV t 4 u) 0 v=putV (putV t 0 v) 4 u:=by
 have s1:=putV_size (t:=t) (u:=u) (k:=4) (by omega);have s2:=putV_size (t:=t) (u:=v) (k:=0) (by omega);refine ba_ext ?_ (fun i hi=>?_)
 ·have a1:=putV_size (t:=putV t 4 u) (u:=v) (k:=0) (by omega);have a2:=putV_size (t:=putV t 0 v) (u:=u) (k:=4) (by omega);omega
 ·rw [bt_put (by omega),bt_put (by omega),bt_put (by omega),bt_put (by omega),hu,hv];(repeat' split)<;>first | rfl | (exfalso; omega)
theorem first_same {f g:Fl} {t:ByteArray} (hf:echoP f.proto=true) (hg:echoP g.proto=true) (hb:bt t 0=askP f.proto∨bt t 0=ansP f.proto):(if bt t 0=askP f.proto then askP g.proto else ansP g.proto)=firstV8 f g t:=by
 unfold echoP at hf hg;simp only [Bool.or_eq_true,decide_eq_true_iff] at hf hg;unfold firstV8;rcases hf with hf | hf<;>rcases hg with hg | hg<;>rw [hf] at hb ⊢<;>rw [hg]<;>rcases hb with hb | hb<;>rw [hb]<;>decide
theorem setIn_parts {f g:Fl} {t:ByteArray} (h:setIn f g t=true):flowOk f=true∧flowOk g=true∧(f.proto=g.proto∨echoP f.proto=true∧echoP g.proto=true)∧ofCode f.src.size f.proto t=0:=by
 unfold setIn at h;simp only [Bool.and_eq_true,decide_eq_true_iff,Bool.or_eq_true] at h;exact ⟨h.1.1.1.1.1,h.1.1.1.1.2,h.1.1.1.2,h.1.1.2⟩
theorem begins_of {n:Nat} {p:Int} {t:ByteArray} (h:ofCode n p t=0) (he:echoP p=true):bt t 0=askP p∨bt t 0=ansP p:=by
 unfold ofCode at h;by_cases h1:protoOk p n=false
 ·rw [if_pos h1] at h; simp at h
 rw [if_neg h1] at h;by_cases h2:shortP p t=true
 ·rw [if_pos h2] at h; simp at h
 rw [if_neg h2,if_pos he] at h;by_cases h3:(bt t 0≠askP p∧bt t 0≠ansP p)∨bt t 1≠0
 ·rw [if_pos h3] at h; simp at h
 ·by_cases h4:bt t 0=askP p
  ·exact .inl h4
  ·refine .inr (Classical.byContradiction fun h5=>h3 (.inl ⟨h4,h5⟩))
theorem lay_set {f g:Fl} {t:ByteArray} (h:setIn f g t=true):layV f.proto g t=setOut f g t:=by
 obtain ⟨h1,h2,h3,h4⟩:=setIn_parts h;have h8:=(ofCode_size h4).1;have he:echoP g.proto=echoP f.proto:=by
  rcases h3 with h3 | h3
  ·rw [h3]
  ·rw [h3.1,h3.2]
 unfold layV setOut;rw [he];by_cases hf:echoP f.proto=true
 ·rw [if_pos hf,if_pos hf,first_same hf (he.trans hf) (begins_of h4 hf)];exact put_swap (twoV_size _) (oneV_size _) h8
 ·rw [if_neg hf,if_neg hf]
theorem setOut_size {f g:Fl} {t:ByteArray} (h8:8≤t.size):(setOut f g t).size=t.size:=by
 unfold setOut;split
 ·rw [putV_size,putV_size]
  ·rw [oneV_size]; omega
  ·rw [putV_size,twoV_size]
   ·omega
   ·rw [oneV_size]; omega
 ·rw [putV_size];rw [ByteArray.size_append,twoV_size,twoV_size]; omega
theorem setIn_prog {f g:Fl} {t:ByteArray} (ht:t.size≤20000):setIn f g t=((decide (flowCode f.src f.dst f.proto t=0)&&sameFlow (flowOfV f.src f.dst f.proto t) f)&&(flowOk g&&(decide (f.proto=g.proto)||(echoP f.proto&&echoP g.proto)))):=by
 unfold setIn;by_cases hc:flowCode f.src f.dst f.proto t=0
 ·have hfo:flowOfV f.src f.dst f.proto t=ofFl f.src f.dst f.proto t:=by unfold flowOfV; rw [if_pos hc]
  rw [decide_eq_true hc,hfo,sameFlow_of];have hc2:=hc;unfold flowCode at hc2;by_cases h1:20000 < t.size∨20000 < f.src.size∨20000 < f.dst.size
  ·rw [if_pos h1] at hc2; simp at hc2
  rw [if_neg h1] at hc2;by_cases h2:pairOk f.src f.dst=false
  ·rw [if_pos h2] at hc2; simp at hc2
  rw [if_neg h2] at hc2;have h2':pairOk f.src f.dst=true:=by simpa using h2
  have hpo:protoOk f.proto f.src.size=true:=by
   unfold ofCode at hc2;by_cases h3:protoOk f.proto f.src.size=false
   ·rw [if_pos h3] at hc2; simp at hc2
   ·simpa using h3
  by_cases h4:(ofFl f.src f.dst f.proto t).sp=f.sp
  ·by_cases h5:(ofFl f.src f.dst f.proto t).dp=f.dp
   ·have hfk:flowOk f=true:=by
     unfold flowOk;unfold ofFl at h4 h5;rw [if_pos hc2] at h4 h5;have w0:=wordN_range (bt_isByte t) 0;have w2:=wordN_range (bt_isByte t) 2;have w4:=wordN_range (bt_isByte t) 4;by_cases he:echoP f.proto=true
     ·rw [if_pos he] at h4 h5;dsimp only at h4 h5;rw [h2',hpo,he,← h4,← h5,isW_yes w4.1 w4.2]; simp
     ·rw [if_neg he] at h4 h5;dsimp only at h4 h5;rw [h2',hpo,← h4,← h5,isW_yes w0.1 w0.2,isW_yes w2.1 w2.2]; simp [he]
    simp [hfk,hc2,h4,h5,Bool.and_assoc]
   ·simp [h5]
  ·simp [h4]
 ·rw [decide_eq_false hc,Bool.false_and,Bool.false_and];by_cases hf:flowOk f=true
  ·have hp:pairOk f.src f.dst=true:=by unfold flowOk at hf; simp only [Bool.and_eq_true] at hf; exact hf.1.1.1.1
   obtain ⟨hs,hd⟩:=pairOk_parts hp;have:ofCode f.src.size f.proto t≠0:=fun h0=>hc (by
    unfold flowCode;rw [if_neg (by omega),if_neg (by rw [hp]; simp)]; exact h0)
   simp [this]
  ·simp [hf]
def lacksV (f:Fl) (t:ByteArray):Bool:=decide (f.proto=17)&&decide (wordN (bt t) 6=0)
theorem bare_lacks (f:Fl) (t:ByteArray):bareUdp f t=(lacksV f t&&decide (f.src.size=4)):=by
 unfold bareUdp lacksV;by_cases h:f.proto=17
 ·rw [h]; rfl
 ·simp [h]
end Go.Proofs.YtdkepkaflielhaaGreatDoor
