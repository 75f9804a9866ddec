import Derived.Test.YtdkepkaflielhaaGreatDoorMerged26
import Derived.Lib.AppendStr
import Derived.Laws.IdiomCopy
import Derived.Deep.OwnRows
import Derived.Lib.BufferWrite
set_option linter.unusedVariables false
set_option linter.unusedSimpArgs false
set_option maxRecDepth 100000
set_option maxHeartbeats 8000000
namespace Go.Proofs.YtdkepkaflielhaaGreatDoor
open Go.RowKit Go.PlainAid
theorem sumN_app {f:Nat→Int} (K:Nat):∀ m,∃ z,sumN f (K+m)=sumN f K+sumN (fun i=>f (2*K+i)) m+65535*z
 | 0=>⟨0,by simp [sumN]⟩
 | m+1=>by
  obtain ⟨z,e⟩:=sumN_app (f:=f) K m;obtain ⟨z1,e1⟩:=add1_mod (sumN f (K+m)) (wordN f (2*(K+m)));obtain ⟨z2,e2⟩:=add1_mod (sumN (fun i=>f (2*K+i)) m) (wordN (fun i=>f (2*K+i)) (2*m));have ew:wordN (fun i=>f (2*K+i)) (2*m)=wordN f (2*(K+m)):=by
   unfold wordN;show f (2*K+2*m)*256+f (2*K+(2*m+1))=_;rw [show 2*K+2*m=2*(K+m) by omega,show 2*K+(2*m+1)=2*(K+m)+1 by omega]
  refine ⟨z+z1-z2,?_⟩;show add1 (sumN f (K+m)) (wordN f (2*(K+m)))=sumN f K+add1 (sumN (fun i=>f (2*K+i)) m) (wordN (fun i=>f (2*K+i)) (2*m))+65535*(z+z1-z2);rw [ew] at e2 ⊢;rw [e1,e2,e]; omega
theorem sumV_app {a b:ByteArray} {K:Nat} (ha:a.size=2*K):∃ z,sumV (a++b)=sumV a+sumV b+65535*z:=by
 obtain ⟨z,e⟩:=sumN_app (f:=bt (a++b)) K ((b.size+1) / 2);have e1:sumV (a++b)=sumN (bt (a++b)) (K+(b.size+1) / 2):=by unfold sumV; rw [ByteArray.size_append,ha,show (2*K+b.size+1) / 2=K+(b.size+1) / 2 by omega]
 have e2:sumN (bt (a++b)) K=sumV a:=by
  unfold sumV; rw [ha,show (2*K+1) / 2=K by omega];exact sumN_congr K (fun i hi=>by rw [bt_append,if_pos (by omega)])
 have e3:sumN (fun i=>bt (a++b) (2*K+i)) ((b.size+1) / 2)=sumV b:=by
  unfold sumV;refine sumN_congr _ (fun i hi=>?_);show bt (a++b) (2*K+i)=bt b i;rw [bt_append,if_neg (by omega),ha,show 2*K+i-2*K=i by omega]
 exact ⟨z,by rw [e1,e,e2,e3]⟩
def turn1 (c o n:Int):Int:=65535-add1 (add1 (65535-c) (65535-o)) n
theorem turn1_range {c o n:Int} (hc:0≤c∧c≤65535) (ho:0≤o∧o≤65535) (hn:0≤n∧n≤65535):0≤turn1 c o n∧turn1 c o n≤65535:=by
 unfold turn1;have h1:=add1_range (a:=65535-c) (b:=65535-o) (by omega) (by omega) (by omega) (by omega);have h2:=add1_range h1.1 h1.2 hn.1 hn.2;omega
theorem turn1_mod (c o n:Int):∃ z,turn1 c o n=c+o-n+65535*z:=by
 unfold turn1;obtain ⟨z1,e1⟩:=add1_mod (65535-c) (65535-o);obtain ⟨z2,e2⟩:=add1_mod (add1 (65535-c) (65535-o)) n;exact ⟨-1-z1-z2,by rw [e2,e1]; omega⟩
theorem turnV_of {c o n:Int} (hc:0≤c∧c≤65535) (ho:0≤o∧o≤65535) (hn:0≤n∧n≤65535):sumTurnV c o n=turn1 c o n:=by
 unfold sumTurnV turn1; rw [if_pos ⟨hc,ho,hn⟩]
def setPartV (p:Int) (t:ByteArray):ByteArray:=if echoP p=true then t.extract 0 2++t.extract 4 6 else t.extract 0 4
theorem setPartV_size (p:Int) {t:ByteArray} (h:8≤t.size):(setPartV p t).size=4:=by
 unfold setPartV;split
 ·rw [ByteArray.size_append,ByteArray.size_extract,ByteArray.size_extract]; omega
 ·rw [ByteArray.size_extract]; omega
def checkI (f g:Fl) (t u:ByteArray):Int :=
 let c:=turn1 (turn1 (wordN (bt t) (checkP f.proto)) (sumV (setPartV f.proto t)) (sumV (setPartV g.proto u))) (sumV (pseudoV f.src f.dst f.proto t.size)) (sumV (pseudoV g.src g.dst g.proto u.size))
 if c=0 then 65535 else c
theorem checkI_eq (f g:Fl) (t:ByteArray) (h8:8≤t.size) (h8':8≤(setOut f g t).size):checkI f g t (setOut f g t)=newCheck f g t:=by
 unfold checkI newCheck;obtain ⟨z1,e1⟩:=sumV_app (a:=setPartV f.proto t) (b:=pseudoV f.src f.dst f.proto t.size) (K:=2) (setPartV_size _ h8);obtain ⟨z2,e2⟩:=sumV_app (a:=setPartV g.proto (setOut f g t)) (b:=pseudoV g.src g.dst g.proto (setOut f g t).size) (K:=2) (setPartV_size _ h8');have p1:partV f t=setPartV f.proto t++pseudoV f.src f.dst f.proto t.size:=rfl;have p2:partV g (setOut f g t)=setPartV g.proto (setOut f g t)++pseudoV g.src g.dst g.proto (setOut f g t).size:=rfl;rw [p1,p2];have rc:=wordN_range (bt_isByte t) (checkP f.proto);have r1:=sumV_range (setPartV f.proto t);have r2:=sumV_range (setPartV g.proto (setOut f g t));have r3:=sumV_range (pseudoV f.src f.dst f.proto t.size);have r4:=sumV_range (pseudoV g.src g.dst g.proto (setOut f g t).size);have r5:=sumV_range (setPartV f.proto t++pseudoV f.src f.dst f.proto t.size);have r6:=sumV_range (setPartV g.proto (setOut f g t)++pseudoV g.src g.dst g.proto (setOut f g t).size);generalize sumV (setPartV f.proto t++pseudoV f.src f.dst f.proto t.size)=o at *;generalize sumV (setPartV g.proto (setOut f g t)++pseudoV g.src g.dst g.proto (setOut f g t).size)=n at *;generalize sumV (setPartV f.proto t)=o1 at *;generalize sumV (setPartV g.proto (setOut f g t))=n1 at *;generalize sumV (pseudoV f.src f.dst f.proto t.size)=o2 at *;generalize sumV (pseudoV g.src g.dst g.proto (setOut f g t).size)=n2 at *;generalize wordN (bt t) (checkP f.proto)=c at *;have q1:=turn1_range rc r1 r2;have q2:=turn1_range q1 r3 r4;have q3:=turn1_range rc r5 r6;obtain ⟨y1,d1⟩:=turn1_mod c o1 n1;obtain ⟨y2,d2⟩:=turn1_mod (turn1 c o1 n1) o2 n2;obtain ⟨y3,d3⟩:=turn1_mod c o n;show (if turn1 (turn1 c o1 n1) o2 n2=0 then (65535:Int) else turn1 (turn1 c o1 n1) o2 n2)=if turn1 c o n=0 then 65535 else turn1 c o n;generalize turn1 (turn1 c o1 n1) o2 n2=a at *;generalize turn1 c o1 n1=b at *;generalize turn1 c o n=e at *;split<;>split<;>omega
theorem newCheck_range (f g:Fl) (t:ByteArray):0≤newCheck f g t∧newCheck f g t≤65535:=by
 unfold newCheck;have rc:=wordN_range (bt_isByte t) (checkP f.proto);have r1:=sumV_range (partV f t);have r2:=sumV_range (partV g (setOut f g t));have q:=turn1_range rc r1 r2;unfold turn1 at q;dsimp only;split<;>omega
theorem bt_put {t u:ByteArray} {k:Nat} (h:k+u.size≤t.size) (i:Nat):bt (putV t k u) i=if i < k then bt t i else if i < k+u.size then bt u (i-k) else bt t i:=by
 unfold putV;have s1:(t.extract 0 k).size=k:=by rw [ByteArray.size_extract]; omega
 rw [bt_append,bt_append,ByteArray.size_append,s1];by_cases h1:i < k
 ·rw [if_pos (by omega),if_pos h1,if_pos h1,bt_extract _ _ _ _ (by omega),if_pos (by omega),Nat.zero_add]
 ·by_cases h2:i < k+u.size
  ·rw [if_pos h2,if_neg h1,if_neg h1,if_pos h2]
  ·rw [if_neg h2,if_neg h1,if_neg h2,bt_extract _ _ _ _ lR];by_cases h3:i < t.size
   ·rw [if_pos (by omega),show k+u.size+(i-(k+u.size))=i by omega]
   ·rw [if_neg (by omega)];unfold bt; rw [dif_neg (by omega)]
def layV (p:Int) (g:Fl) (t:ByteArray):ByteArray :=
 if echoP g.proto=true then putV (putV t 4 (twoV g.sp)) 0 (oneV (if bt t 0=askP p then askP g.proto else ansP g.proto)) else putV t 0 (twoV g.sp++twoV g.dp)
theorem oneV_size (x:Int):(oneV x).size=1:=rfl
theorem put_swap {t u v:ByteArray} (hu:u.size=2) (hv:v.size=1) (ht:8≤t.size):putV (putV t 4 u) 0 v=putV (putV t 0 v) 4 u:=by
 have s1:=putV_size (t:=t) (u:=u) (k:=4) (by omega);have s2:=putV_size (t:=t) (u:=v) (k:=0) (by omega);refine ba_ext ?_ (fun i hi=>?_)
 ·have a1:=putV_size (t:=putV t 4 u) (u:=v) (k:=0) (by omega);have a2:=putV_size (t:=putV t 0 v) (u:=u) (k:=4) (by omega);omega
 ·rw [bt_put (by omega),bt_put (by omega),bt_put (by omega),bt_put (by omega),hu,hv];(repeat' split)<;>first | rfl | (exfalso; omega)
theorem first_same {f g:Fl} {t:ByteArray} (hf:echoP f.proto=true) (hg:echoP g.proto=true) (hb:bt t 0=askP f.proto∨bt t 0=ansP f.proto):(if bt t 0=askP f.proto then askP g.proto else ansP g.proto)=firstV8 f g t:=by
 unfold echoP at hf hg;simp only [Bool.or_eq_true,decide_eq_true_iff] at hf hg;unfold firstV8;rcases hf with hf | hf<;>rcases hg with hg | hg<;>rw [hf] at hb ⊢<;>rw [hg]<;>rcases hb with hb | hb<;>rw [hb]<;>decide
theorem setIn_parts {f g:Fl} {t:ByteArray} (h:setIn f g t=true):flowOk f=true∧flowOk g=true∧(f.proto=g.proto∨echoP f.proto=true∧echoP g.proto=true)∧ofCode f.src.size f.proto t=0:=by
 unfold setIn at h;simp only [Bool.and_eq_true,decide_eq_true_iff,Bool.or_eq_true] at h;exact ⟨h.1.1.1.1.1,h.1.1.1.1.2,h.1.1.1.2,h.1.1.2⟩
theorem begins_of {n:Nat} {p:Int} {t:ByteArray} (h:ofCode n p t=0) (he:echoP p=true):bt t 0=askP p∨bt t 0=ansP p:=by
 unfold ofCode at h;by_cases h1:protoOk p n=false
 ·rw [if_pos h1] at h; simp at h
 rw [if_neg h1] at h;by_cases h2:shortP p t=true
 ·rw [if_pos h2] at h; simp at h
 rw [if_neg h2,if_pos he] at h;by_cases h3:(bt t 0≠askP p∧bt t 0≠ansP p)∨bt t 1≠0
 ·rw [if_pos h3] at h; simp at h
 ·by_cases h4:bt t 0=askP p
  ·exact .inl h4
  ·refine .inr (Classical.byContradiction fun h5=>h3 (.inl ⟨h4,h5⟩))
theorem lay_set {f g:Fl} {t:ByteArray} (h:setIn f g t=true):layV f.proto g t=setOut f g t:=by
 obtain ⟨h1,h2,h3,h4⟩:=setIn_parts h;have h8:=(ofCode_size h4).1;have he:echoP g.proto=echoP f.proto:=by
  rcases h3 with h3 | h3
  ·rw [h3]
  ·rw [h3.1,h3.2]
 unfold layV setOut;rw [he];by_cases hf:echoP f.proto=true
 ·rw [if_pos hf,if_pos hf,first_same hf (he.trans hf) (begins_of h4 hf)];exact put_swap (twoV_size _) (oneV_size _) h8
 ·rw [if_neg hf,if_neg hf]
theorem setOut_size {f g:Fl} {t:ByteArray} (h8:8≤t.size):(setOut f g t).size=t.size:=by
 unfold setOut;split
 ·rw [putV_size,putV_size]
  ·rw [oneV_size]; omega
  ·rw [putV_size,twoV_size]
   ·omega
   ·rw [oneV_size]; omega
 ·rw [putV_size];rw [ByteArray.size_append,twoV_size,twoV_size]; omega
theorem setIn_prog {f g:Fl} {t:ByteArray} (ht:t.size≤20000):setIn f g t=((decide (flowCode f.src f.dst f.proto t=0)&&sameFlow (flowOfV f.src f.dst f.proto t) f)&&(flowOk g&&(decide (f.proto=g.proto)||(echoP f.proto&&echoP g.proto)))):=by
 unfold setIn;by_cases hc:flowCode f.src f.dst f.proto t=0
 ·have hfo:flowOfV f.src f.dst f.proto t=ofFl f.src f.dst f.proto t:=by unfold flowOfV; rw [if_pos hc]
  rw [decide_eq_true hc,hfo,sameFlow_of];have hc2:=hc;unfold flowCode at hc2;by_cases h1:20000 < t.size∨20000 < f.src.size∨20000 < f.dst.size
  ·rw [if_pos h1] at hc2; simp at hc2
  rw [if_neg h1] at hc2;by_cases h2:pairOk f.src f.dst=false
  ·rw [if_pos h2] at hc2; simp at hc2
  rw [if_neg h2] at hc2;have h2':pairOk f.src f.dst=true:=by simpa using h2
  have hpo:protoOk f.proto f.src.size=true:=by
   unfold ofCode at hc2;by_cases h3:protoOk f.proto f.src.size=false
   ·rw [if_pos h3] at hc2; simp at hc2
   ·simpa using h3
  by_cases h4:(ofFl f.src f.dst f.proto t).sp=f.sp
  ·by_cases h5:(ofFl f.src f.dst f.proto t).dp=f.dp
   ·have hfk:flowOk f=true:=by
     unfold flowOk;unfold ofFl at h4 h5;rw [if_pos hc2] at h4 h5;have w0:=wordN_range (bt_isByte t) 0;have w2:=wordN_range (bt_isByte t) 2;have w4:=wordN_range (bt_isByte t) 4;by_cases he:echoP f.proto=true
     ·rw [if_pos he] at h4 h5;dsimp only at h4 h5;rw [h2',hpo,he,← h4,← h5,isW_yes w4.1 w4.2]; simp
     ·rw [if_neg he] at h4 h5;dsimp only at h4 h5;rw [h2',hpo,← h4,← h5,isW_yes w0.1 w0.2,isW_yes w2.1 w2.2]; simp [he]
    simp [hfk,hc2,h4,h5,Bool.and_assoc]
   ·simp [h5]
  ·simp [h4]
 ·rw [decide_eq_false hc,Bool.false_and,Bool.false_and];by_cases hf:flowOk f=true
  ·have hp:pairOk f.src f.dst=true:=by unfold flowOk at hf; simp only [Bool.and_eq_true] at hf; exact hf.1.1.1.1
   obtain ⟨hs,hd⟩:=pairOk_parts hp;have:ofCode f.src.size f.proto t≠0:=fun h0=>hc (by
    unfold flowCode;rw [if_neg (by omega),if_neg (by rw [hp]; simp)]; exact h0)
   simp [this]
  ·simp [hf]
def lacksV (f:Fl) (t:ByteArray):Bool:=decide (f.proto=17)&&decide (wordN (bt t) 6=0)
theorem bare_lacks (f:Fl) (t:ByteArray):bareUdp f t=(lacksV f t&&decide (f.src.size=4)):=by
 unfold bareUdp lacksV;by_cases h:f.proto=17
 ·rw [h]; rfl
 ·simp [h]
def wordsB (ws:List Int):ByteArray:=⟨((layL ws).map (fun x=>UInt8.ofNat x.toNat)).toArray⟩
theorem wordsB_size (ws:List Int):(wordsB ws).size=2*ws.length:=by
 unfold wordsB ByteArray.size;simp [layL_length]
theorem words_conv {w:World} {b cap n:Nat} {ws:List Int} (hn:n=2*ws.length) (hw:∀ m∈ws,0≤m∧m≤65535) (hc:∀ i,i < n→w.cell? ⟨b,i,none⟩=some (.int .u8 (fL ws i))) :
  (convert 22 9 (.slice (some ⟨b,0,none⟩) n cap)).run Tryz.prog w=.ok (.string (wordsB ws)) w:=by
 have hl:=layL_length ws;have e:n=((layL ws).map (fun x=>UInt8.ofNat x.toNat)).length:=by simp [hl,hn]
 rw [e];refine run_convert_bytes_back (P:=Tryz.prog) w 22 9 5 ⟨b,0,none⟩ cap ((layL ws).map (fun x=>UInt8.ofNat x.toNat)) Tryz.underlying22 Tryz.underlying5 Tryz.underlying9 ?_;intro j hj;have hj2:j < (layL ws).length:=by simpa using hj
 have hb:=fL_byte ws hw j;have e2:fL ws j=(layL ws)[j]:=by simp [fL,List.getD,hj2]
 rw [e2] at hb;have e3:Addr.add ⟨b,0,none⟩ j=⟨b,j,none⟩:=by simp [Addr.add]; omega
 rw [e3,List.getElem_map,u8_ofNat _ hb.1 hb.2,← e2];exact hc j (by omega)
theorem wordsB_four (p n:Int) (hp:0≤p∧p≤255):pairV 0 p++twoV n=wordsB [p,n]:=by
 have e1:p / 256=0:=by omega
 have e2:p % 256=p:=by omega
 simp only [wordsB,layL,e1,e2];rfl
theorem wordsB_six (p n:Int) (hp:0≤p∧p≤255) (hn:0≤n∧n≤65535):twoV (n / 65536)++twoV (n % 65536)++quadW 0 p=wordsB [n / 65536,n,0,p]:=by
 have e1:p / 256=0:=by omega
 have e2:p % 256=p:=by omega
 have e3:n % 65536=n:=by omega
 simp only [wordsB,layL,e1,e2,e3];rfl
theorem ipPseudo_any (s d:ByteArray) (p:Int) (n:Nat) (w:World) (hs:s.size=4∨s.size=16) (hd:d.size≤16) (hp:0≤p∧p≤255) (hn:n≤65535) :
  Cb 176 #[.string s,.string d,iV p,iV n] w (.string (pseudoV s d p n)):=by
 have n1:¬ 9223372036854775807 < s.size+d.size:=by omega
 rcases hs with hs | hs
 ·have d4:((s.size:Int)==16)=false:=by simp; omega
  by_cases h1:p=1
  ·have d1:(p==1)=true:=by simp [h1]
   have HV:Hid (pseudoV s d p n=⟨#[]⟩):=by unfold Hid pseudoV; rw [if_pos ⟨h1,hs⟩]
   generalize pseudoV s d p n=ans at *;clear h1;go_enter Tryz.func176,Tryz.ntmps176
   go_wp2_with fail
   go_ret;exact ⟨ret_string HV.out.symm,Below.refl _ _⟩
  ·have d1:(p==1)=false:=by simp [h1]
   have HV:Hid (pseudoV s d p n=s++d++wordsB [p,(n:Int)]):=by
    unfold Hid pseudoV;rw [if_neg (fun h=>h1 h.1),if_pos hs,← wordsB_four p n hp,ByteArray.append_assoc (a:=s++d)]
   generalize pseudoV s d p n=ans at *;have hws:∀ m∈[p,(n:Int)],0≤m∧m≤65535:=by intro m hm; simp at hm; rcases hm with rfl | rfl<;>omega
   have HL:Hid (Calls Tryz.prog 154 #[.slice (some ⟨w.heap.size,0,none⟩) 2 2] (w.alloc (.cells #[iV p,iV n] 2)) fun e w' =>
    e=.returned (.slice (some ⟨w.heap.size+1,0,none⟩) 4 4)∧(∀ i,i < 4→w'.cell? ⟨w.heap.size+1,i,none⟩=some (.int .u8 (fL [p,(n:Int)] i)))∧Below w.heap.size w w'):=layAt [p,(n:Int)] w (by simp) hws
   have HW:Hid (∀ m∈[p,(n:Int)],0≤m∧m≤65535):=hws;have z:=wordsB_size [p,(n:Int)];simp at z;have n2:¬ 9223372036854775807 < s.size+d.size+(wordsB [p,(n:Int)]).size:=by omega
   clear hws h1;go_enter Tryz.func176,Tryz.ntmps176
   go_wp2_with fail
   refine HL.out.mono ?_;rintro e w1 ⟨rfl,hc,hB⟩;have hcv:=words_conv (cap:=4) (by simp) HW.out hc;have HB:Hid (Below w.heap.size w w1):=hB;clear hc hB HL;generalize wordsB [p,(n:Int)]=u at *;go_wp2_with fail
   go_ret;exact ⟨ret_string HV.out.symm,HB.out⟩
 ·have d4:((s.size:Int)==16)=true:=by simp; omega
  have HV:Hid (pseudoV s d p n=s++d++wordsB [(n:Int) / 65536,(n:Int),0,p]):=by
   unfold Hid pseudoV;rw [if_neg (by omega),if_neg (by omega),← wordsB_six p n hp (by omega),ByteArray.append_assoc (a:=s++d),ByteArray.append_assoc (a:=s++d)]
  generalize pseudoV s d p n=ans at *;have hws:∀ m∈[(n:Int) / 65536,(n:Int),0,p],0≤m∧m≤65535:=by intro m hm; simp at hm; rcases hm with rfl | rfl | rfl | rfl<;>omega
  have HL:Hid (Calls Tryz.prog 154 #[.slice (some ⟨w.heap.size,0,none⟩) 4 4] (w.alloc (.cells #[iV ((n:Int) / 65536),iV n,iV 0,iV p] 2)) fun e w' =>
   e=.returned (.slice (some ⟨w.heap.size+1,0,none⟩) 8 8)∧(∀ i,i < 8→w'.cell? ⟨w.heap.size+1,i,none⟩=some (.int .u8 (fL [(n:Int) / 65536,(n:Int),0,p] i)))∧Below w.heap.size w w'):=layAt [(n:Int) / 65536,(n:Int),0,p] w (by simp) hws
  have HW:Hid (∀ m∈[(n:Int) / 65536,(n:Int),0,p],0≤m∧m≤65535):=hws;have z:=wordsB_size [(n:Int) / 65536,(n:Int),0,p];simp at z;have n2:¬ 9223372036854775807 < s.size+d.size+(wordsB [(n:Int) / 65536,(n:Int),0,p]).size:=by omega
  clear hws;go_enter Tryz.func176,Tryz.ntmps176
  go_wp2_with fail
  refine HL.out.mono ?_;rintro e w1 ⟨rfl,hc,hB⟩;have hcv:=words_conv (cap:=8) (by simp) HW.out hc;have HB:Hid (Below w.heap.size w w1):=hB;clear hc hB HL;generalize wordsB [(n:Int) / 65536,(n:Int),0,p]=u at *;go_wp2_with fail
  go_ret;exact ⟨ret_string HV.out.symm,HB.out⟩
theorem ipLacks_any (p:Int) (t:ByteArray) (w:World) (h8:8≤t.size) (ht:t.size≤1048576) :
  Cw 151 #[iV p,.string t] w (.bool (decide (p=17)&&decide (wordN (bt t) 6=0))):=by
 have HW:Hid (∀ W,Cw 131 #[.string t,iV (6:Nat)] W (iV (wordN (bt t) 6))):=fun W=>wordFromS_any t 6 W (by omega) (by unfold maxLen; omega)
 have dq:(wordN (bt t) 6==0)=decide (wordN (bt t) 6=0):=rfl;generalize decide (wordN (bt t) 6=0)=q at *;generalize wordN (bt t) 6=x at *;by_cases h:p=17
 ·have d1:(p==17)=true:=by simp [h]
  rw [decide_eq_true h];clear h;go_enter Tryz.func151,Tryz.ntmps151
  go_wp2_with fail
  refine (HW.out _).mono ?_;rintro e w2 ⟨rfl,rfl⟩;go_wp2_with fail
  go_ret;exact ⟨rfl,rfl⟩
 ·have d1:(p==17)=false:=by simp [h]
  rw [decide_eq_false h];clear h;go_enter Tryz.func151,Tryz.ntmps151
  go_wp2_with fail
  go_ret;exact ⟨rfl,rfl⟩
structure CurAt (w:World) (B b cap:Nat) (t:ByteArray) (k:Nat):Prop where
 c0:w.cell? ⟨B,0,none⟩=some (.slice (some ⟨b,0,none⟩) t.size cap)
 f0:w.frozen? ⟨B,0,none⟩=false
 c1:w.cell? ⟨B,1,none⟩=some (iV k)
 f1:w.frozen? ⟨B,1,none⟩=false
 bs:∀ i,i < t.size→w.cell? ⟨b,i,none⟩=some (.int .u8 (bt t i))
 ne:b≠B
 lt:b < w.heap.size
 cp:t.size≤cap
theorem bt_list {s:ByteArray} {j:Nat} (h:j < s.data.toList.length):(s.data.toList[j].toNat:Int)=bt s j:=by
 have h':j < s.size:=by rw [Array.length_toList] at h; exact h
 unfold bt;rw [dif_pos h',ByteArray.getElem_eq_getElem_data];simp
open Go.Lib
theorem strCells_append (a b:ByteArray):strCells (a++b)=strCells a++strCells b:=by
 unfold strCells; rw [ByteArray.data_append]; simp
theorem strCells_two (n:Int) (h0:0≤n) (h1:n≤65535):strCells (twoV n)=[.int .u8 (n / 256),.int .u8 (n % 256)]:=by
 have e1:=u8_ofNat (n / 256) (by omega) (by omega);have e2:=u8_ofNat (n % 256) (by omega) (by omega);simp only [strCells,twoV,twoL,List.map_cons,List.map_nil,e1,e2]
theorem strCells_at (s:ByteArray) (i:Nat) (h:i < s.size):(strCells s)[i]?=some (.int .u8 (bt s i)):=by
 have h':i < s.data.toList.length:=by rw [Array.length_toList]; exact h
 unfold strCells;rw [List.getElem?_map,List.getElem?_eq_getElem h',Option.map_some,bt_list h']
def IsWords (ws:List Int):Value→World→Prop:=fun v w=>∃ b,v=.slice (some ⟨b,0,none⟩) ws.length ws.length∧b < w.heap.size∧∀ k,k < ws.length→w.cell? ⟨b,k,none⟩=some (iV (ws.getD k 0))
theorem stable_isWords (ws:List Int):Stable (IsWords ws):=fun v w w' ⟨b,h1,h2,h3⟩ hb=>⟨b,h1,Nat.lt_of_lt_of_le h2 hb.size,fun k hk=>((bcell hb).1 b k h2).trans (h3 k hk)⟩
theorem owns_kept {w W:World} {base e n:Nat} {v:Value} {xs:List Value} (h:w.ownsRow base e 1 v n xs) (hB:Below w.heap.size w W):W.ownsRow base e 1 v n xs:=by
 obtain ⟨h1,h2⟩:=h;refine ⟨h1,?_⟩;rcases h2 with h2 | ⟨g,cap,cur,q1,q2,q3,q4⟩
 ·exact .inl h2
 ·exact .inr ⟨g,cap,cur,q1,q2,by rw [hB.block g (Array.getElem?_eq_some_iff.1 q3).1]; exact q3,q4⟩
theorem owns_base {w:World} {base base' e n:Nat} {v:Value} {xs:List Value} (h:w.ownsRow base e 1 v n xs) (hB:base'≤base):w.ownsRow base' e 1 v n xs:=by
 obtain ⟨h1,h2⟩:=h;refine ⟨h1,?_⟩;rcases h2 with h2 | ⟨g,cap,cur,q1,q2,q3,q4⟩
 ·exact .inl h2
 ·exact .inr ⟨g,cap,cur,q1,Nat.le_trans hB q2,q3,q4⟩
def IsOwn (base e n:Nat) (xs:List Value):Value→World→Prop:=fun v w=>∃ g,v=.slice (some ⟨g,0,none⟩) n n∧w.ownsRow base e 1 v n xs
theorem stable_isOwn (base e n:Nat) (xs:List Value):Stable (IsOwn base e n xs):=fun v w w' ⟨g,h1,h2⟩ hb=>⟨g,h1,owns_kept h2 hb⟩
def zs (n:Nat):ByteArray:=⟨Array.replicate n 0⟩
theorem lay_at {w:World} {g o:Nat} {A Z B s:ByteArray} (h:HoldsL w g (strCells (A++Z++B))) (hA:A.size=o) (hZ:Z.size=s.size):HoldsL (w.setCells g o (strCells s)) g (strCells (A++s++B)):=by
 have hl:(strCells (A++Z++B)).length=o+s.size+B.size:=by rw [strCells_length]; simp only [ByteArray.size_append]; omega
 have:=h.setRange o (strCells s) (by rw [hl,strCells_length]; omega);rw [strCells_length] at this;rw [strCells_append,strCells_append] at this ⊢;rw [List.append_assoc (strCells A),List.take_left' (by rw [strCells_length]; exact hA),← List.append_assoc,List.drop_left' (by rw [List.length_append,strCells_length,strCells_length]; omega)] at this;exact this
theorem below_setCells {w W:World} {B g:Nat} (h:Below B w W) (hg:B≤g):∀ (cs:List Value) (o:Nat),Below B w (W.setCells g o cs)
 | [],o=>h
 | c::cs,o=>by rw [World.setCells]; exact below_setCells (h.setCell (p:=⟨g,o,none⟩) hg c) hg cs (o+1)
theorem Bxs.cells {w wx:World} {ks:List (Nat × List Value)} (h:Bxs w ks wx) {g:Nat} (hne:∀ e∈ks,e.1≠g) (hg:w.heap.size≤g) {o:Nat} {cs:List Value}:Bxs w ks (wx.setCells g o cs) :=
 ⟨fun e he=>(h.k e he).setCellsOther (hne e he) cs,below_setCells h.b hg cs o,h.z⟩
theorem hold_bt {w:World} {g:Nat} {t:ByteArray} (h:HoldsL w g (strCells t)) (i:Nat) (hi:i < t.size):w.cell? ⟨g,i,none⟩=some (.int .u8 (bt t i)):=h.cell (strCells_at t i hi)
theorem ipPlace_any (p:Int) (w:World) :
  Cw 153 #[iV p] w (iV (checkP p:Nat)):=by
 by_cases h1:p=6
 ·subst h1;go_enter Tryz.func153,Tryz.ntmps153
  go_wp2_with fail
  go_ret;exact ⟨rfl,rfl⟩
 ·have d1:(p==6)=false:=by simp [h1]
  by_cases h2:p=17
  ·subst h2;go_enter Tryz.func153,Tryz.ntmps153
   go_wp2_with fail
   go_ret;exact ⟨rfl,rfl⟩
  ·have d2:(p==17)=false:=by simp [h2]
   have HV:Hid (checkP p=2):=by unfold Hid checkP; rw [if_neg h1,if_neg h2]
   generalize checkP p=ans at *;go_enter Tryz.func153,Tryz.ntmps153
   go_wp2_with fail
   go_ret;exact ⟨ret_int (by rw [HV.out]; rfl),rfl⟩
theorem ipLike_any (a b:Int) (w:World) :
  Cw 150 #[iV a,iV b] w (.bool (decide (a=b)||(echoP a&&echoP b))):=by
 have HA:Hid (∀ W,Cw 100 #[iV a] W (.bool (echoP a))):=fun W=>implEcho_any a W
 have HB:Hid (∀ W,Cw 100 #[iV b] W (.bool (echoP b))):=fun W=>implEcho_any b W
 have hun:undef=Value.tuple #[]:=rfl;by_cases h:a=b
 ·have d1:(a==b)=true:=by simp [h]
  have HV:Hid ((decide (a=b)||(echoP a&&echoP b))=true):=by unfold Hid; simp [h]
  generalize (decide (a=b)||(echoP a&&echoP b))=ans at *;clear h HA HB;go_enter Tryz.func150,Tryz.ntmps150
  go_wp2_with fail
  go_ret;exact ⟨ret_bool (by rw [HV.out]),rfl⟩
 ·have d1:(a==b)=false:=by simp [h]
  have HV:Hid ((decide (a=b)||(echoP a&&echoP b))=(echoP a&&echoP b)):=by unfold Hid; simp [h]
  generalize (decide (a=b)||(echoP a&&echoP b))=ans at *;generalize echoP a=ea at *;generalize echoP b=eb at *;clear h
  cases ea with
  | false =>
   go_enter Tryz.func150,Tryz.ntmps150
   go_wp2_with fail
   refine (HA.out _).mono ?_;rintro e w2 ⟨rfl,rfl⟩;go_wp2_with fail
   go_ret;exact ⟨ret_bool (by rw [HV.out]; rfl),rfl⟩
  | true =>
   go_enter Tryz.func150,Tryz.ntmps150
   go_wp2_with fail
   refine (HA.out _).mono ?_;rintro e w2 ⟨rfl,rfl⟩;go_wp2_with fail
   refine (HB.out _).mono ?_;rintro e w3 ⟨rfl,rfl⟩;go_wp2_with fail
   go_ret;exact ⟨ret_bool (by rw [HV.out]; rfl),rfl⟩
theorem ipSetPart_any (p:Int) (t:ByteArray) (w:World) (h8:8≤t.size) (ht:t.size≤1048576) :
  Cb 175 #[iV p,.string t] w (.string (setPartV p t)):=by
 have HE:Hid (∀ W,Cw 100 #[iV p] W (.bool (echoP p))):=fun W=>implEcho_any p W
 have L1:∀ W,(Instr.slice 9 (.string t) none (some (iV 4)) none).run Tryz.prog W=.ok (.string (t.extract 0 4)) W:=fun W=>run_slice_string_h (P:=Tryz.prog) (t:=9) (s:=t) (w:=W) (ht:=Tryz.underlying9) .i64 (4:Int) (by omega) (by omega)
 have L2:∀ W,(Instr.slice 9 (.string t) none (some (iV 2)) none).run Tryz.prog W=.ok (.string (t.extract 0 2)) W:=fun W=>run_slice_string_h (P:=Tryz.prog) (t:=9) (s:=t) (w:=W) (ht:=Tryz.underlying9) .i64 (2:Int) (by omega) (by omega)
 have L3:∀ W,(Instr.slice 9 (.string t) (some (iV 4)) (some (iV 6)) none).run Tryz.prog W=.ok (.string (t.extract 4 6)) W:=fun W=>str_slice5 t 4 6 W (by omega) (by omega)
 have z1:(t.extract 0 4).size=4:=by rw [ByteArray.size_extract]; omega
 have z2:(t.extract 0 2).size=2:=by rw [ByteArray.size_extract]; omega
 have z3:(t.extract 4 6).size=2:=by rw [ByteArray.size_extract]; omega
 have HV:Hid (setPartV p t=if echoP p=true then t.extract 0 2++t.extract 4 6 else t.extract 0 4):=rfl;generalize t.extract 0 4=u1 at *;generalize t.extract 0 2=u2 at *;generalize t.extract 4 6=u3 at *;generalize setPartV p t=ans at *;have n1:¬ 9223372036854775807 < u2.size+u3.size:=by omega
 generalize echoP p=b at *
 cases b with
 | false =>
  replace HV:Hid (ans=u1):=HV.out;go_enter Tryz.func175,Tryz.ntmps175
  go_wp2_with fail
  refine (HE.out _).mono ?_;rintro e w2 ⟨rfl,rfl⟩;go_wp2_with fail
  go_ret;exact ⟨by rw [HV.out]; rfl,Below.refl _ _⟩
 | true =>
  replace HV:Hid (ans=u2++u3):=HV.out;go_enter Tryz.func175,Tryz.ntmps175
  go_wp2_with fail
  refine (HE.out _).mono ?_;rintro e w2 ⟨rfl,rfl⟩;go_wp2_with fail
  go_region
  all_goals go_wp2_with fail
  all_goals go_ret
  all_goals exact ⟨by rw [HV.out]; rfl,bR.drew⟩
end Go.Proofs.YtdkepkaflielhaaGreatDoor
