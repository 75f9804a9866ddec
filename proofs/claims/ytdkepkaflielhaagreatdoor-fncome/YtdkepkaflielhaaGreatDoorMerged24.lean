import Derived.Test.YtdkepkaflielhaaGreatDoorMerged23
import Derived.Lib.AppendStr
import Derived.Laws.IdiomCopy
import Derived.Deep.OwnRows
import Derived.Lib.BufferWrite
set_option linter.unusedVariables false
set_option linter.unusedSimpArgs false
set_option maxRecDepth 100000
set_option maxHeartbeats 8000000
namespace Go.Proofs.YtdkepkaflielhaaGreatDoor
open Go.RowKit Go.PlainAid
theorem sumN_app {f:Nat→Int} (K:Nat):∀ m,∃ z,sumN f (K+m)=sumN f K+sumN (fun i=>f (2*K+i)) m+65535*z
 | 0=>⟨0,by simp [sumN]⟩
 | m+1=>by
  obtain ⟨z,e⟩:=sumN_app (f:=f) K m;obtain ⟨z1,e1⟩:=add1_mod (sumN f (K+m)) (wordN f (2*(K+m)));obtain ⟨z2,e2⟩:=add1_mod (sumN (fun i=>f (2*K+i)) m) (wordN (fun i=>f (2*K+i)) (2*m));have ew:wordN (fun i=>f (2*K+i)) (2*m)=wordN f (2*(K+m)):=by
   unfold wordN;show f (2*K+2*m)*256+f (2*K+(2*m+1))=_;rw [show 2*K+2*m=2*(K+m) by omega,show 2*K+(2*m+1)=2*(K+m)+1 by omega]
  refine ⟨z+z1-z2,?_⟩;show add1 (sumN f (K+m)) (wordN f (2*(K+m)))=sumN f K+add1 (sumN (fun i=>f (2*K+i)) m) (wordN (fun i=>f (2*K+i)) (2*m))+65535*(z+z1-z2);rw [ew] at e2 ⊢;rw [e1,e2,e]; omega
theorem sumV_app {a b:ByteArray} {K:Nat} (ha:a.size=2*K):∃ z,sumV (a++b)=sumV a+sumV b+65535*z:=by
 obtain ⟨z,e⟩:=sumN_app (f:=bt (a++b)) K ((b.size+1) / 2);have e1:sumV (a++b)=sumN (bt (a++b)) (K+(b.size+1) / 2):=by unfold sumV; rw [ByteArray.size_append,ha,show (2*K+b.size+1) / 2=K+(b.size+1) / 2 by omega]
 have e2:sumN (bt (a++b)) K=sumV a:=by
  unfold sumV; rw [ha,show (2*K+1) / 2=K by omega];exact sumN_congr K (fun i hi=>by rw [bt_append,if_pos (by omega)])
 have e3:sumN (fun i=>bt (a++b) (2*K+i)) ((b.size+1) / 2)=sumV b:=by
  unfold sumV;refine sumN_congr _ (fun i hi=>?_);show bt (a++b) (2*K+i)=bt b i;rw [bt_append,if_neg (by omega),ha,show 2*K+i-2*K=i by omega]
 exact ⟨z,by rw [e1,e,e2,e3]⟩
def turn1 (c o n:Int):Int:=65535-add1 (add1 (65535-c) (65535-o)) n
theorem turn1_range {c o n:Int} (hc:0≤c∧c≤65535) (ho:0≤o∧o≤65535) (hn:0≤n∧n≤65535):0≤turn1 c o n∧turn1 c o n≤65535:=by
 unfold turn1;have h1:=add1_range (a:=65535-c) (b:=65535-o) (by omega) (by omega) (by omega) (by omega);have h2:=add1_range h1.1 h1.2 hn.1 hn.2;omega
theorem turn1_mod (c o n:Int):∃ z,turn1 c o n=c+o-n+65535*z:=by
 unfold turn1;obtain ⟨z1,e1⟩:=add1_mod (65535-c) (65535-o);obtain ⟨z2,e2⟩:=add1_mod (add1 (65535-c) (65535-o)) n;exact ⟨-1-z1-z2,by rw [e2,e1]; omega⟩
theorem turnV_of {c o n:Int} (hc:0≤c∧c≤65535) (ho:0≤o∧o≤65535) (hn:0≤n∧n≤65535):sumTurnV c o n=turn1 c o n:=by
 unfold sumTurnV turn1; rw [if_pos ⟨hc,ho,hn⟩]
def setPartV (p:Int) (t:ByteArray):ByteArray:=if echoP p=true then t.extract 0 2++t.extract 4 6 else t.extract 0 4
theorem setPartV_size (p:Int) {t:ByteArray} (h:8≤t.size):(setPartV p t).size=4:=by
 unfold setPartV;split
 ·rw [ByteArray.size_append,ByteArray.size_extract,ByteArray.size_extract]; omega
 ·rw [ByteArray.size_extract]; omega
def checkI (f g:Fl) (t u:ByteArray):Int :=
 let c:=turn1 (turn1 (wordN (bt t) (checkP f.proto)) (sumV (setPartV f.proto t)) (sumV (setPartV g.proto u))) (sumV (pseudoV f.src f.dst f.proto t.size)) (sumV (pseudoV g.src g.dst g.proto u.size))
 if c=0 then 65535 else c
theorem checkI_eq (f g:Fl) (t:ByteArray) (h8:8≤t.size) (h8':8≤(setOut f g t).size):checkI f g t (setOut f g t)=newCheck f g t:=by
 unfold checkI newCheck;obtain ⟨z1,e1⟩:=sumV_app (a:=setPartV f.proto t) (b:=pseudoV f.src f.dst f.proto t.size) (K:=2) (setPartV_size _ h8);obtain ⟨z2,e2⟩:=sumV_app (a:=setPartV g.proto (setOut f g t)) (b:=pseudoV g.src g.dst g.proto (setOut f g t).size) (K:=2) (setPartV_size _ h8');have p1:partV f t=setPartV f.proto t++pseudoV f.src f.dst f.proto t.size:=rfl;have p2:partV g (setOut f g t)=setPartV g.proto (setOut f g t)++pseudoV g.src g.dst g.proto (setOut f g t).size:=rfl;rw [p1,p2];have rc:=wordN_range (bt_isByte t) (checkP f.proto);have r1:=sumV_range (setPartV f.proto t);have r2:=sumV_range (setPartV g.proto (setOut f g t));have r3:=sumV_range (pseudoV f.src f.dst f.proto t.size);have r4:=sumV_range (pseudoV g.src g.dst g.proto (setOut f g t).size);have r5:=sumV_range (setPartV f.proto t++pseudoV f.src f.dst f.proto t.size);have r6:=sumV_range (setPartV g.proto (setOut f g t)++pseudoV g.src g.dst g.proto (setOut f g t).size);generalize sumV (setPartV f.proto t++pseudoV f.src f.dst f.proto t.size)=o at *;generalize sumV (setPartV g.proto (setOut f g t)++pseudoV g.src g.dst g.proto (setOut f g t).size)=n at *;generalize sumV (setPartV f.proto t)=o1 at *;generalize sumV (setPartV g.proto (setOut f g t))=n1 at *;generalize sumV (pseudoV f.src f.dst f.proto t.size)=o2 at *;generalize sumV (pseudoV g.src g.dst g.proto (setOut f g t).size)=n2 at *;generalize wordN (bt t) (checkP f.proto)=c at *;have q1:=turn1_range rc r1 r2;have q2:=turn1_range q1 r3 r4;have q3:=turn1_range rc r5 r6;obtain ⟨y1,d1⟩:=turn1_mod c o1 n1;obtain ⟨y2,d2⟩:=turn1_mod (turn1 c o1 n1) o2 n2;obtain ⟨y3,d3⟩:=turn1_mod c o n;show (if turn1 (turn1 c o1 n1) o2 n2=0 then (65535:Int) else turn1 (turn1 c o1 n1) o2 n2)=if turn1 c o n=0 then 65535 else turn1 c o n;generalize turn1 (turn1 c o1 n1) o2 n2=a at *;generalize turn1 c o1 n1=b at *;generalize turn1 c o n=e at *;split<;>split<;>omega
theorem newCheck_range (f g:Fl) (t:ByteArray):0≤newCheck f g t∧newCheck f g t≤65535:=by
 unfold newCheck;have rc:=wordN_range (bt_isByte t) (checkP f.proto);have r1:=sumV_range (partV f t);have r2:=sumV_range (partV g (setOut f g t));have q:=turn1_range rc r1 r2;unfold turn1 at q;dsimp only;split<;>omega
theorem bt_put {t u:ByteArray} {k:Nat} (h:k+u.size≤t.size) (i:Nat):bt (putV t k u) i=if i < k then bt t i else if i < k+u.size then bt u (i-k) else bt t i:=by
 unfold putV;have s1:(t.extract 0 k).size=k:=by rw [ByteArray.size_extract]; omega
 rw [bt_append,bt_append,ByteArray.size_append,s1];by_cases h1:i < k
 ·rw [if_pos (by omega),if_pos h1,if_pos h1,bt_extract _ _ _ _ (by omega),if_pos (by omega),Nat.zero_add]
 ·by_cases h2:i < k+u.size
  ·rw [if_pos h2,if_neg h1,if_neg h1,if_pos h2]
  ·rw [if_neg h2,if_neg h1,if_neg h2,bt_extract _ _ _ _ lR];by_cases h3:i < t.size
   ·rw [if_pos (by omega),show k+u.size+(i-(k+u.size))=i by omega]
   ·rw [if_neg (by omega)];unfold bt; rw [dif_neg (by omega)]
def layV (p:Int) (g:Fl) (t:ByteArray):ByteArray :=
 if echoP g.proto=true then putV (putV t 4 (twoV g.sp)) 0 (oneV (if bt t 0=askP p then askP g.proto else ansP g.proto)) else putV t 0 (twoV g.sp++twoV g.dp)
theorem oneV_size (x:Int):(oneV x).size=1:=rfl
theorem put_swap {t u v:ByteArray} (hu:u.size=2) (hv:v.size=1) (ht:8≤t.size):putV (putV t 4 u) 0 v=putV (putV t 0 v) 4 u:=by
 have s1:=putV_size (t:=t) (u:=u) (k:=4) (by omega);have s2:=putV_size (t:=t) (u:=v) (k:=0) (by omega);refine ba_ext ?_ (fun i hi=>?_)
 ·have a1:=putV_size (t:=putV t 4 u) (u:=v) (k:=0) (by omega);have a2:=putV_size (t:=putV t 0 v) (u:=u) (k:=4) (by omega);omega
 ·rw [bt_put (by omega),bt_put (by omega),bt_put (by omega),bt_put (by omega),hu,hv];(repeat' split)<;>first | rfl | (exfalso; omega)
theorem first_same {f g:Fl} {t:ByteArray} (hf:echoP f.proto=true) (hg:echoP g.proto=true) (hb:bt t 0=askP f.proto∨bt t 0=ansP f.proto):(if bt t 0=askP f.proto then askP g.proto else ansP g.proto)=firstV8 f g t:=by
 unfold echoP at hf hg;simp only [Bool.or_eq_true,decide_eq_true_iff] at hf hg;unfold firstV8;rcases hf with hf | hf<;>rcases hg with hg | hg<;>rw [hf] at hb ⊢<;>rw [hg]<;>rcases hb with hb | hb<;>rw [hb]<;>decide
theorem setIn_parts {f g:Fl} {t:ByteArray} (h:setIn f g t=true):flowOk f=true∧flowOk g=true∧(f.proto=g.proto∨echoP f.proto=true∧echoP g.proto=true)∧ofCode f.src.size f.proto t=0:=by
 unfold setIn at h;simp only [Bool.and_eq_true,decide_eq_true_iff,Bool.or_eq_true] at h;exact ⟨h.1.1.1.1.1,h.1.1.1.1.2,h.1.1.1.2,h.1.1.2⟩
theorem begins_of {n:Nat} {p:Int} {t:ByteArray} (h:ofCode n p t=0) (he:echoP p=true):bt t 0=askP p∨bt t 0=ansP p:=by
 unfold ofCode at h;by_cases h1:protoOk p n=false
 ·rw [if_pos h1] at h; simp at h
 rw [if_neg h1] at h;by_cases h2:shortP p t=true
 ·rw [if_pos h2] at h; simp at h
 rw [if_neg h2,if_pos he] at h;by_cases h3:(bt t 0≠askP p∧bt t 0≠ansP p)∨bt t 1≠0
 ·rw [if_pos h3] at h; simp at h
 ·by_cases h4:bt t 0=askP p
  ·exact .inl h4
  ·refine .inr (Classical.byContradiction fun h5=>h3 (.inl ⟨h4,h5⟩))
theorem lay_set {f g:Fl} {t:ByteArray} (h:setIn f g t=true):layV f.proto g t=setOut f g t:=by
 obtain ⟨h1,h2,h3,h4⟩:=setIn_parts h;have h8:=(ofCode_size h4).1;have he:echoP g.proto=echoP f.proto:=by
  rcases h3 with h3 | h3
  ·rw [h3]
  ·rw [h3.1,h3.2]
 unfold layV setOut;rw [he];by_cases hf:echoP f.proto=true
 ·rw [if_pos hf,if_pos hf,first_same hf (he.trans hf) (begins_of h4 hf)];exact put_swap (twoV_size _) (oneV_size _) h8
 ·rw [if_neg hf,if_neg hf]
theorem setOut_size {f g:Fl} {t:ByteArray} (h8:8≤t.size):(setOut f g t).size=t.size:=by
 unfold setOut;split
 ·rw [putV_size,putV_size]
  ·rw [oneV_size]; omega
  ·rw [putV_size,twoV_size]
   ·omega
   ·rw [oneV_size]; omega
 ·rw [putV_size];rw [ByteArray.size_append,twoV_size,twoV_size]; omega
theorem setIn_prog {f g:Fl} {t:ByteArray} (ht:t.size≤20000):setIn f g t=((decide (flowCode f.src f.dst f.proto t=0)&&sameFlow (flowOfV f.src f.dst f.proto t) f)&&(flowOk g&&(decide (f.proto=g.proto)||(echoP f.proto&&echoP g.proto)))):=by
 unfold setIn;by_cases hc:flowCode f.src f.dst f.proto t=0
 ·have hfo:flowOfV f.src f.dst f.proto t=ofFl f.src f.dst f.proto t:=by unfold flowOfV; rw [if_pos hc]
  rw [decide_eq_true hc,hfo,sameFlow_of];have hc2:=hc;unfold flowCode at hc2;by_cases h1:20000 < t.size∨20000 < f.src.size∨20000 < f.dst.size
  ·rw [if_pos h1] at hc2; simp at hc2
  rw [if_neg h1] at hc2;by_cases h2:pairOk f.src f.dst=false
  ·rw [if_pos h2] at hc2; simp at hc2
  rw [if_neg h2] at hc2;have h2':pairOk f.src f.dst=true:=by simpa using h2
  have hpo:protoOk f.proto f.src.size=true:=by
   unfold ofCode at hc2;by_cases h3:protoOk f.proto f.src.size=false
   ·rw [if_pos h3] at hc2; simp at hc2
   ·simpa using h3
  by_cases h4:(ofFl f.src f.dst f.proto t).sp=f.sp
  ·by_cases h5:(ofFl f.src f.dst f.proto t).dp=f.dp
   ·have hfk:flowOk f=true:=by
     unfold flowOk;unfold ofFl at h4 h5;rw [if_pos hc2] at h4 h5;have w0:=wordN_range (bt_isByte t) 0;have w2:=wordN_range (bt_isByte t) 2;have w4:=wordN_range (bt_isByte t) 4;by_cases he:echoP f.proto=true
     ·rw [if_pos he] at h4 h5;dsimp only at h4 h5;rw [h2',hpo,he,← h4,← h5,isW_yes w4.1 w4.2]; simp
     ·rw [if_neg he] at h4 h5;dsimp only at h4 h5;rw [h2',hpo,← h4,← h5,isW_yes w0.1 w0.2,isW_yes w2.1 w2.2]; simp [he]
    simp [hfk,hc2,h4,h5,Bool.and_assoc]
   ·simp [h5]
  ·simp [h4]
 ·rw [decide_eq_false hc,Bool.false_and,Bool.false_and];by_cases hf:flowOk f=true
  ·have hp:pairOk f.src f.dst=true:=by unfold flowOk at hf; simp only [Bool.and_eq_true] at hf; exact hf.1.1.1.1
   obtain ⟨hs,hd⟩:=pairOk_parts hp;have:ofCode f.src.size f.proto t≠0:=fun h0=>hc (by
    unfold flowCode;rw [if_neg (by omega),if_neg (by rw [hp]; simp)]; exact h0)
   simp [this]
  ·simp [hf]
def lacksV (f:Fl) (t:ByteArray):Bool:=decide (f.proto=17)&&decide (wordN (bt t) 6=0)
theorem bare_lacks (f:Fl) (t:ByteArray):bareUdp f t=(lacksV f t&&decide (f.src.size=4)):=by
 unfold bareUdp lacksV;by_cases h:f.proto=17
 ·rw [h]; rfl
 ·simp [h]
def wordsB (ws:List Int):ByteArray:=⟨((layL ws).map (fun x=>UInt8.ofNat x.toNat)).toArray⟩
theorem wordsB_size (ws:List Int):(wordsB ws).size=2*ws.length:=by
 unfold wordsB ByteArray.size;simp [layL_length]
theorem words_conv {w:World} {b cap n:Nat} {ws:List Int} (hn:n=2*ws.length) (hw:∀ m∈ws,0≤m∧m≤65535) (hc:∀ i,i < n→w.cell? ⟨b,i,none⟩=some (.int .u8 (fL ws i))) :
  (convert 22 9 (.slice (some ⟨b,0,none⟩) n cap)).run Tryz.prog w=.ok (.string (wordsB ws)) w:=by
 have hl:=layL_length ws;have e:n=((layL ws).map (fun x=>UInt8.ofNat x.toNat)).length:=by simp [hl,hn]
 rw [e];refine run_convert_bytes_back (P:=Tryz.prog) w 22 9 5 ⟨b,0,none⟩ cap ((layL ws).map (fun x=>UInt8.ofNat x.toNat)) Tryz.underlying22 Tryz.underlying5 Tryz.underlying9 ?_;intro j hj;have hj2:j < (layL ws).length:=by simpa using hj
 have hb:=fL_byte ws hw j;have e2:fL ws j=(layL ws)[j]:=by simp [fL,List.getD,hj2]
 rw [e2] at hb;have e3:Addr.add ⟨b,0,none⟩ j=⟨b,j,none⟩:=by simp [Addr.add]; omega
 rw [e3,List.getElem_map,u8_ofNat _ hb.1 hb.2,← e2];exact hc j (by omega)
theorem wordsB_four (p n:Int) (hp:0≤p∧p≤255):pairV 0 p++twoV n=wordsB [p,n]:=by
 have e1:p / 256=0:=by omega
 have e2:p % 256=p:=by omega
 simp only [wordsB,layL,e1,e2];rfl
theorem wordsB_six (p n:Int) (hp:0≤p∧p≤255) (hn:0≤n∧n≤65535):twoV (n / 65536)++twoV (n % 65536)++quadW 0 p=wordsB [n / 65536,n,0,p]:=by
 have e1:p / 256=0:=by omega
 have e2:p % 256=p:=by omega
 have e3:n % 65536=n:=by omega
 simp only [wordsB,layL,e1,e2,e3];rfl
theorem ipPseudo_any (s d:ByteArray) (p:Int) (n:Nat) (w:World) (hs:s.size=4∨s.size=16) (hd:d.size≤16) (hp:0≤p∧p≤255) (hn:n≤65535) :
  Cb 176 #[.string s,.string d,iV p,iV n] w (.string (pseudoV s d p n)):=by
 have n1:¬ 9223372036854775807 < s.size+d.size:=by omega
 rcases hs with hs | hs
 ·have d4:((s.size:Int)==16)=false:=by simp; omega
  by_cases h1:p=1
  ·have d1:(p==1)=true:=by simp [h1]
   have HV:Hid (pseudoV s d p n=⟨#[]⟩):=by unfold Hid pseudoV; rw [if_pos ⟨h1,hs⟩]
   generalize pseudoV s d p n=ans at *;clear h1;go_enter Tryz.func176,Tryz.ntmps176
   go_wp2_with fail
   go_ret;exact ⟨ret_string HV.out.symm,Below.refl _ _⟩
  ·have d1:(p==1)=false:=by simp [h1]
   have HV:Hid (pseudoV s d p n=s++d++wordsB [p,(n:Int)]):=by
    unfold Hid pseudoV;rw [if_neg (fun h=>h1 h.1),if_pos hs,← wordsB_four p n hp,ByteArray.append_assoc (a:=s++d)]
   generalize pseudoV s d p n=ans at *;have hws:∀ m∈[p,(n:Int)],0≤m∧m≤65535:=by intro m hm; simp at hm; rcases hm with rfl | rfl<;>omega
   have HL:Hid (Calls Tryz.prog 154 #[.slice (some ⟨w.heap.size,0,none⟩) 2 2] (w.alloc (.cells #[iV p,iV n] 2)) fun e w' =>
    e=.returned (.slice (some ⟨w.heap.size+1,0,none⟩) 4 4)∧(∀ i,i < 4→w'.cell? ⟨w.heap.size+1,i,none⟩=some (.int .u8 (fL [p,(n:Int)] i)))∧Below w.heap.size w w'):=layAt [p,(n:Int)] w (by simp) hws
   have HW:Hid (∀ m∈[p,(n:Int)],0≤m∧m≤65535):=hws;have z:=wordsB_size [p,(n:Int)];simp at z;have n2:¬ 9223372036854775807 < s.size+d.size+(wordsB [p,(n:Int)]).size:=by omega
   clear hws h1;go_enter Tryz.func176,Tryz.ntmps176
   go_wp2_with fail
   refine HL.out.mono ?_;rintro e w1 ⟨rfl,hc,hB⟩;have hcv:=words_conv (cap:=4) (by simp) HW.out hc;have HB:Hid (Below w.heap.size w w1):=hB;clear hc hB HL;generalize wordsB [p,(n:Int)]=u at *;go_wp2_with fail
   go_ret;exact ⟨ret_string HV.out.symm,HB.out⟩
 ·have d4:((s.size:Int)==16)=true:=by simp; omega
  have HV:Hid (pseudoV s d p n=s++d++wordsB [(n:Int) / 65536,(n:Int),0,p]):=by
   unfold Hid pseudoV;rw [if_neg (by omega),if_neg (by omega),← wordsB_six p n hp (by omega),ByteArray.append_assoc (a:=s++d),ByteArray.append_assoc (a:=s++d)]
  generalize pseudoV s d p n=ans at *;have hws:∀ m∈[(n:Int) / 65536,(n:Int),0,p],0≤m∧m≤65535:=by intro m hm; simp at hm; rcases hm with rfl | rfl | rfl | rfl<;>omega
  have HL:Hid (Calls Tryz.prog 154 #[.slice (some ⟨w.heap.size,0,none⟩) 4 4] (w.alloc (.cells #[iV ((n:Int) / 65536),iV n,iV 0,iV p] 2)) fun e w' =>
   e=.returned (.slice (some ⟨w.heap.size+1,0,none⟩) 8 8)∧(∀ i,i < 8→w'.cell? ⟨w.heap.size+1,i,none⟩=some (.int .u8 (fL [(n:Int) / 65536,(n:Int),0,p] i)))∧Below w.heap.size w w'):=layAt [(n:Int) / 65536,(n:Int),0,p] w (by simp) hws
  have HW:Hid (∀ m∈[(n:Int) / 65536,(n:Int),0,p],0≤m∧m≤65535):=hws;have z:=wordsB_size [(n:Int) / 65536,(n:Int),0,p];simp at z;have n2:¬ 9223372036854775807 < s.size+d.size+(wordsB [(n:Int) / 65536,(n:Int),0,p]).size:=by omega
  clear hws;go_enter Tryz.func176,Tryz.ntmps176
  go_wp2_with fail
  refine HL.out.mono ?_;rintro e w1 ⟨rfl,hc,hB⟩;have hcv:=words_conv (cap:=8) (by simp) HW.out hc;have HB:Hid (Below w.heap.size w w1):=hB;clear hc hB HL;generalize wordsB [(n:Int) / 65536,(n:Int),0,p]=u at *;go_wp2_with fail
  go_ret;exact ⟨ret_string HV.out.symm,HB.out⟩
theorem ipLacks_any (p:Int) (t:ByteArray) (w:World) (h8:8≤t.size) (ht:t.size≤1048576) :
  Cw 151 #[iV p,.string t] w (.bool (decide (p=17)&&decide (wordN (bt t) 6=0))):=by
 have HW:Hid (∀ W,Cw 131 #[.string t,iV (6:Nat)] W (iV (wordN (bt t) 6))):=fun W=>wordFromS_any t 6 W (by omega) (by unfold maxLen; omega)
 have dq:(wordN (bt t) 6==0)=decide (wordN (bt t) 6=0):=rfl;generalize decide (wordN (bt t) 6=0)=q at *;generalize wordN (bt t) 6=x at *;by_cases h:p=17
 ·have d1:(p==17)=true:=by simp [h]
  rw [decide_eq_true h];clear h;go_enter Tryz.func151,Tryz.ntmps151
  go_wp2_with fail
  refine (HW.out _).mono ?_;rintro e w2 ⟨rfl,rfl⟩;go_wp2_with fail
  go_ret;exact ⟨rfl,rfl⟩
 ·have d1:(p==17)=false:=by simp [h]
  rw [decide_eq_false h];clear h;go_enter Tryz.func151,Tryz.ntmps151
  go_wp2_with fail
  go_ret;exact ⟨rfl,rfl⟩
structure CurAt (w:World) (B b cap:Nat) (t:ByteArray) (k:Nat):Prop where
 c0:w.cell? ⟨B,0,none⟩=some (.slice (some ⟨b,0,none⟩) t.size cap)
 f0:w.frozen? ⟨B,0,none⟩=false
 c1:w.cell? ⟨B,1,none⟩=some (iV k)
 f1:w.frozen? ⟨B,1,none⟩=false
 bs:∀ i,i < t.size→w.cell? ⟨b,i,none⟩=some (.int .u8 (bt t i))
 ne:b≠B
 lt:b < w.heap.size
 cp:t.size≤cap
theorem bt_list {s:ByteArray} {j:Nat} (h:j < s.data.toList.length):(s.data.toList[j].toNat:Int)=bt s j:=by
 have h':j < s.size:=by rw [Array.length_toList] at h; exact h
 unfold bt;rw [dif_pos h',ByteArray.getElem_eq_getElem_data];simp
open Go.Lib
theorem strCells_append (a b:ByteArray):strCells (a++b)=strCells a++strCells b:=by
 unfold strCells; rw [ByteArray.data_append]; simp
theorem strCells_two (n:Int) (h0:0≤n) (h1:n≤65535):strCells (twoV n)=[.int .u8 (n / 256),.int .u8 (n % 256)]:=by
 have e1:=u8_ofNat (n / 256) (by omega) (by omega);have e2:=u8_ofNat (n % 256) (by omega) (by omega);simp only [strCells,twoV,twoL,List.map_cons,List.map_nil,e1,e2]
theorem strCells_at (s:ByteArray) (i:Nat) (h:i < s.size):(strCells s)[i]?=some (.int .u8 (bt s i)):=by
 have h':i < s.data.toList.length:=by rw [Array.length_toList]; exact h
 unfold strCells;rw [List.getElem?_map,List.getElem?_eq_getElem h',Option.map_some,bt_list h']
def IsWords (ws:List Int):Value→World→Prop:=fun v w=>∃ b,v=.slice (some ⟨b,0,none⟩) ws.length ws.length∧b < w.heap.size∧∀ k,k < ws.length→w.cell? ⟨b,k,none⟩=some (iV (ws.getD k 0))
theorem stable_isWords (ws:List Int):Stable (IsWords ws):=fun v w w' ⟨b,h1,h2,h3⟩ hb=>⟨b,h1,Nat.lt_of_lt_of_le h2 hb.size,fun k hk=>((bcell hb).1 b k h2).trans (h3 k hk)⟩
theorem owns_kept {w W:World} {base e n:Nat} {v:Value} {xs:List Value} (h:w.ownsRow base e 1 v n xs) (hB:Below w.heap.size w W):W.ownsRow base e 1 v n xs:=by
 obtain ⟨h1,h2⟩:=h;refine ⟨h1,?_⟩;rcases h2 with h2 | ⟨g,cap,cur,q1,q2,q3,q4⟩
 ·exact .inl h2
 ·exact .inr ⟨g,cap,cur,q1,q2,by rw [hB.block g (Array.getElem?_eq_some_iff.1 q3).1]; exact q3,q4⟩
theorem owns_base {w:World} {base base' e n:Nat} {v:Value} {xs:List Value} (h:w.ownsRow base e 1 v n xs) (hB:base'≤base):w.ownsRow base' e 1 v n xs:=by
 obtain ⟨h1,h2⟩:=h;refine ⟨h1,?_⟩;rcases h2 with h2 | ⟨g,cap,cur,q1,q2,q3,q4⟩
 ·exact .inl h2
 ·exact .inr ⟨g,cap,cur,q1,Nat.le_trans hB q2,q3,q4⟩
def IsOwn (base e n:Nat) (xs:List Value):Value→World→Prop:=fun v w=>∃ g,v=.slice (some ⟨g,0,none⟩) n n∧w.ownsRow base e 1 v n xs
theorem stable_isOwn (base e n:Nat) (xs:List Value):Stable (IsOwn base e n xs):=fun v w w' ⟨g,h1,h2⟩ hb=>⟨g,h1,owns_kept h2 hb⟩
def zs (n:Nat):ByteArray:=⟨Array.replicate n 0⟩
theorem lay_at {w:World} {g o:Nat} {A Z B s:ByteArray} (h:HoldsL w g (strCells (A++Z++B))) (hA:A.size=o) (hZ:Z.size=s.size):HoldsL (w.setCells g o (strCells s)) g (strCells (A++s++B)):=by
 have hl:(strCells (A++Z++B)).length=o+s.size+B.size:=by rw [strCells_length]; simp only [ByteArray.size_append]; omega
 have:=h.setRange o (strCells s) (by rw [hl,strCells_length]; omega);rw [strCells_length] at this;rw [strCells_append,strCells_append] at this ⊢;rw [List.append_assoc (strCells A),List.take_left' (by rw [strCells_length]; exact hA),← List.append_assoc,List.drop_left' (by rw [List.length_append,strCells_length,strCells_length]; omega)] at this;exact this
theorem below_setCells {w W:World} {B g:Nat} (h:Below B w W) (hg:B≤g):∀ (cs:List Value) (o:Nat),Below B w (W.setCells g o cs)
 | [],o=>h
 | c::cs,o=>by rw [World.setCells]; exact below_setCells (h.setCell (p:=⟨g,o,none⟩) hg c) hg cs (o+1)
theorem Bxs.cells {w wx:World} {ks:List (Nat × List Value)} (h:Bxs w ks wx) {g:Nat} (hne:∀ e∈ks,e.1≠g) (hg:w.heap.size≤g) {o:Nat} {cs:List Value}:Bxs w ks (wx.setCells g o cs) :=
 ⟨fun e he=>(h.k e he).setCellsOther (hne e he) cs,below_setCells h.b hg cs o,h.z⟩
theorem hold_bt {w:World} {g:Nat} {t:ByteArray} (h:HoldsL w g (strCells t)) (i:Nat) (hi:i < t.size):w.cell? ⟨g,i,none⟩=some (.int .u8 (bt t i)):=h.cell (strCells_at t i hi)
theorem ipPlace_any (p:Int) (w:World) :
  Cw 153 #[iV p] w (iV (checkP p:Nat)):=by
 by_cases h1:p=6
 ·subst h1;go_enter Tryz.func153,Tryz.ntmps153
  go_wp2_with fail
  go_ret;exact ⟨rfl,rfl⟩
 ·have d1:(p==6)=false:=by simp [h1]
  by_cases h2:p=17
  ·subst h2;go_enter Tryz.func153,Tryz.ntmps153
   go_wp2_with fail
   go_ret;exact ⟨rfl,rfl⟩
  ·have d2:(p==17)=false:=by simp [h2]
   have HV:Hid (checkP p=2):=by unfold Hid checkP; rw [if_neg h1,if_neg h2]
   generalize checkP p=ans at *;go_enter Tryz.func153,Tryz.ntmps153
   go_wp2_with fail
   go_ret;exact ⟨ret_int (by rw [HV.out]; rfl),rfl⟩
theorem ipLike_any (a b:Int) (w:World) :
  Cw 150 #[iV a,iV b] w (.bool (decide (a=b)||(echoP a&&echoP b))):=by
 have HA:Hid (∀ W,Cw 100 #[iV a] W (.bool (echoP a))):=fun W=>implEcho_any a W
 have HB:Hid (∀ W,Cw 100 #[iV b] W (.bool (echoP b))):=fun W=>implEcho_any b W
 have hun:undef=Value.tuple #[]:=rfl;by_cases h:a=b
 ·have d1:(a==b)=true:=by simp [h]
  have HV:Hid ((decide (a=b)||(echoP a&&echoP b))=true):=by unfold Hid; simp [h]
  generalize (decide (a=b)||(echoP a&&echoP b))=ans at *;clear h HA HB;go_enter Tryz.func150,Tryz.ntmps150
  go_wp2_with fail
  go_ret;exact ⟨ret_bool (by rw [HV.out]),rfl⟩
 ·have d1:(a==b)=false:=by simp [h]
  have HV:Hid ((decide (a=b)||(echoP a&&echoP b))=(echoP a&&echoP b)):=by unfold Hid; simp [h]
  generalize (decide (a=b)||(echoP a&&echoP b))=ans at *;generalize echoP a=ea at *;generalize echoP b=eb at *;clear h
  cases ea with
  | false =>
   go_enter Tryz.func150,Tryz.ntmps150
   go_wp2_with fail
   refine (HA.out _).mono ?_;rintro e w2 ⟨rfl,rfl⟩;go_wp2_with fail
   go_ret;exact ⟨ret_bool (by rw [HV.out]; rfl),rfl⟩
  | true =>
   go_enter Tryz.func150,Tryz.ntmps150
   go_wp2_with fail
   refine (HA.out _).mono ?_;rintro e w2 ⟨rfl,rfl⟩;go_wp2_with fail
   refine (HB.out _).mono ?_;rintro e w3 ⟨rfl,rfl⟩;go_wp2_with fail
   go_ret;exact ⟨ret_bool (by rw [HV.out]; rfl),rfl⟩
theorem ipSetPart_any (p:Int) (t:ByteArray) (w:World) (h8:8≤t.size) (ht:t.size≤1048576) :
  Cb 175 #[iV p,.string t] w (.string (setPartV p t)):=by
 have HE:Hid (∀ W,Cw 100 #[iV p] W (.bool (echoP p))):=fun W=>implEcho_any p W
 have L1:∀ W,(Instr.slice 9 (.string t) none (some (iV 4)) none).run Tryz.prog W=.ok (.string (t.extract 0 4)) W:=fun W=>run_slice_string_h (P:=Tryz.prog) (t:=9) (s:=t) (w:=W) (ht:=Tryz.underlying9) .i64 (4:Int) (by omega) (by omega)
 have L2:∀ W,(Instr.slice 9 (.string t) none (some (iV 2)) none).run Tryz.prog W=.ok (.string (t.extract 0 2)) W:=fun W=>run_slice_string_h (P:=Tryz.prog) (t:=9) (s:=t) (w:=W) (ht:=Tryz.underlying9) .i64 (2:Int) (by omega) (by omega)
 have L3:∀ W,(Instr.slice 9 (.string t) (some (iV 4)) (some (iV 6)) none).run Tryz.prog W=.ok (.string (t.extract 4 6)) W:=fun W=>str_slice5 t 4 6 W (by omega) (by omega)
 have z1:(t.extract 0 4).size=4:=by rw [ByteArray.size_extract]; omega
 have z2:(t.extract 0 2).size=2:=by rw [ByteArray.size_extract]; omega
 have z3:(t.extract 4 6).size=2:=by rw [ByteArray.size_extract]; omega
 have HV:Hid (setPartV p t=if echoP p=true then t.extract 0 2++t.extract 4 6 else t.extract 0 4):=rfl;generalize t.extract 0 4=u1 at *;generalize t.extract 0 2=u2 at *;generalize t.extract 4 6=u3 at *;generalize setPartV p t=ans at *;have n1:¬ 9223372036854775807 < u2.size+u3.size:=by omega
 generalize echoP p=b at *
 cases b with
 | false =>
  replace HV:Hid (ans=u1):=HV.out;go_enter Tryz.func175,Tryz.ntmps175
  go_wp2_with fail
  refine (HE.out _).mono ?_;rintro e w2 ⟨rfl,rfl⟩;go_wp2_with fail
  go_ret;exact ⟨by rw [HV.out]; rfl,Below.refl _ _⟩
 | true =>
  replace HV:Hid (ans=u2++u3):=HV.out;go_enter Tryz.func175,Tryz.ntmps175
  go_wp2_with fail
  refine (HE.out _).mono ?_;rintro e w2 ⟨rfl,rfl⟩;go_wp2_with fail
  go_region
  all_goals go_wp2_with fail
  all_goals go_ret
  all_goals exact ⟨by rw [HV.out]; rfl,bR.drew⟩
theorem Bxs.setHead {w0 W:World} {ks:List (Nat × List Value)} {C:Nat} {v:Value} (h:Bxs w0 ((C,[v])::ks) W) (hC:w0.heap.size≤C) (hks:∀ e∈ks,e.1≠C) (u:Value):Bxs w0 ((C,[u])::ks) (W.setCell ⟨C,0,none⟩ u) :=
 ⟨fun e he=>by
  rcases List.mem_cons.1 he with rfl | he
  ·exact (h.k _ mE0).set 0 u
  ·exact HoldsL.setOther (h.k e (.tail _ he)) (hks e he) u,h.b.setCell (p:=⟨C,0,none⟩) hC u,fun e he=>by
  rcases List.mem_cons.1 he with rfl | he
  ·exact Nat.zero_lt_one
  ·exact h.z e (.tail _ he)⟩
theorem Bxs.tl {w0 W:World} {k:Nat × List Value} {ks:List (Nat × List Value)} (h:Bxs w0 (k::ks) W):Bxs w0 ks W:=⟨fun e he=>h.k e (.tail _ he),h.b,fun e he=>h.z e (.tail _ he)⟩
theorem ipMTurn_any (ta tb:ByteArray) (c:Int) (C:Nat) (ks:List (Nat × List Value)) (w0 w:World) (ha:ta.size≤1048576) (hb':tb.size≤1048576) (hc:0≤c∧c≤65535) (hC:w0.heap.size≤C) (hks:∀ e∈ks,e.1≠C) (h:Bxs w0 ((C,[iV c])::ks) w) :
  Calls Tryz.prog 174 #[.pointer (some ⟨C,0,none⟩),.agg #[.string ta,.string tb]] w fun e w'=>e=.returned (.tuple #[])∧Bxs w0 ((C,[iV (turn1 c (sumV ta) (sumV tb))])::ks) w':=by
 have HA:Hid (∀ W,Cb 170 #[.string ta] W (iV (sumV ta))):=fun W=>(sumOfS_any ta W (by omega)).mono fun e w' h=>⟨h.1,by rw [h.2]; exact Below.refl _ _⟩
 have HB:Hid (∀ W,Cb 170 #[.string tb] W (iV (sumV tb))):=fun W=>(sumOfS_any tb W (by omega)).mono fun e w' h=>⟨h.1,by rw [h.2]; exact Below.refl _ _⟩
 have HT:Hid (∀ W,Cb 184 #[iV c,iV (sumV ta),iV (sumV tb)] W (iV (turn1 c (sumV ta) (sumV tb)))):=fun W=>(implSumTurn_any c (sumV ta) (sumV tb) W).mono fun e w' h=>⟨by rw [h.1,turnV_of hc (sumV_range ta) (sumV_range tb)],h.2⟩
 have hlt:C < w.heap.size:=(h.k _ mE0).lt (by simp);have HS0:Hid (Bxs w0 ((w.heap.size,[.string ta,.string tb])::(C,[iV c])::ks) (w.alloc (.cells #[.string ta,.string tb] 195))):=h.push [.string ta,.string tb] (by simp) _;have HKS:Hid (∀ e∈ks,e.1≠C):=hks;generalize sumV ta=sa at *;generalize sumV tb=sb at *;generalize turn1 c sa sb=tc at *;clear h hks;go_enter Tryz.func174,Tryz.ntmps174
 go_upto_region 1 with fail
 generalize (w.alloc (.cells #[.string ta,.string tb] 195))=W1 at *;generalize w.heap.size=P at *;have HCP:Hid (∀ wy,Below W1.drew.heap.size W1.drew wy→_):=fun wy hy=>HS0.out.kept (bR.drew.trans hy)
 clear HS0;refine wp_region_growV [4,5,6,7,8,9,10,11,12,13,14,15,16,17] (by kernel_rfl) (by kernel_rfl) ?_;iterate 10 (apply GChV.u rfl;(·intro K' a wy ho hd hb hK;simp [rAt,IsV,slot,Region.binds] at ho hd;have hst:=HCP.out wy hb;have HHp:=hst.at mE0;have HHc:=hst.at mE1;have kC:=HHp.c2;have c0:=HHc.cell (j:=0) rfl;clear hst HHp HHc;go_simp;first|((try go_bits);exact hK _ _ rfl bQ)|(refine (HA.out wy).mono ?_;rintro e wz ⟨rfl,hz⟩;exact hK _ _ rfl hz));dsimp only [nA,cA])
 (apply GChV.u rfl;(·intro K' a wy ho hd hb hK;simp [rAt,IsV,slot,Region.binds] at ho hd;go_simp;refine (HB.out wy).mono ?_;rintro e wz ⟨rfl,hz⟩;exact hK _ _ rfl hz);dsimp only [nA,cA])
 iterate 3 (apply GChV.u rfl;(·intro K' a wy ho hd hb hK;simp [rAt,IsV,slot,Region.binds] at ho hd;go_simp;first|((try go_bits);exact hK _ _ rfl bQ)|(refine (HT.out wy).mono ?_;rintro e wz ⟨rfl,hz⟩;exact hK _ _ rfl hz));dsimp only [nA,cA])
 intro X wz hR hz;simp only [List.nil_append,List.cons_append,RAll,IsV] at hR;simp only [putsFrom,hR];clear hR;have hst:=HCP.out wz hz;have HF:Hid (Bxs w0 ((C,[iV tc])::ks) (wz.setCell ⟨C,0,none⟩ (iV tc))):=hst.tl.setHead hC HKS.out _;have HHc:=hst.at mE1;have c0:=HHc.cell (j:=0) rfl;have f0:=HHc.free (j:=0) (by simp);clear hst HHc HCP HKS;intro K10 hK10;go_simp;refine hK10 _ _ ?_;simp only [wpSeq];go_end0
 exact ⟨rfl,HF.out⟩
theorem ipEach_any (a b a' b':ByteArray) (c:Int) (C R:Nat) (ks:List (Nat × List Value)) (w0 w:World) (ha:a.size≤1048576) (hb:b.size≤1048576) (ha':a'.size≤1048576) (hb':b'.size≤1048576) (hc:0≤c∧c≤65535) (hC:w0.heap.size≤C) (hR:R≠C) (hks:∀ e∈ks,e.1≠C) (h:Bxs w0 ((C,[iV c])::(R,[.string a,.string b,.string a',.string b'])::ks) w) :
  Calls Tryz.prog 173 #[.func (.func 174) #[.pointer (some ⟨C,0,none⟩)] #[],.slice (some ⟨R,0,none⟩) 2 2] w fun e w'=>e=.returned (.tuple #[])∧Bxs w0 ((C,[iV (turn1 (turn1 c (sumV a) (sumV b)) (sumV a') (sumV b'))])::(R,[.string a,.string b,.string a',.string b'])::ks) w':=by
 have r1:=turn1_range hc (sumV_range a) (sumV_range b);have HKR:Hid (∀ e∈(R,[Value.string a,.string b,.string a',.string b'])::ks,e.1≠C):=fun e he=>by
  rcases List.mem_cons.1 he with rfl | he
  ·exact hR
  ·exact hks e he
 have H1:Hid (∀ W ls,(∀ e∈ls,e.1≠C)→Bxs w0 ((C,[iV c])::ls) W→Calls Tryz.prog 174 #[.pointer (some ⟨C,0,none⟩),.agg #[.string a,.string b]] W fun e w'=>e=.returned (.tuple #[])∧Bxs w0 ((C,[iV (turn1 c (sumV a) (sumV b))])::ls) w'):=fun W ls hl hW=>ipMTurn_any a b c C ls w0 W ha hb hc hC hl hW
 have H2:Hid (∀ W ls,(∀ e∈ls,e.1≠C)→Bxs w0 ((C,[iV (turn1 c (sumV a) (sumV b))])::ls) W→Calls Tryz.prog 174 #[.pointer (some ⟨C,0,none⟩),.agg #[.string a',.string b']] W fun e w'=>e=.returned (.tuple #[])∧Bxs w0 ((C,[iV (turn1 (turn1 c (sumV a) (sumV b)) (sumV a') (sumV b'))])::ls) w'):=fun W ls hl hW=>ipMTurn_any a' b' _ C ls w0 W ha' hb' r1 hC hl hW
 have HS0:Hid _:=h;generalize turn1 (turn1 c (sumV a) (sumV b)) (sumV a') (sumV b')=c2 at *;generalize turn1 c (sumV a) (sumV b)=c1 at *;clear h hks r1 ha hb ha' hb' hc;go_enter Tryz.func173,Tryz.ntmps173
 go_wp2_with fail
 go_loopw [8] (fun i wr=>∃ k:Nat,k≤2∧i=iV k∧Bxs w0 ((C,[iV (if k=0 then c else if k=1 then c1 else c2)])::(R,[.string a,.string b,.string a',.string b'])::ks) wr) (fun i _=>2-(intOf i).toNat)
 case atStart=>exact ⟨0,by omega,rfl,HS0.out⟩
 case round =>
  obtain ⟨k,hk,rfl,hst⟩:=hrel;clear HS0;match k,hk with
  | 0,_ =>
   have S1:Hid (Bxs w0 ((C,[iV c])::(R,[.string a,.string b,.string a',.string b'])::ks) wr):=hst;have HHr:=S1.out.at mE1;obtain ⟨q0,q1⟩:=HHr.c2;clear HHr hst;have B1:Hid (Below wr.heap.size wr (wr.alloc (.cells #[.string a,.string b] 195))):=bR.alloc lR _;go_wp2_with fail
   refine (H1.out _ _ HKR.out (S1.out.kept B1.out)).mono ?_;rintro e w2 ⟨rfl,hb2⟩;have S2:Hid _:=hb2;clear hb2 S1 B1;go_wp2_with fail
   go_roundw
   case rel=>exact ⟨1,by omega,by go_num,S2.out⟩
   case measure=>simp [intOf]
  | 1,_ =>
   have S1:Hid (Bxs w0 ((C,[iV c1])::(R,[.string a,.string b,.string a',.string b'])::ks) wr):=hst;have HHr:=S1.out.at mE1;obtain ⟨-,-,q2,q3⟩:=HHr.c4;clear HHr hst;have B1:Hid (Below wr.heap.size wr (wr.alloc (.cells #[.string a',.string b'] 195))):=bR.alloc lR _;go_wp2_with fail
   refine (H2.out _ _ HKR.out (S1.out.kept B1.out)).mono ?_;rintro e w2 ⟨rfl,hb2⟩;have S2:Hid _:=hb2;clear hb2 S1 B1;go_wp2_with fail
   go_roundw
   case rel=>exact ⟨2,by omega,by go_num,S2.out⟩
   case measure=>simp [intOf]
  | 2,_ =>
   have S1:Hid (Bxs w0 ((C,[iV c2])::(R,[.string a,.string b,.string a',.string b'])::ks) wr):=hst;clear hst;go_wp2_with fail
   go_end0
   exact ⟨rfl,S1.out⟩
def IsPr (base:Nat) (vs:List Value):Value→World→Prop:=fun v w=>∃ b,v=.slice (some ⟨b,0,none⟩) 2 2∧base≤b∧HoldsL w b vs
theorem stable_isPr (base:Nat) (vs:List Value) (h:0 < vs.length):Stable (IsPr base vs):=fun v w w' ⟨b,h1,h2,h3⟩ hb=>⟨b,h1,h2,h3.kept h hb⟩
theorem checkP_lt {p:Int} {n:Nat} (h8:8≤n) (hp:p=6→20≤n):checkP p < n:=by
 unfold checkP;split
 ·rename_i h; have:=hp h; omega
 ·split<;>omega
theorem ipCheck_any (f g:Fl) (t u:ByteArray) (w:World) (h8:8≤t.size) (ht:t.size≤65535) (hp:f.proto=6→20≤t.size) (u8:8≤u.size) (hu:u.size≤65535) (fs:f.src.size=4∨f.src.size=16) (fd:f.dst.size≤16) (fp:0≤f.proto∧f.proto≤255) (gs:g.src.size=4∨g.src.size=16) (gd:g.dst.size≤16) (gp:0≤g.proto∧g.proto≤255) :
  Cb 155 #[fwC f,fwC g,.string t,.string u] w (iV (checkI f g t u)):=by
 have HPl:Hid (∀ W,Cw 153 #[iV f.proto] W (iV (checkP f.proto:Nat))):=fun W=>ipPlace_any _ W
 have HWd:Hid (∀ W,Cw 131 #[.string t,iV (checkP f.proto:Nat)] W (iV (wordN (bt t) (checkP f.proto)))):=fun W=>wordFromS_any t _ W (checkP_lt h8 hp) (by unfold maxLen; omega)
 have HP1:Hid (∀ W,Cb 175 #[iV f.proto,.string t] W (.string (setPartV f.proto t))):=fun W=>ipSetPart_any _ t W h8 (by omega)
 have HP2:Hid (∀ W,Cb 175 #[iV g.proto,.string u] W (.string (setPartV g.proto u))):=fun W=>ipSetPart_any _ u W u8 (by omega)
 have HH1:Hid (∀ W,Cb 176 #[.string f.src,.string f.dst,iV f.proto,iV t.size] W (.string (pseudoV f.src f.dst f.proto t.size))):=fun W=>ipPseudo_any _ _ _ _ W fs fd fp ht
 have HH2:Hid (∀ W,Cb 176 #[.string g.src,.string g.dst,iV g.proto,iV u.size] W (.string (pseudoV g.src g.dst g.proto u.size))):=fun W=>ipPseudo_any _ _ _ _ W gs gd gp hu
 have s1:=setPartV_size f.proto h8;have s2:=setPartV_size g.proto u8;have s3:=pseudoV_size f.src f.dst f.proto t.size (by omega) fd;have s4:=pseudoV_size g.src g.dst g.proto u.size (by omega) gd;have rc:=wordN_range (bt_isByte t) (checkP f.proto);have HV:Hid (checkI f g t u=if turn1 (turn1 (wordN (bt t) (checkP f.proto)) (sumV (setPartV f.proto t)) (sumV (setPartV g.proto u))) (sumV (pseudoV f.src f.dst f.proto t.size)) (sumV (pseudoV g.src g.dst g.proto u.size))=0 then 65535 else turn1 (turn1 (wordN (bt t) (checkP f.proto)) (sumV (setPartV f.proto t)) (sumV (setPartV g.proto u))) (sumV (pseudoV f.src f.dst f.proto t.size)) (sumV (pseudoV g.src g.dst g.proto u.size))):=rfl;have HEa:Hid (∀ C R ks W,w.heap.size≤C→R≠C→(∀ e∈ks,e.1≠C)→Bxs w ((C,[iV (wordN (bt t) (checkP f.proto))])::(R,[.string (setPartV f.proto t),.string (setPartV g.proto u),.string (pseudoV f.src f.dst f.proto t.size),.string (pseudoV g.src g.dst g.proto u.size)])::ks) W→Calls Tryz.prog 173 #[.func (.func 174) #[.pointer (some ⟨C,0,none⟩)] #[],.slice (some ⟨R,0,none⟩) 2 2] W fun e w'=>e=.returned (.tuple #[])∧Bxs w ((C,[iV (turn1 (turn1 (wordN (bt t) (checkP f.proto)) (sumV (setPartV f.proto t)) (sumV (setPartV g.proto u))) (sumV (pseudoV f.src f.dst f.proto t.size)) (sumV (pseudoV g.src g.dst g.proto u.size)))])::(R,[.string (setPartV f.proto t),.string (setPartV g.proto u),.string (pseudoV f.src f.dst f.proto t.size),.string (pseudoV g.src g.dst g.proto u.size)])::ks) w'):=fun C R ks W h1 h2 h3 h4=>ipEach_any _ _ _ _ _ C R ks w W (by omega) (by omega) (by omega) (by omega) rc h1 h2 h3 h4
 generalize turn1 (turn1 (wordN (bt t) (checkP f.proto)) (sumV (setPartV f.proto t)) (sumV (setPartV g.proto u))) (sumV (pseudoV f.src f.dst f.proto t.size)) (sumV (pseudoV g.src g.dst g.proto u.size))=c2 at *;generalize checkI f g t u=ans at *;obtain ⟨c,hc⟩ : ∃ c,c=wordN (bt t) (checkP f.proto):=⟨_,rfl⟩;rw [← hc] at HWd HEa;generalize setPartV f.proto t=p1 at *;generalize setPartV g.proto u=p2 at *;generalize pseudoV f.src f.dst f.proto t.size=p3 at *;generalize pseudoV g.src g.dst g.proto u.size=p4 at *;generalize (checkP f.proto)=pl at *;clear hc rc fs fd fp gs gd gp s1 s2 s3 s4 hp;obtain ⟨proto,src,dst,sp,dp⟩:=f;obtain ⟨proto',src',dst',sp',dp'⟩:=g;unfold fwC;dsimp only at *;have HS0:=bx2 w (FlR proto src dst sp dp) 43 (FlR proto' src' dst' sp' dp') 43 (by simp) (by simp)
 skip;go_enter Tryz.func155,Tryz.ntmps155
 go_upto_region 1 with fail
 generalize World.alloc _ _=W0 at *;have HHk:=HS0.out.at mE0;obtain ⟨k0,k1,k2,k3,k4⟩:=HHk.c5;clear HHk;have hw0:w.heap.size≤W0.heap.size:=HS0.out.b.size;have hf0:w.heap.size < W0.heap.size:=(HS0.out.k _ mE0).lt (by simp);have hg0:w.heap.size+1 < W0.heap.size:=(HS0.out.k _ mE1).lt (by simp);have HS1:Hid (Bxs w ((W0.heap.size,[iV c])::[(w.heap.size,(FlR proto src dst sp dp)),(w.heap.size+1,(FlR proto' src' dst' sp' dp'))]) (W0.alloc (.cells #[iV c] 190))):=HS0.out.push [iV c] (by simp) _;go_upto_region 2 with (first | (go_at_call 153; refine (HPl.out _).mono ?_; rintro e W0 ⟨rfl,rfl⟩) | (go_at_call 131; refine (HWd.out _).mono ?_; rintro e W0 ⟨rfl,rfl⟩))
 clear HS0 HPl HWd k0 k1 k2 k3 k4;generalize (W0.alloc (.cells #[iV c] 190))=W1 at *;generalize W0.heap.size=C at *;have hcl:C < W1.heap.size:=(HS1.out.k _ mE0).lt (by simp);go_cut [46] (fun v wx=>Bxs w [(C,[iV c2])] wx)
 case first =>
  rename_i J K2 hJ hK2;have HCP:Hid (∀ wy,Below W1.drew.heap.size W1.drew wy→_):=fun wy hy=>HS1.out.kept (bR.drew.trans hy)
  clear HS1 HV;refine wp_region_growV [16,17,18,19,20,21,22,23,24,25,26,27,28,29,30,31,32,33,34,35,36,37,38,39,40,41,42,43,44,45] (by kernel_rfl) (by kernel_rfl) ?_;iterate 8 (apply GChV.u rfl;(·intro K' a wy ho hd hb hK;simp [rAt,IsV,slot,Region.binds] at ho hd;have hst:=HCP.out wy hb;have kC:=(hst.at mE1).c3;have kC:=(hst.at mE2).c3;clear hst;go_simp;first|((try go_bits);exact hK _ _ rfl bQ)|(refine (HP1.out wy).mono ?_;rintro e wz ⟨rfl,hz⟩;exact hK _ _ rfl hz));dsimp only [nA,cA])
  iterate 10 (apply GChV.u rfl;(·intro K' a wy ho hd hb hK;simp [rAt,IsV,slot,Region.binds] at ho hd;have hst:=HCP.out wy hb;have kC:=(hst.at mE1).c3;have kC:=(hst.at mE2).c3;clear hst;go_simp;first|((try go_bits);exact hK _ _ rfl bQ)|(refine (HP2.out wy).mono ?_;rintro e wz ⟨rfl,hz⟩;exact hK _ _ rfl hz));dsimp only [nA,cA])
  iterate 9 (apply GChV.u rfl;(·intro K' a wy ho hd hb hK;simp [rAt,IsV,slot,Region.binds] at ho hd;have hst:=HCP.out wy hb;have kC:=(hst.at mE1).c3;have kC:=(hst.at mE2).c3;clear hst;go_simp;first|((try go_bits);exact hK _ _ rfl bQ)|(refine (HH1.out wy).mono ?_;rintro e wz ⟨rfl,hz⟩;exact hK _ _ rfl hz));dsimp only [nA,cA])
  iterate 2 (apply GChV.u rfl;(·intro K' a wy ho hd hb hK;simp [rAt,IsV,slot,Region.binds] at ho hd;go_simp;first|((try go_bits);exact hK _ _ rfl bQ)|(refine (HH2.out wy).mono ?_;rintro e wz ⟨rfl,hz⟩;exact hK _ _ rfl hz));dsimp only [nA,cA])
  refine GChV.rel (n:=29) (IsPr W1.drew.heap.size [.string p1,.string p2,.string p3,.string p4]) (stable_isPr _ _ (by simp)) [_,_,_,_,_,_,_,_,_,_,_,_,_,_,_,_,_,_,_,_,_,_,_,_,_,_,_,_,_,IsPr W1.drew.heap.size [.string p1,.string p2,.string p3,.string p4]] rfl rfl ?_ ?_
  ·intro K' a wy ho hd hb hK;rw [wN rfl];have q9:=hd ⟨9,.data⟩ (by simp) rfl;have q28:=hd ⟨28,.data⟩ (by simp) rfl;simp [rAt,IsV,slot] at q9 q28;clear hd ho;go_simp;exact hK _ _ ⟨wy.heap.size,rfl,hb.size,HoldsL.new wy [.string p1,.string p2,.string p3,.string p4] 195⟩ (bR.alloc lR _)
  intro X wz hR hz;obtain ⟨x0,x1,x2,x3,x4,x5,x6,x7,x8,x9,x10,x11,x12,x13,x14,x15,x16,x17,x18,x19,x20,x21,x22,x23,x24,x25,x26,x27,x28,x29,-⟩:=hR;obtain ⟨R,e29,b29,h29⟩:=x29;simp only [IsV] at x0 x1 x2 x3 x4 x5 x6 x7 x8 x9 x10 x11 x12 x13 x14 x15 x16 x17 x18 x19 x20 x21 x22 x23 x24 x25 x26 x27 x28;simp only [putsFrom,x0,x1,x2,x3,x4,x5,x6,x7,x8,x9,x10,x11,x12,x13,x14,x15,x16,x17,x18,x19,x20,x21,x22,x23,x24,x25,x26,x27,x28,e29];clear x0 x1 x2 x3 x4 x5 x6 x7 x8 x9 x10 x11 x12 x13 x14 x15 x16 x17 x18 x19 x20 x21 x22 x23 x24 x25 x26 x27 x28;have hst:=HCP.out wz hz;have hRC:R≠C:=by
   have:C < W1.drew.heap.size:=hcl;omega
  have HB5:Hid (Bxs w ((C,[iV c])::(R,[.string p1,.string p2,.string p3,.string p4])::[(w.heap.size,(FlR proto src dst sp dp)),(w.heap.size+1,(FlR proto' src' dst' sp' dp'))]) wz):=(hst.tl.cons h29 (by simp)).cons (hst.k _ mE0) (by simp);have HKS:Hid (∀ e∈([(w.heap.size,(FlR proto src dst sp dp)),(w.heap.size+1,(FlR proto' src' dst' sp' dp'))]:List (Nat × List Value)),e.1≠C):=fun e he=>by
   simp only [List.mem_cons,List.not_mem_nil,or_false] at he;rcases he with rfl | rfl<;>(show _≠C; omega)
  clear hst h29 HCP HP1 HP2 HH1 HH2;intro K10 hK10;go_simp;refine (HEa.out C R _ wz hw0 hRC HKS.out HB5.out).mono ?_;rintro e w5 ⟨rfl,hb5⟩;have HF:Hid (Bxs w [(C,[iV c2])] w5):=⟨fun e he=>by
   rw [List.mem_singleton] at he;rw [he]; exact hb5.k _ mE0,hb5.b,fun e he=>by
   rw [List.mem_singleton] at he;rw [he]; simp⟩
  clear hb5 HB5 HKS HEa;refine hK10 _ _ ?_;show Exit.then _ _ _ _ _;refine hK2 _ _ (hJ _ _ ?_);(repeat apply Exists.intro)
  exact ⟨HF.out,rfl⟩
 case rest =>
 have S6:Hid (Bxs w [(C,[iV c2])] wc):=hcut;clear hcut HS1 HP1 HP2 HH1 HH2 HEa;generalize wc=W6 at *;have HH6:=S6.out.at mE0;have z0:=HH6.cell (j:=0) rfl;clear HH6;have HFB:Hid (Below w.heap.size w W6):=S6.out.b;clear S6;by_cases h0:c2=0
 case pos =>
  have d0:(c2==0)=true:=by simp [h0]
  have HX:Hid (ans=65535):=by unfold Hid; rw [HV.out,if_pos h0]
  clear h0 HV;go_wp2_with fail
  go_ret;exact ⟨ret_int (by rw [HX.out]),HFB.out⟩
 have d0:(c2==0)=false:=by simp [h0]
 have HX:Hid (ans=c2):=by unfold Hid; rw [HV.out,if_neg h0]
 clear h0 HV;go_wp2_with fail
 go_ret;exact ⟨ret_int (by rw [HX.out]),HFB.out⟩
theorem hold_of_bytes {W:World} {b:Nat} {t:ByteArray} (h:Holds W b t.size (bt t)):HoldsL W b (strCells t):=by
 refine ⟨fun j v hv=>?_,fun j hj=>?_⟩
 ·rw [Nat.zero_add];have hj:j < t.size:=by
   have:=(List.getElem?_eq_some_iff.1 hv).1;rwa [strCells_length] at this
  rw [strCells_at t j hj] at hv;injection hv with hv
  rw [← hv]; exact (h.get j hj).1
 ·rw [strCells_length] at hj;rw [Nat.zero_add];exact ⟨by rw [(h.get j hj).1]; rfl,(h.get j hj).2⟩
theorem hold_str {W:World} {b cap:Nat} {t:ByteArray} (h:HoldsL W b (strCells t)):(convert 22 9 (.slice (some ⟨b,0,none⟩) t.size cap)).run Tryz.prog W=.ok (.string t) W:=by
 have hh:Holds W b t.size (bt t):=⟨fun i hi=>⟨hold_bt h i hi,h.free (by rw [strCells_length]; exact hi)⟩⟩;have:=hh.conv (cap:=cap) (bt_isByte t)
 rw [bytesOf_self] at this;exact this
theorem put_split (t:ByteArray) (k n:Nat) (h:k+n≤t.size):t.extract 0 k++t.extract k (k+n)++t.extract (k+n) t.size=t:=by
 refine ba_ext ?_ (fun i hi=>?_)
 ·simp only [ByteArray.size_append,ByteArray.size_extract]; omega
 ·have s1:(t.extract 0 k).size=k:=by rw [ByteArray.size_extract]; omega
  have s2:(t.extract k (k+n)).size=n:=by rw [ByteArray.size_extract]; omega
  simp only [ByteArray.size_append,ByteArray.size_extract] at hi;rw [bt_append,bt_append,ByteArray.size_append,s1,s2];by_cases h1:i < k
  ·rw [if_pos (by omega),if_pos h1,bt_extract _ _ _ _ (by omega),if_pos (by omega),Nat.zero_add]
  ·by_cases h2:i < k+n
   ·rw [if_pos h2,if_neg h1,bt_extract _ _ _ _ (by omega),if_pos (by omega),show k+(i-k)=i by omega]
   ·rw [if_neg h2,bt_extract _ _ _ _ lR,if_pos (by omega),show k+n+(i-(k+n))=i by omega]
theorem lay_put {W:World} {b k:Nat} {t u:ByteArray} (h:HoldsL W b (strCells t)) (hk:k+u.size≤t.size):HoldsL (W.setCells b k (strCells u)) b (strCells (putV t k u)):=by
 rw [← put_split t k u.size hk] at h;exact lay_at h (by rw [ByteArray.size_extract]; omega) (by rw [ByteArray.size_extract]; omega)
theorem run_lay_more {P:Program} {w:World} {g o dCap base e g6:Nat} {t s:ByteArray} (dT sT ty elem:TypeId) (hu:P.underlying dT=some (.slice elem)) (hz:(P.info? elem).map (·.size)=some 1) (h:HoldsL w g (strCells t)) (ho:o+s.size≤t.size) {dLen sLen:Nat} (hd:s.size≤dLen) (hs:sLen=s.size) (hown:w.ownsRow base e 1 (.slice (some ⟨g6,0,none⟩) sLen sLen) sLen (strCells s)) :
  (Builtin.copy_ #[dT,sT] ty #[.slice (some ⟨g,o,none⟩) dLen dCap,.slice (some ⟨g6,0,none⟩) sLen sLen]).run P w=.ok (goInt s.size) (w.setCells g o (strCells s)):=by
 have hl:(strCells t).length=t.size:=strCells_length t;have:=run_copy_cells (P:=P) w dT sT ty elem g o dLen dCap ⟨g6,0,none⟩ sLen sLen (strCells s) hu hz (by rw [strCells_length,hs]; exact (Nat.min_eq_left hd).symm) (fun j v hj=>hown.cells (g:=g6) rfl j v hj) (fun j hj=>by rw [strCells_length] at hj; have:=(h.th (o+j) (by omega)).1; rwa [Nat.zero_add] at this) (fun j hj=>by rw [strCells_length] at hj; have:=(h.th (o+j) (by omega)).2; rwa [Nat.zero_add] at this) (strCells_oneCell _);rw [strCells_length] at this;exact this
theorem cells_one {x:Int} (h:0≤x∧x≤255):strCells (oneV x)=[.int .u8 x]:=by
 unfold strCells oneV;simp;omega
theorem lay_first {W:World} {b:Nat} {t:ByteArray} {x:Int} (h:HoldsL W b (strCells t)) (hx:0≤x∧x≤255) (ht:1≤t.size):HoldsL (W.setCell ⟨b,0,none⟩ (.int .u8 x)) b (strCells (putV t 0 (oneV x))):=by
 have e:strCells (putV t 0 (oneV x))=(strCells t).set 0 (.int .u8 x):=by
  have hs:=put_split t 0 1 (by omega);have h0:(strCells (t.extract 0 0))=[]:=by
   apply List.eq_nil_of_length_eq_zero;rw [strCells_length,ByteArray.size_extract]; omega
  have h1:(strCells (t.extract 0 (0+1))).length=1:=by rw [strCells_length,ByteArray.size_extract]; omega
  obtain ⟨y,hy⟩:=List.length_eq_one_iff.1 h1;have ht2:strCells t=y::strCells (t.extract (0+1) t.size):=by
   conv=>lhs; rw [← hs]
   rw [strCells_append,strCells_append,h0,hy]; rfl
  unfold putV;rw [strCells_append,strCells_append,h0,cells_one hx,ht2];rfl
 rw [e];exact h.set 0 _
theorem ask_byte (p:Int):0≤askP p∧askP p≤255:=by unfold askP; split<;>omega
theorem ans_byte (p:Int):0≤ansP p∧ansP p≤255:=by unfold ansP; split<;>omega
def LayRet (base:Nat) (n:Nat) (u:ByteArray) (e:Ending) (w':World):Prop:=∃ b cap,e=.returned (.slice (some ⟨b,0,none⟩) n cap)∧n≤cap∧base≤b∧HoldsL w' b (strCells u)
theorem ipLay_any (p:Int) (g:Fl) (t:ByteArray) (w:World) (h8:8≤t.size) (ht:t.size≤20000) (gw:(0≤g.sp∧g.sp≤65535)∧(0≤g.dp∧g.dp≤65535)) (hp:echoP g.proto=true→echoP p=true) :
  Calls Tryz.prog 152 #[iV p,fwC g,.string t] w fun e w'=>LayRet w.heap.size t.size (layV p g t) e w'∧Below w.heap.size w w':=by
 have HE:Hid (∀ W,Cw 100 #[iV g.proto] W (.bool (echoP g.proto))):=fun W=>implEcho_any _ W
 have HV:Hid (layV p g t=if echoP g.proto=true then putV (putV t 4 (twoV g.sp)) 0 (oneV (if bt t 0=askP p then askP g.proto else ansP g.proto)) else putV t 0 (twoV g.sp++twoV g.dp)):=rfl;have HE1:Hid (echoP p=true→∀ W,Cw 130 #[iV p] W (.tuple #[.int .u8 (askP p),.int .u8 (ansP p)])):=fun h W=>ipEchoBytes_any p W h
 have HE2:Hid (echoP g.proto=true→∀ W,Cw 130 #[iV g.proto] W (.tuple #[.int .u8 (askP g.proto),.int .u8 (ansP g.proto)])):=fun h W=>ipEchoBytes_any _ W h
 have ra:=ask_byte g.proto;have rn:=ans_byte g.proto;have z2:=twoV_size g.sp;have z4:(twoV g.sp++twoV g.dp).size=4:=by rw [ByteArray.size_append]; rfl
 have HL2:Hid ((layL [g.sp,g.dp]).map (Value.int .u8)=strCells (twoV g.sp++twoV g.dp)):=by unfold Hid; rw [strCells_append,strCells_two _ gw.1.1 gw.1.2,strCells_two _ gw.2.1 gw.2.2]; rfl
 have HL1:Hid ((layL [g.sp]).map (Value.int .u8)=strCells (twoV g.sp)):=by unfold Hid; rw [strCells_two _ gw.1.1 gw.1.2]; rfl
 have hinfo:(Tryz.prog.info? 5).map (·.size)=some 1:=by
  obtain ⟨i0,hi,hz0,hz1,hz2⟩:=info_parts Tryz.info5;rw [hi]; simp [hz1]
 generalize layV p g t=ans at *;obtain ⟨proto,src,dst,sp,dp⟩:=g;unfold fwC;dsimp only at *;have HS0:=bx1 w (FlR proto src dst sp dp) 43 (by simp)
 skip;obtain ⟨cp,W1,hcv,hh,hb1,hcap⟩:=bytes_new (w.alloc (.cells (FlR proto src dst sp dp).toArray 43)) t;rw [show (w.alloc (.cells (FlR proto src dst sp dp).toArray 43)).heap.size=w.heap.size+1 by simp] at hcv hh;have HT1:Hid (HoldsL W1 (w.heap.size+1) (strCells t)):=hold_of_bytes hh;have HS1:Hid _:=HS0.out.kept hb1;clear hh hb1 HS0;go_enter Tryz.func152,Tryz.ntmps152
 go_upto_region 2 with fail
 clear hcv;have HHk:=HS1.out.at mE0;obtain ⟨k0,k1,k2,k3,k4⟩:=HHk.c5;clear HHk;have hlw:w.heap.size+1 < W1.heap.size:=HT1.out.lt (by rw [strCells_length]; omega);go_wp2_with fail
 refine (HE.out _).mono ?_;rintro e W1 ⟨rfl,rfl⟩
 cases hec:echoP proto with
 | false =>
  have HX:Hid (ans=putV t 0 (twoV sp++twoV dp)):=by unfold Hid; rw [HV.out,hec]; rfl
  clear HV HE1 HE2 HL1;have HL:Hid (Calls Tryz.prog 154 #[.slice (some ⟨W1.heap.size,0,none⟩) 2 2] (W1.alloc (.cells #[iV sp,iV dp] 2)) fun e w'=>e=.returned (.slice (some ⟨W1.heap.size+1,0,none⟩) 4 4)∧w'.ownsRow (W1.heap.size+1) 5 1 (.slice (some ⟨W1.heap.size+1,0,none⟩) 4 4) 4 (strCells (twoV sp++twoV dp))∧Below W1.heap.size W1 w'):=by
   refine (layWords_any [sp,dp] W1.heap.size 2 2 (W1.alloc (.cells #[iV sp,iV dp] 2)) (by omega) (by simp) rfl (getD_word _ (by simp only [List.forall_mem_cons,List.not_mem_nil,false_imp_iff,implies_true,and_true]; omega)) (by intro k hk; match k,hk with
   | 0,_=>simp
   | 1,_=>simp)).mono ?_
   rintro e w' ⟨rfl,hown,hB⟩;rw [show (W1.alloc (.cells #[iV sp,iV dp] 2)).heap.size=W1.heap.size+1 by simp] at hown hB ⊢;rw [HL2.out] at hown;exact ⟨rfl,hown,(bR.alloc lR _).trans (hB.mono (by omega))⟩
  clear HL2;go_wp2_with fail
  refine HL.out.mono ?_;rintro e w3 ⟨rfl,hown,q3⟩;have hT3:HoldsL w3 (w.heap.size+1) (strCells t):=HT1.out.kept (by rw [strCells_length]; omega) q3;have hrun:=run_lay_more (P:=Tryz.prog) (dCap:=cp) 22 22 3 5 Tryz.underlying22 hinfo hT3 (o:=0) (by omega) (dLen:=t.size) (by omega) z4.symm hown;rw [z4] at hrun;have HF:Hid (HoldsL (w3.setCells (w.heap.size+1) 0 (strCells (twoV sp++twoV dp))) (w.heap.size+1) (strCells ans)):=by unfold Hid; rw [HX.out]; exact lay_put hT3 (by omega)
  have HB:Hid (Below w.heap.size w (w3.setCells (w.heap.size+1) 0 (strCells (twoV sp++twoV dp)))):=below_setCells ((HS1.out.kept q3).b) (by omega) _ _;clear hT3 hown q3 HT1 HS1 HL HX k0 k1 k2 k3 k4;go_wp2_with fail
  go_ret;exact ⟨⟨_,_,rfl,hcap,by omega,HF.out⟩,HB.out⟩
 | true =>
  have hep:=hp hec;have HX:Hid (ans=putV (putV t 4 (twoV sp)) 0 (oneV (if bt t 0=askP p then askP proto else ansP proto))):=by unfold Hid; rw [HV.out,hec]; rfl
  replace HE1:Hid _:=HE1.out hep;replace HE2:Hid _:=HE2.out hec;clear HV HL2 hep hec hp HE;go_upto_region 5 with fail
  clear k0 k1 k2 k3 k4;have n4:¬ (t.size:Int) < 4:=by omega
  have c4:¬ (cp:Int) < 4:=by omega
  have n5:(4:Int)≤t.size:=by omega
  have c44:¬ cp=4:=by omega
  go_cut [33] (fun v wx=>HoldsL wx (w.heap.size+1) (strCells (putV t 4 (twoV sp)))∧Bxs w [(w.heap.size,(FlR proto src dst sp dp))] wx)
  case first =>
   rename_i J K2 hJ hK2;have HCP:Hid (∀ wy,Below W1.drew.heap.size W1.drew wy→_):=fun wy hy=>HS1.out.kept (bR.drew.trans hy)
   have HGP:Hid (∀ wy,Below W1.drew.heap.size W1.drew wy→HoldsL wy (w.heap.size+1) (strCells t)):=fun wy hy=>HT1.out.kept (by rw [strCells_length]; omega) (bR.drew.trans hy)
   have hlw2:w.heap.size≤W1.drew.heap.size:=by show w.heap.size≤W1.heap.size; omega
   clear HT1 HS1 HX HE1 HE2;refine wp_region_growV [27,28,29,30,31,32] (by kernel_rfl) (by kernel_rfl) ?_;iterate 4 (apply GChV.u rfl;(·intro K' a wy ho hd hb hK;simp [rAt,IsV,slot,Region.binds] at ho hd;have hst:=HCP.out wy hb;have HHk:=hst.at mE0;have k3:=HHk.cell (j:=3) rfl;clear HHk;clear hst;go_simp;(try go_bits);exact hK _ _ rfl bQ);dsimp only [nA,cA])
   refine GChV.rel (n:=4) (IsWords [sp]) (stable_isWords _) [_,_,_,_,IsWords [sp]] rfl rfl ?_ ?_
   ·intro K' a wy ho hd hb hK;rw [wN rfl];have q3:=hd ⟨3,.data⟩ (by simp) rfl;simp [rAt,IsV,slot] at q3;clear hd ho;go_simp;exact hK _ _ ⟨wy.heap.size,rfl,by simp,fun k hk=>by
     simp only [List.length_cons,List.length_nil] at hk;match k,hk with
     | 0,_=>simp⟩ (bR.alloc lR _)
   refine GChV.rel (n:=5) (IsOwn w.heap.size 5 2 (strCells (twoV sp))) (stable_isOwn _ _ _ _) [_,_,_,_,_,IsOwn w.heap.size 5 2 (strCells (twoV sp))] rfl rfl ?_ ?_
   ·intro K' a wy ho hd hb hK;rw [wN rfl];have hr:IsWords [sp] (slot a 31) wy:=hd ⟨4,.data⟩ (by simp) rfl;obtain ⟨b4,e1,e2,e3⟩:=hr;simp [slot] at e1;clear hd ho;go_simp;refine (layWords_any [sp] b4 1 1 wy (by decide) e2 rfl (getD_word _ (by simp only [List.forall_mem_cons,List.not_mem_nil,false_imp_iff,implies_true,and_true]; omega)) e3).mono ?_;rintro e wz ⟨rfl,hown,hz⟩;exact hK _ _ ⟨_,rfl,owns_base (by rw [← HL1.out]; exact hown) (Nat.le_trans hlw2 hb.size)⟩ hz
   intro X wz hR hz;obtain ⟨x0,x1,x2,x3,x4,x5,-⟩:=hR;obtain ⟨b4,e4,-,-⟩:=x4;obtain ⟨g5,e5,own5⟩:=x5;simp only [IsV] at x0 x1 x2 x3;simp only [putsFrom,x0,x1,x2,x3,e4,e5];clear x0 x1 x2 x3;rw [e5] at own5;have hgz:=HGP.out wz hz;have hrun:=run_lay_more (P:=Tryz.prog) (dCap:=cp-4) 22 22 3 5 Tryz.underlying22 hinfo hgz (o:=4) (by omega) (dLen:=t.size-4) (by omega) z2.symm own5;rw [z2] at hrun;have HN2:Hid (HoldsL (wz.setCells (w.heap.size+1) 4 (strCells (twoV sp))) (w.heap.size+1) (strCells (putV t 4 (twoV sp)))):=lay_put hgz (by omega);have HB2:Hid (Bxs w [(w.heap.size,(FlR proto src dst sp dp))] (wz.setCells (w.heap.size+1) 4 (strCells (twoV sp)))):=(HCP.out wz hz).cells (fun e he=>by
    rw [List.mem_singleton] at he;rw [he]; show w.heap.size≠w.heap.size+1; omega) (by omega)
   clear hgz own5 hz HCP HGP;intro K10 hK10;go_simp;refine hK10 _ _ ?_;show Exit.then _ _ _ _ _;refine hK2 _ _ (hJ _ _ ?_);(repeat apply Exists.intro)
   exact ⟨⟨HN2.out,HB2.out⟩,rfl⟩
  case rest =>
  obtain ⟨hG,hS⟩:=hcut;have G2:Hid _:=hG;have S2:Hid (Bxs w [(w.heap.size,(FlR proto src dst sp dp))] wc):=hS;clear hG hS HT1 HS1 HL1;generalize wc=W2 at *;have hz2:=putV_size (t:=t) (u:=twoV sp) (k:=4) (by omega);have c0:=hold_bt G2.out 0 (by omega);have f0:W2.frozen? ⟨w.heap.size+1,0,none⟩=false:=G2.out.free (by rw [strCells_length]; omega);have e0:bt (putV t 4 (twoV sp)) 0=bt t 0:=by rw [bt_put (by omega),if_pos (by omega)]
  rw [e0] at c0;clear e0;have HHk:=S2.out.at mE0;obtain ⟨k0,k1,k2,k3,k4⟩:=HHk.c5;clear HHk;go_wp2_with fail
  refine (HE1.out _).mono ?_;rintro e W2 ⟨rfl,rfl⟩;go_wp2_with fail
  refine (HE2.out _).mono ?_;rintro e W2 ⟨rfl,rfl⟩;by_cases ha:bt t 0=askP p
  case pos =>
   have d0:(bt t 0==askP p)=true:=by simp [ha]
   have HF:Hid (HoldsL (W2.setCell ⟨w.heap.size+1,0,none⟩ (.int .u8 (askP proto))) (w.heap.size+1) (strCells ans)):=by unfold Hid; rw [HX.out,if_pos ha]; exact lay_first G2.out ra (by omega)
   have HB:Hid (Below w.heap.size w (W2.setCell ⟨w.heap.size+1,0,none⟩ (.int .u8 (askP proto)))):=S2.out.b.setCell (p:=⟨w.heap.size+1,0,none⟩) (by show w.heap.size≤w.heap.size+1; omega) _;clear ha HX G2 S2 HE1 HE2;generalize bt t 0=b0 at *;generalize askP p=ap at *;generalize askP proto=ag at *;generalize ansP proto=ng at *;generalize ansP p=np at *;go_wp2_with fail
   go_ret;exact ⟨⟨_,_,rfl,hcap,by omega,HF.out⟩,HB.out⟩
  case neg =>
   have d0:(bt t 0==askP p)=false:=by simp [ha]
   have HF:Hid (HoldsL (W2.setCell ⟨w.heap.size+1,0,none⟩ (.int .u8 (ansP proto))) (w.heap.size+1) (strCells ans)):=by unfold Hid; rw [HX.out,if_neg ha]; exact lay_first G2.out rn (by omega)
   have HB:Hid (Below w.heap.size w (W2.setCell ⟨w.heap.size+1,0,none⟩ (.int .u8 (ansP proto)))):=S2.out.b.setCell (p:=⟨w.heap.size+1,0,none⟩) (by show w.heap.size≤w.heap.size+1; omega) _;clear ha HX G2 S2 HE1 HE2;generalize bt t 0=b0 at *;generalize askP p=ap at *;generalize askP proto=ag at *;generalize ansP proto=ng at *;generalize ansP p=np at *;go_wp2_with fail
   go_ret;exact ⟨⟨_,_,rfl,hcap,by omega,HF.out⟩,HB.out⟩
end Go.Proofs.YtdkepkaflielhaaGreatDoor
