import Derived.Test.YtagbhaalmjpkjaaMerged8
set_option linter.unusedVariables false
set_option linter.unusedSimpArgs false
set_option maxRecDepth 100000
set_option maxHeartbeats 8000000
namespace Go.Proofs.Ytagbhaalmjpkjaa
open Go.RowKit Go.PlainAid
theorem add1_none {a b:Int} (ha:0≤a) (hb:0≤b) (h:add1 a b=0):a=0∧b=0:=by
 unfold add1 at h; split at h<;>omega
theorem sumN_zero {g:Nat→Int} (hg:isByte g):∀ k,sumN g k=0→∀ j,j < k→wordN g (2*j)=0
 | 0,_,j,hj=>absurd hj (Nat.not_lt_zero _)
 | k+1,h,j,hj=>by
  have h2:add1 (sumN g k) (wordN g (2*k))=0:=h;obtain ⟨e1,e2⟩:=add1_none (sumN_range hg k).1 (wordN_range hg _).1 h2;by_cases hk:j=k
  ·subst hk; exact e2
  ·exact sumN_zero hg k e1 j (by omega)
theorem sum_done {f g:Nat→Int} {j k:Nat} (hf:isByte f) (hg:isByte g) (h:∀ i,(i < 2*j∨2*j+2≤i)→f i=g i) (hj:j < k) (h0:wordN f (2*j)=0) (hn:wordN g (2*j)=65535-sumN f k):sumN g k=65535:=by
 obtain ⟨z,hz⟩:=sumN_turn h k hj;have r1:=sumN_range hf k;have r2:=sumN_range hg k;by_cases h1:sumN g k=0
 ·have h2:=sumN_zero hg k h1 j hj;have f0:=hf (2*j); have f1:=hf (2*j+1); have g0:=hg (2*j); have g1:=hg (2*j+1);have e:sumN f k=sumN g k:=sumN_congr k fun i _=>by
   by_cases h3:i < 2*j∨2*j+2≤i
   ·exact h i h3
   ·unfold wordN at h0 h2;rcases (by omega:i=2*j∨i=2*j+1) with h4 | h4<;>subst h4<;>omega
  omega
 ·omega
theorem btT_out {s:ByteArray} {i:Nat} (h:s.size≤i):bt s i=0:=by unfold bt; rw [dif_neg (by omega)]
theorem put_other (d:ByteArray) (n:Int) (h:4≤d.size) (i:Nat) (hi:i < 2∨4≤i):bt (putV d 2 (twoV n)) i=bt d i:=by
 unfold putV;rw [bt_append,bt_append,bt_extract _ _ _ _ (Nat.le_refl _),bt_extract _ _ _ _ (by omega)];simp only [ByteArray.size_append,ByteArray.size_extract,twoV_size];rcases hi with hi | hi
 ·rw [if_pos (by omega),if_pos (by omega),if_pos (by omega)]; congr 1; omega
 ·rw [if_neg (by omega)];by_cases hs:i < d.size
  ·rw [if_pos (by omega)]; congr 1; omega
  ·rw [if_neg (by omega),btT_out (by omega)]
theorem put_word (d:ByteArray) (n:Int) (h:4≤d.size) (h0:0≤n) (h1:n≤65535):bt (putV d 2 (twoV n)) 2=n / 256∧bt (putV d 2 (twoV n)) 3=n % 256:=by
 obtain ⟨b0,b1⟩:=bt_two n h0 h1;unfold putV;rw [bt_append,bt_append,bt_append,bt_append];simp only [ByteArray.size_append,ByteArray.size_extract,twoV_size];rw [if_pos (by omega),if_neg (by omega),if_pos (by omega),if_neg (by omega)];have e1:2-(min 2 d.size-0)=0:=by omega
 have e2:3-(min 2 d.size-0)=1:=by omega
 rw [e1,e2];exact ⟨b0,b1⟩
theorem bt_left {a b:ByteArray} {i:Nat} (h:i < a.size):bt (a++b) i=bt a i:=by rw [bt_append,if_pos h]
theorem bt_right {a b:ByteArray} {i:Nat} (h:a.size≤i):bt (a++b) i=bt b (i-a.size):=by rw [bt_append,if_neg (by omega)]
theorem msg_bytes (k c n:Int) (t:ByteArray) (hk:0≤k∧k≤255) (hc:0≤c∧c≤255):bt (msgV k c n t) 0=k∧bt (msgV k c n t) 2=0∧bt (msgV k c n t) 3=0:=by
 have hp:=pairV_bt k c hk hc;have z4:(⟨#[0,0,0,0]⟩ : ByteArray).size=4:=rfl;have s1:(pairV k c++⟨#[0,0,0,0]⟩).size=6:=by rw [ByteArray.size_append,pairV_size,z4]
 have s2:(pairV k c++⟨#[0,0,0,0]⟩++twoV n).size=8:=by rw [ByteArray.size_append,s1,twoV_size]
 have s0:=pairV_size k c;unfold msgV;refine ⟨?_,?_,?_⟩
 ·rw [bt_left (by omega),bt_left (by omega),bt_left (by omega)]; exact hp.1
 ·rw [bt_left (by omega),bt_left (by omega),bt_right (by omega),s0]; rfl
 ·rw [bt_left (by omega),bt_left (by omega),bt_right (by omega),s0]; rfl
theorem v4Ok_told {s q d:ByteArray} (hs:s.size=4) (hq:q.size=4) (hd:d.size≤1400):v4Ok ⟨0,0,true,false,0,64,1,s,q,⟨#[]⟩,d⟩=true:=by
 have h0:(⟨#[]⟩ : ByteArray).size=0:=rfl;unfold v4Ok v4A v4B v4C isIn;dsimp only;simp [hs,hq,hd,h0];omega
theorem v6Ok_told {s q d:ByteArray} (hs:s.size=16) (hq:q.size=16) (hd:d.size≤1400):v6Ok ⟨0,0,58,64,s,q,false,false,0,0,d⟩=true:=by
 unfold v6Ok v6A v6B isIn;dsimp only;simp [hs,hq,hd]
theorem tell4_parts {s:ByteArray} {p:P4} {k c n:Int} (h:tell4C s p k c n=0):v4Ok p=true∧s.size=4∧(0≤k∧k≤255)∧(0≤c∧c≤255)∧dumb4 p=false:=by
 unfold tell4C at h;split at h
 ·omega
 ·split at h
  ·omega
  ·rename_i h2;split at h
   ·omega
   ·rename_i h3;simp only [Bool.not_eq_false,Bool.and_eq_true,decide_eq_true_eq,msgOk] at h2;exact ⟨h2.1.1,h2.1.2,isIn_parts h2.2.1.1,isIn_parts h2.2.1.2,by simpa using h3⟩
theorem tell6_parts {s:ByteArray} {p:P6} {k c n:Int} (h:tell6C s p k c n=0):v6Ok p=true∧s.size=16∧(0≤k∧k≤255)∧(0≤c∧c≤255)∧dumb6 p=false:=by
 unfold tell6C at h;split at h
 ·omega
 ·split at h
  ·omega
  ·rename_i h2;split at h
   ·omega
   ·rename_i h3;simp only [Bool.not_eq_false,Bool.and_eq_true,decide_eq_true_eq,msgOk] at h2;exact ⟨h2.1.1,h2.1.2,isIn_parts h2.2.1.1,isIn_parts h2.2.1.2,by simpa using h3⟩
theorem bare4_size {p:P4} (k c n:Int) (h:v4Ok p=true):8≤(bare4 p k c n).size∧(bare4 p k c n).size≤76:=by
 obtain ⟨r1,r2,r3,r4⟩:=raw4_size h;unfold bare4; rw [msgV_size,ByteArray.size_extract]; omega
theorem bare6_size {p:P6} (k c n:Int):8≤(bare6 p k c n).size∧(bare6 p k c n).size≤1208:=by
 unfold bare6; rw [msgV_size,ByteArray.size_extract]; omega
theorem told4_size {s:ByteArray} {p:P4} (k c n:Int) (h:v4Ok p=true):(told4 s p k c n).size=(bare4 p k c n).size:=putV_size (by have:=bare4_size k c n h; rw [twoV_size]; omega)
theorem told6_size {s:ByteArray} {p:P6} (k c n:Int):(told6 s p k c n).size=(bare6 p k c n).size:=putV_size (by have:=@bare6_size p k c n; rw [twoV_size]; omega)
theorem told4_sum {s:ByteArray} {p:P4} {k c n:Int} (h:v4Ok p=true) (hk:0≤k∧k≤255) (hc:0≤c∧c≤255):sumV (told4 s p k c n)=65535:=by
 have hb:=bare4_size k c n h;have hz:wordN (bt (bare4 p k c n)) 2=0:=by
  obtain ⟨_,m2,m3⟩:=msg_bytes k c n ((v4Raw p).extract 0 (28+p.opts.size)) hk hc;unfold wordN bare4; rw [m2,m3]; rfl
 have hr:=sumV_range (bare4 p k c n);have he:sumV (told4 s p k c n)=sumN (bt (told4 s p k c n)) (((bare4 p k c n).size+1) / 2):=by unfold sumV; rw [told4_size k c n h]
 rw [he];obtain ⟨w2,w3⟩:=put_word (bare4 p k c n) (65535-sumV (bare4 p k c n)) (by omega) (by omega) (by omega);refine sum_done (j:=1) (f:=bt (bare4 p k c n)) (bt_isByte _) (bt_isByte _) (fun i hi=>(put_other _ _ (by omega) i (by omega)).symm) (by omega) hz ?_;show wordN (bt (putV (bare4 p k c n) 2 (twoV (65535-sumV (bare4 p k c n))))) 2=65535-sumV (bare4 p k c n);unfold wordN; rw [w2,w3]; omega
theorem told4_first {s:ByteArray} {p:P4} {k c n:Int} (h:v4Ok p=true) (hk:0≤k∧k≤255) (hc:0≤c∧c≤255):bt (told4 s p k c n) 0=k:=by
 have hb:=bare4_size k c n h;unfold told4; rw [put_other _ _ (by omega) 0 (by omega)];exact (msg_bytes k c n _ hk hc).1
theorem told6_first {s:ByteArray} {p:P6} {k c n:Int} (hk:0≤k∧k≤255) (hc:0≤c∧c≤255):bt (told6 s p k c n) 0=k:=by
 have hb:=@bare6_size p k c n;unfold told6; rw [put_other _ _ (by omega) 0 (by omega)];exact (msg_bytes k c n _ hk hc).1
theorem pseudo6_size {s q:ByteArray} (n:Nat) (hs:s.size=16) (hq:q.size=16):(pseudoV s q 58 n).size=40:=by
 unfold pseudoV; rw [if_neg (by omega),if_neg (by omega)];simp only [ByteArray.size_append,twoV_size,hs,hq];rfl
theorem told6_sum {s:ByteArray} {p:P6} {k c n:Int} (hs:s.size=16) (hq:p.src.size=16) (hk:0≤k∧k≤255) (hc:0≤c∧c≤255):cSum s p.src 58 (told6 s p k c n)=65535:=by
 have hb:=@bare6_size p k c n;have hz:=msg_bytes k c n ((v6Raw p).extract 0 1200) hk hc;have hr:=sumV_range (pseudoV s p.src 58 (bare6 p k c n).size++bare6 p k c n);have hps:=pseudo6_size (bare6 p k c n).size hs hq;unfold cSum; rw [told6_size k c n];have hz2:told6 s p k c n=putV (bare6 p k c n) 2 (twoV (65535-sumV (pseudoV s p.src 58 (bare6 p k c n).size++bare6 p k c n))):=rfl;have hsz:=@told6_size s p k c n;obtain ⟨w2,w3⟩:=put_word (bare6 p k c n) (65535-sumV (pseudoV s p.src 58 (bare6 p k c n).size++bare6 p k c n)) (by omega) (by omega) (by omega);have ho:=put_other (bare6 p k c n) (65535-sumV (pseudoV s p.src 58 (bare6 p k c n).size++bare6 p k c n)) (by omega);rw [← hz2] at w2 w3 ho;have hb2:bt (bare6 p k c n) 2=0∧bt (bare6 p k c n) 3=0:=hz.2;generalize hS:sumV (pseudoV s p.src 58 (bare6 p k c n).size++bare6 p k c n)=S at *;unfold sumV at hS ⊢;rw [ByteArray.size_append,hps] at hS ⊢;rw [hsz];generalize pseudoV s p.src 58 (bare6 p k c n).size=ps at *;generalize told6 s p k c n=td at *;generalize bare6 p k c n=bd at *;refine sum_done (j:=21) (f:=bt (ps++bd)) (bt_isByte _) (bt_isByte _) (fun i hi=>?_) (by omega) ?_ ?_
 ·rw [bt_append,bt_append];by_cases hi2:i < ps.size
  ·rw [if_pos hi2,if_pos hi2]
  ·rw [if_neg hi2,if_neg hi2,ho (i-ps.size) (by omega)]
 ·unfold wordN; rw [bt_append,bt_append,if_neg (by omega),if_neg (by omega),hps];show bt bd 2*256+bt bd 3=0;rw [hb2.1,hb2.2]; rfl
 ·rw [hS]; unfold wordN; rw [bt_append,bt_append,if_neg (by omega),if_neg (by omega),hps];show bt td 2*256+bt td 3=65535-S;rw [w2,w3]; omega
theorem tell4_right {s:ByteArray} {p:P4} {k c n:Int} (h:tell4C s p k c n=0):v4Ok (tell4V s p k c n)=true∧(tell4V s p k c n).src=s∧(tell4V s p k c n).dst=p.src∧(tell4V s p k c n).proto=1∧carryOk s p.src 1 (tell4V s p k c n).data=true∧(k≠0→k≠8→tell4C s (tell4V s p k c n) 3 1 0=11)∧(tell4V s p k c n).data.size≤1400∧s.size=4∧p.src.size=4:=by
 obtain ⟨h1,h2,h3,h4,h5⟩:=tell4_parts h;obtain ⟨r1,r2,r3,r4⟩:=raw4_size h1;have hz:=bare4_size k c n h1;have hsz:=@told4_size s p k c n h1;have e:tell4V s p k c n=⟨0,0,true,false,0,64,1,s,p.src,⟨#[]⟩,told4 s p k c n⟩:=if_pos h;have hv:v4Ok (tell4V s p k c n)=true:=by rw [e]; exact v4Ok_told h2 r4 (by omega)
 refine ⟨hv,by rw [e],by rw [e],by rw [e],?_,fun k0 k8=>?_,by rw [e]; show (told4 s p k c n).size≤1400; omega,h2,r4⟩
 ·rw [e]; dsimp only;have hps:pseudoV s p.src 1 (told4 s p k c n).size=⟨#[]⟩:=if_pos ⟨rfl,h2⟩;have hcs:cSum s p.src 1 (told4 s p k c n)=65535:=by
   unfold cSum; rw [hps];have:(⟨#[]⟩ : ByteArray)++told4 s p k c n=told4 s p k c n:=ByteArray.empty_append;rw [this]; exact told4_sum h1 h3 h4
  unfold carryOk cIn pairOk isIn; rw [hcs,addrOk_yes (.inl h2)];simp [h2,r4]; omega
 ·have hd:dumb4 (tell4V s p k c n)=true:=by
   rw [e]; unfold dumb4; dsimp only;rw [told4_first h1 h3 h4];have:¬ (told4 s p k c n).size=0:=by omega
   simp [k0,k8]
  unfold tell4C msgOk; rw [if_neg (by omega),if_neg (by rw [hv]; simp [h2,isIn,isW]),if_pos hd]
theorem tell6_right {s:ByteArray} {p:P6} {k c n:Int} (h:tell6C s p k c n=0):v6Ok (tell6V s p k c n)=true∧(tell6V s p k c n).src=s∧(tell6V s p k c n).dst=p.src∧(tell6V s p k c n).next=58∧carryOk s p.src 58 (tell6V s p k c n).data=true∧(k≤127→tell6C s (tell6V s p k c n) 1 0 0=11)∧(v6Raw (tell6V s p k c n)).size≤1280∧(tell6V s p k c n).data.size≤1400∧s.size=16∧p.src.size=16:=by
 obtain ⟨h1,h2,h3,h4,h5⟩:=tell6_parts h;obtain ⟨r1,r2,r3⟩:=raw6_size h1;have hz:=@bare6_size p k c n;have hsz:=@told6_size s p k c n;have e:tell6V s p k c n=⟨0,0,58,64,s,p.src,false,false,0,0,told6 s p k c n⟩:=if_pos h;have hv:v6Ok (tell6V s p k c n)=true:=by rw [e]; exact v6Ok_told h2 r2 (by omega)
 refine ⟨hv,by rw [e],by rw [e],by rw [e],?_,fun k0=>?_,?_,by rw [e]; show (told6 s p k c n).size≤1400; omega,h2,r2⟩
 ·rw [e]; dsimp only;have hcs:=@told6_sum s p k c n h2 r2 h3 h4;unfold carryOk cIn pairOk isIn; rw [hcs,addrOk_yes (.inr h2)];simp [h2,r2]; omega
 ·have hd:dumb6 (tell6V s p k c n)=true:=by
   rw [e]; unfold dumb6; dsimp only;rw [told6_first h3 h4];have:k < 128:=by omega
   simp [this]
  unfold tell6C msgOk; rw [if_neg (by omega),if_neg (by rw [hv]; simp [h2,isIn,isW]),if_pos hd]
 ·rw [e]; unfold v6Raw restV; dsimp only;simp only [ByteArray.size_append,pairV_size,twoV_size,Bool.false_eq_true,if_false];omega
end Go.Proofs.Ytagbhaalmjpkjaa
