import Derived.Test.YtdkepkaflielhaaGreatDoorMerged13
set_option linter.unusedVariables false
set_option linter.unusedSimpArgs false
set_option maxRecDepth 100000
set_option maxHeartbeats 8000000
namespace Go.Proofs.YtdkepkaflielhaaGreatDoor
open Go.RowKit
def key5 (s:Ss):Int × List UInt8 × Int × List UInt8 × Int:=(s.proto,s.inn.toList,s.inPort,s.peer.toList,s.peerPort)
theorem sameS_key (s t:Ss):sameS s t=decide (key5 s=key5 t):=by
 unfold sameS key5;rw [Bool.eq_iff_iff]; simp [and_assoc]
theorem any_same (s:Ss) (ys:List Ss):(ys.any fun t=>sameS s t)=decide (key5 s∈ys.map key5):=by
 rw [Bool.eq_iff_iff];simp only [List.any_eq_true,decide_eq_true_iff,List.mem_map,sameS_key];constructor
 ·rintro ⟨t,h1,h2⟩; exact ⟨t,h1,h2.symm⟩
 ·rintro ⟨t,h1,h2⟩; exact ⟨t,h1,h2.symm⟩
theorem hasS_key (c:Bd) (s:Ss):hasS c s=decide (keyB c=keyS s):=by
 unfold hasS keyB keyS;rw [Bool.eq_iff_iff]; simp [and_assoc]
theorem any_has (c:Bd) (ys:List Ss):(ys.any fun s=>hasS c s)=decide (keyB c∈ys.map keyS):=by
 rw [Bool.eq_iff_iff];simp only [List.any_eq_true,decide_eq_true_iff,List.mem_map,hasS_key];constructor
 ·rintro ⟨t,h1,h2⟩; exact ⟨t,h1,h2.symm⟩
 ·rintro ⟨t,h1,h2⟩; exact ⟨t,h1,h2.symm⟩
def sessV (s:Ss):Bool:=decide (s.peer.size=4)&&isW s.peerPort&&isIn s.state 1 7&&(decide (s.proto=6)||decide (s.state=3))&&isIn s.untl 0 2000000000
theorem sessOne_eq (bs:List Bd) (ys:List Ss) (s:Ss):sessOne bs ys s=(sessV s&&decide (0≤findI (ofIn s.proto s.inn s.inPort) bs)&&!decide (key5 s∈ys.map key5)):=by
 unfold sessOne sessV; rw [any_same]
theorem find_at_any (s:Ss) (bs:List Bd):decide (0≤findI (ofIn s.proto s.inn s.inPort) bs)=bs.any (ofIn s.proto s.inn s.inPort):=findI_any _ _
structure BibR (p:Pl) (x:Bb):Prop where
 pool:poolOk p=true
 most:(x.sess.length:Int)≤p.most
 len:x.binds.length≤60
 bind:∀ i (h:i < x.binds.length),bindOne p (x.binds.take i) x.binds[i]=true
 sess:∀ s∈x.sess,sessV s=true
 has:∀ s∈x.sess,x.binds.any (ofIn s.proto s.inn s.inPort)=true
 nodup:(x.sess.map key5).Nodup
 all:∀ c∈x.binds,keyB c∈x.sess.map keyS
theorem nodup_take {α:Type} {xs:List α}:xs.Nodup↔∀ i (h:i < xs.length),xs[i] ∉ xs.take i:=by
 rw [List.nodup_iff_pairwise_ne,List.pairwise_iff_getElem];constructor
 ·intro h i hi hm;obtain ⟨k,hk,hki,e⟩:=mem_take hm;exact h k i hk hi hki e
 ·intro h i j hi hj hij e;exact h j hj (e ▸ take_mem hi hij)
theorem bibR_iff {p:Pl} {x:Bb}:bibOk p x=true↔BibR p x:=by
 unfold bibOk;simp only [Bool.and_eq_true,decide_eq_true_iff,List.all_eq_true];constructor
 ·rintro ⟨⟨⟨⟨⟨h1,h2⟩,h3⟩,h4⟩,h5⟩,h6⟩;have h5':=upN_iff.1 h5;have key:∀ i (h:i < x.sess.length),sessV x.sess[i]=true∧x.binds.any (ofIn x.sess[i].proto x.sess[i].inn x.sess[i].inPort)=true∧key5 x.sess[i] ∉ (x.sess.take i).map key5:=by
   intro i hi;have:=h5' i hi;rw [sessOne_eq,find_at_any] at this;simp only [Bool.and_eq_true,Bool.not_eq_true',decide_eq_false_iff_not] at this;exact ⟨this.1.1,this.1.2,this.2⟩
  refine ⟨h1,h2,h3,upN_iff.1 h4,fun s hs=>?_,fun s hs=>?_,?_,fun c hc=>?_⟩
  ·obtain ⟨i,hi,rfl⟩:=List.getElem_of_mem hs; exact (key i hi).1
  ·obtain ⟨i,hi,rfl⟩:=List.getElem_of_mem hs; exact (key i hi).2.1
  ·rw [nodup_take];intro i hi;rw [List.length_map] at hi;rw [List.getElem_map,← List.map_take];exact (key i hi).2.2
  ·have:=h6 c hc;rw [any_has] at this;exact of_decide_eq_true this
 ·rintro ⟨h1,h2,h3,h4,h5,h6,h7,h8⟩;refine ⟨⟨⟨⟨⟨h1,h2⟩,h3⟩,upN_iff.2 h4⟩,upN_iff.2 fun i hi=>?_⟩,fun c hc=>?_⟩
  ·rw [sessOne_eq,find_at_any];simp only [Bool.and_eq_true,Bool.not_eq_true',decide_eq_false_iff_not];refine ⟨⟨h5 _ (List.getElem_mem hi),h6 _ (List.getElem_mem hi)⟩,?_⟩;have:=nodup_take.1 h7 i (by simpa using hi);rwa [List.getElem_map,← List.map_take] at this
  ·rw [any_has]; exact decide_eq_true (h8 c hc)
theorem map_set_same {α β:Type} (f:α→β) (xs:List α) (i:Nat) (hi:i < xs.length) (y:α) (h:f y=f xs[i]):(xs.set i y).map f=xs.map f:=by
 rw [List.map_set,h];apply List.ext_getElem
 ·simp
 ·intro k h1 h2;rw [List.getElem_set];split
  ·rename_i e; subst e; simp
  ·rfl
theorem trackNext_in {proto st:Int} {ins:Bool} {fl:Int} (hp:protoB proto=true) (hs:isIn st 1 7=true) (hf:isIn fl 0 255=true):isIn (trackNextV proto st ins fl) 1 7=true∧(proto=6∨trackNextV proto st ins fl=3):=by
 unfold protoB at hp;simp only [Bool.or_eq_true,decide_eq_true_iff] at hp;unfold trackNextV;by_cases h:stillP proto=true
 ·rw [if_pos h]; exact ⟨by decide,.inr rfl⟩
 ·rw [if_neg h];have h6:proto=6:=by
   unfold stillP at h;simp only [Bool.or_eq_true,decide_eq_true_iff,not_or] at h;rcases hp with (h1 | h1) | h1
   ·exact h1
   ·exact absurd h1 h.1
   ·exact absurd h1 h.2
  rw [if_pos ⟨h6,hs,hf⟩];refine ⟨?_,.inl h6⟩;unfold isIn at hs ⊢;simp only [Bool.and_eq_true,decide_eq_true_iff] at hs ⊢;(repeat' split)<;>omega
theorem trackNew_in {proto:Int} {ins:Bool} {fl:Int} (h0:trackNewV proto ins fl≠0):isIn (trackNewV proto ins fl) 1 7=true∧(proto=6∨trackNewV proto ins fl=3):=by
 unfold trackNewV at h0 ⊢;by_cases h1:isIn fl 0 255=false
 ·rw [if_pos h1] at h0; exact absurd rfl h0
 rw [if_neg h1] at h0 ⊢;by_cases h2:stillP proto=true
 ·rw [if_pos h2]; exact ⟨by decide,.inr rfl⟩
 rw [if_neg h2] at h0 ⊢;by_cases h3:proto=6∧flagB fl 2=true∧flagB fl 4=false∧flagB fl 16=false
 ·rw [if_pos h3];refine ⟨?_,.inl h3.1⟩;split<;>decide
 ·rw [if_neg h3] at h0; exact absurd rfl h0
theorem untl_in {now lf:Int} (hn:isTime now=true) (h0:0≤lf) (h1:lf≤10000):isIn (now+lf) 0 2000000000=true:=by
 unfold isTime isIn at hn;unfold isIn;simp only [Bool.and_eq_true,decide_eq_true_iff] at hn ⊢;omega
theorem ofIn_proto {p:Pl} {x:Bb} (h:BibR p x) {s:Ss} (hs:s∈x.sess):protoB s.proto=true:=by
 obtain ⟨c,hc,ho⟩:=List.any_eq_true.1 (h.has s hs);obtain ⟨i,hi,rfl⟩:=List.getElem_of_mem hc;have:=h.bind i hi;unfold bindOne at this;simp only [Bool.and_eq_true] at this;unfold ofIn at ho;simp only [Bool.and_eq_true,decide_eq_true_iff] at ho;rw [← ho.1.1]; exact this.1.1.1.1.1
theorem next_right {p:Pl} {x:Bb} {t:Tc} {now:Int} (h:BibR p x) (hn:isTime now=true) (ht:touchOk t=true) {i:Nat} (hi:i < x.sess.length) (hpr:x.sess[i].proto=t.proto):BibR p ⟨x.binds,x.sess.set i (nextS p t now x.sess[i])⟩:=by
 have hlf:=trackLife_in p.lv t.proto (trackNextV t.proto x.sess[i].state t.inside t.flags);have hk5:(x.sess.set i (nextS p t now x.sess[i])).map key5=x.sess.map key5:=map_set_same key5 _ i hi _ rfl;have hkS:(x.sess.set i (nextS p t now x.sess[i])).map keyS=x.sess.map keyS:=map_set_same keyS _ i hi _ rfl;have hfl:isIn t.flags 0 255=true:=by unfold touchOk at ht; simp only [Bool.and_eq_true] at ht; exact ht.2
 refine ⟨h.pool,by simpa using h.most,h.len,h.bind,fun s hs=>?_,fun s hs=>?_,by rw [hk5]; exact h.nodup,fun c hc=>by rw [hkS]; exact h.all c hc⟩
 ·rcases List.mem_or_eq_of_mem_set hs with hs | rfl
  ·exact h.sess s hs
  ·have h1:=h.sess _ (List.getElem_mem hi);unfold sessV at h1 ⊢;simp only [Bool.and_eq_true,Bool.or_eq_true,decide_eq_true_iff] at h1 ⊢;have h2:=trackNext_in (ins:=t.inside) (hpr ▸ ofIn_proto h (List.getElem_mem hi)) h1.1.1.2 hfl;refine ⟨⟨⟨h1.1.1.1,h2.1⟩,?_⟩,untl_in hn hlf.1 hlf.2⟩;rcases h2.2 with e | e
   ·exact .inl (hpr.trans e)
   ·exact .inr e
 ·rcases List.mem_or_eq_of_mem_set hs with hs | rfl
  ·exact h.has s hs
  ·have:=h.has x.sess[i] (List.getElem_mem hi);exact this
theorem leastN_in {f:Int→Bool}:∀ (c:Nat) (lo n:Int),leastN f lo c=some n→lo≤n∧n < lo+c∧f n=true
 | 0,lo,n,h=>by simp [leastN] at h
 | c+1,lo,n,h=>by
  unfold leastN at h;by_cases hf:f lo=true
  ·rw [if_pos hf] at h; injection h with h; subst h; exact ⟨by omega,by omega,hf⟩
  ·rw [if_neg hf] at h;have:=leastN_in c (lo+1) n h;exact ⟨by omega,by omega,this.2.2⟩
theorem lendN_in {p:Pl} {xs:List Bd} {proto:Int} {out:ByteArray} {port n:Int} (h:lendN p xs proto out port=some n):isIn n p.low p.high=true∧freeP xs proto out n=true:=by
 unfold lendN at h;by_cases h1:(isIn port p.low p.high&&freeP xs proto out port)=true
 ·rw [if_pos h1] at h; injection h with h; subst h
  simp only [Bool.and_eq_true] at h1; exact h1
 ·rw [if_neg h1] at h;have fin:∀ g m,leastN g p.low (p.high-p.low+1).toNat=some m→isIn m p.low p.high=true∧g m=true:=by
   intro g m hm;have:=leastN_in _ _ _ hm;refine ⟨?_,this.2.2⟩;unfold isIn;simp only [Bool.and_eq_true,decide_eq_true_iff];omega
  cases h2:leastN (fun n=>decide (n % 2=port % 2)&&freeP xs proto out n) p.low (p.high-p.low+1).toNat with
  | some m =>
   rw [h2] at h;injection h with h; subst h
   have:=fin _ _ h2;simp only [Bool.and_eq_true] at this;exact ⟨this.1,this.2.2⟩
  | none =>
   rw [h2] at h;exact fin _ _ h
theorem outIn_pool {p:Pl} {x:Bb} (h:BibR p x) (s:ByteArray):inL p.addrs (outIn x.binds (outD p s) s)=true:=by
 unfold outIn
 cases hf:x.binds.find? (ofHost s) with
 | some c =>
  obtain ⟨i,hi,rfl⟩:=List.getElem_of_mem (List.mem_of_find?_eq_some hf);have:=h.bind i hi;unfold bindOne at this;simp only [Bool.and_eq_true] at this;exact this.1.1.2
 | none =>
  have hp:=h.pool;unfold poolOk at hp;simp only [Bool.and_eq_true,decide_eq_true_iff] at hp;have h1:1≤p.addrs.length:=hp.1.1.1.1.1.1.1.1;have hm:(sumV s).toNat % p.addrs.length < p.addrs.length:=Nat.mod_lt _ (by omega);show inL p.addrs (outD p s)=true;unfold outD inL;rw [List.getElem?_eq_getElem hm,Option.getD_some];exact List.any_eq_true.2 ⟨_,List.getElem_mem hm,by simp⟩
theorem lend_one {p:Pl} {x:Bb} {t:Tc} {c:Bd} (h:BibR p x) (ht:touchOk t=true) (hf:x.binds.find? (ofIn t.proto t.addr t.port)=none) (hl:lendV p x.binds t.proto t.addr t.port=(c,0)):bindOne p x.binds c=true∧c.proto=t.proto∧c.inn=t.addr∧c.inPort=t.port:=by
 unfold lendV at hl;rw [hf] at hl;dsimp only at hl
 cases hn:lendN p x.binds t.proto (outIn x.binds (outD p t.addr) t.addr) t.port with
 | none=>rw [hn] at hl; simp at hl
 | some n =>
  rw [hn] at hl;injection hl with hl _
  subst hl;have hin:=lendN_in hn;have hpo:=outIn_pool h t.addr;unfold touchOk at ht;simp only [Bool.and_eq_true] at ht;refine ⟨?_,rfl,rfl,rfl⟩;unfold bindOne;simp only [Bool.and_eq_true,Bool.not_eq_true'];refine ⟨⟨⟨⟨⟨ht.1.1.1.1.1.1,ht.1.1.1.1.1.2⟩,ht.1.1.1.2⟩,hpo⟩,hin.1⟩,?_⟩;rw [List.any_eq_false];intro b hb hcl;unfold clashB at hcl;simp only [Bool.or_eq_true,Bool.and_eq_true,decide_eq_true_iff,Bool.not_eq_true',decide_eq_false_iff_not] at hcl;rcases hcl with ⟨e1,e2⟩ | ⟨e1,⟨e2,e3⟩ | ⟨e2,e3⟩⟩
  ·
   obtain ⟨i,hi,rfl⟩:=List.getElem_of_mem hb;have hbk:bookOk p x=true:=by rw [book_bib]; exact bibR_iff.2 h
   unfold bookOk at hbk;simp only [Bool.and_eq_true] at hbk;have hfi:=upN_iff.1 hbk.1.2 i hi;unfold fitB at hfi;simp only [Bool.and_eq_true,decide_eq_true_iff] at hfi;have h8:=hfi.1.2;rw [outIn_host e1] at h8;have hsm:(x.binds.find? (ofHost t.addr)).isSome=true:=by
    rw [find_some_any]; exact List.any_eq_true.2 ⟨_,hb,by unfold ofHost; exact decide_eq_true e1⟩
   rw [← outIn_some (d:=outD p t.addr) hsm] at h8;exact e2 h8.symm
  ·exact List.find?_eq_none.1 hf b hb (by unfold ofIn; simp [e1,e2,e3])
  ·have hfr:=hin.2;rw [free_any] at hfr;simp only [Bool.not_eq_true'] at hfr;exact List.any_eq_false.1 hfr b hb (by unfold ofOut; simp [e1,e2,e3])
theorem snoc_right {p:Pl} {x:Bb} {s:Ss} {ys:List Bd} {c:Bd} (h:BibR p x) (hm:(x.sess.length:Int) < p.most) (hys:ys=x.binds∨(ys=x.binds++[c]∧bindOne p x.binds c=true)) (hc:c∈ys) (hk:keyB c=keyS s) (hv:sessV s=true) (hn:key5 s ∉ x.sess.map key5):BibR p ⟨ys,x.sess++[s]⟩:=by
 have hpm:=pool_most h.pool;have hbl:x.binds.length≤x.sess.length:=binds_le h.bind (fun c hc=>by rw [any_has]; exact decide_eq_true (h.all c hc));have hsub:∀ b,b∈x.binds→b∈ys:=by
  intro b hb;rcases hys with e | ⟨e,_⟩<;>rw [e]
  ·exact hb
  ·exact List.mem_append_left _ hb
 have hcs:ofIn s.proto s.inn s.inPort c=true:=by
  unfold keyB keyS at hk;simp only [Prod.mk.injEq] at hk;unfold ofIn; simp [hk.1,hk.2.1,hk.2.2]
 refine ⟨h.pool,by simp; omega,?_,?_,fun q hq=>?_,fun q hq=>?_,?_,fun b hb=>?_⟩
 ·rcases hys with e | ⟨e,_⟩<;>rw [e]
  ·exact h.len
  ·simp; omega
 ·intro i hi;rcases hys with e | ⟨e,h1⟩
  ·subst e; exact h.bind i hi
  ·subst e;dsimp only at hi ⊢;by_cases hlt:i < x.binds.length
   ·rw [List.getElem_append_left hlt,List.take_append_of_le_length (Nat.le_of_lt hlt)];exact h.bind i hlt
   ·have hie:i=x.binds.length:=by simp at hi; omega
    subst hie;simpa using h1
 ·rcases List.mem_append.1 hq with hq | hq
  ·exact h.sess q hq
  ·simp at hq; subst hq; exact hv
 ·rcases List.mem_append.1 hq with hq | hq
  ·obtain ⟨b,hb,ho⟩:=List.any_eq_true.1 (h.has q hq);exact List.any_eq_true.2 ⟨b,hsub b hb,ho⟩
  ·simp at hq; subst hq; exact List.any_eq_true.2 ⟨c,hc,hcs⟩
 ·rw [List.map_append,List.nodup_append];refine ⟨h.nodup,by simp,?_⟩;intro a ha b hb;simp at hb;subst hb;exact fun e=>hn (e ▸ ha)
 ·rw [List.map_append];rcases hys with e | ⟨e,_⟩
  ·subst e; exact List.mem_append_left _ (h.all b hb)
  ·subst e;rcases List.mem_append.1 hb with hb | hb
   ·exact List.mem_append_left _ (h.all b hb)
   ·simp at hb; subst hb;exact List.mem_append_right _ (by simp [hk])
theorem key5_with {c:Bd} {t:Tc} {q s:Ss} (hs:key5 s=key5 q) (hk:keyB c=keyS s) (hp:s.peer=t.peer) (hpp:s.peerPort=t.peerPort):withP c t.peer t.peerPort q=true:=by
 unfold withP;rw [hasS_key];unfold key5 at hs;unfold keyB keyS at hk;unfold keyB keyS;simp only [Prod.mk.injEq] at hs hk ⊢;simp only [Bool.and_eq_true,decide_eq_true_iff];exact ⟨⟨⟨hk.1.trans hs.1,hk.2.1.trans hs.2.1,hk.2.2.trans hs.2.2.1⟩,by rw [← hp]; exact hs.2.2.2.1.symm⟩,by rw [← hpp]; exact hs.2.2.2.2.symm⟩
theorem new_right {p:Pl} {x:Bb} {t:Tc} {c:Bd} {now:Int} (h:BibR p x) (hn:isTime now=true) (ht:touchOk t=true) (hst:trackNewV t.proto t.inside t.flags≠0) (hm:(x.sess.length:Int) < p.most) (hcp:c.proto=t.proto)
  (hb:(newB x.binds c=x.binds∧c∈x.binds)∨(newB x.binds c=x.binds++[c]∧bindOne p x.binds c=true)) (hno:∀ q∈x.sess,withP c t.peer t.peerPort q=false) :
  BibR p ⟨newB x.binds c,x.sess++[sessN p t c (trackNewV t.proto t.inside t.flags) now]⟩:=by
 have hlf:=trackLife_in p.lv t.proto (trackNewV t.proto t.inside t.flags);have hkk:keyB c=keyS (sessN p t c (trackNewV t.proto t.inside t.flags) now):=by
  unfold keyB keyS sessN; rw [hcp]
 have htw:=ht;unfold touchOk at htw;simp only [Bool.and_eq_true,decide_eq_true_iff] at htw;refine snoc_right (c:=c) h hm ?_ ?_ hkk ?_ ?_
 ·rcases hb with ⟨e,_⟩ | ⟨e,h1⟩
  ·exact .inl e
  ·exact .inr ⟨e,h1⟩
 ·rcases hb with ⟨e,h1⟩ | ⟨e,_⟩<;>rw [e]
  ·exact h1
  ·simp
 ·have h2:=trackNew_in hst;unfold sessV sessN;simp only [Bool.and_eq_true,Bool.or_eq_true,decide_eq_true_iff];exact ⟨⟨⟨⟨htw.1.1.2,htw.1.2⟩,h2.1⟩,h2.2⟩,untl_in hn hlf.1 hlf.2⟩
 ·intro hm;obtain ⟨q,hq,e⟩:=List.mem_map.1 hm;have:=key5_with (c:=c) (t:=t) e.symm hkk rfl rfl;rw [hno q hq] at this;exact absurd this (by decide)
def NewTold (p:Pl) (x:Bb) (t:Tc) (c:Bd) (o:Bo):Prop:=BibR p o.bib∧(∃ k,o.bib.binds=x.binds∨(t.inside=true∧o.bib.binds=x.binds++[k]))∧o.bind∈o.bib.binds∧(t.inside=true→hostE o.bind=⟨t.proto,t.addr,t.port⟩)∧(t.inside=false→o.bind=c∧o.bib.binds=x.binds)
def GoTold (p:Pl) (x:Bb) (t:Tc) (o:Bo):Prop:=BibR p o.bib∧(∃ k,o.bib.binds=x.binds∨(t.inside=true∧o.bib.binds=x.binds++[k]))∧o.bind∈o.bib.binds∧(t.inside=true→hostE o.bind=⟨t.proto,t.addr,t.port⟩)∧(t.inside=false→x.binds.find? (ofOut t.proto t.addr t.port)=some o.bind∧o.bib.binds=x.binds)
theorem newV_right {p:Pl} {x:Bb} {t:Tc} {c:Bd} {now:Int} (h:BibR p x) (hn:isTime now=true) (ht:touchOk t=true) (hin:t.inside=false→c∈x.binds∧c.proto=t.proto) (hno:∀ d,(t.inside=true→hostE d=⟨t.proto,t.addr,t.port⟩)→(t.inside=false→d=c)→∀ q∈x.sess,withP d t.peer t.peerPort q=false) (hc:(newV p x t c now).code=0) :
  NewTold p x t c (newV p x t c now):=by
 have hbk:bookOk p x=true:=by rw [book_bib]; exact bibR_iff.2 h
 unfold newV at hc ⊢;by_cases h1:trackNewV t.proto t.inside t.flags=0
 ·rw [if_pos h1] at hc; simp [boE] at hc
 rw [if_neg h1] at hc ⊢;by_cases h2:p.most≤(x.sess.length:Int)
 ·rw [if_pos h2] at hc; simp [boE] at hc
 rw [if_neg h2] at hc ⊢;have hm:(x.sess.length:Int) < p.most:=by omega
 cases hi:t.inside with
 | false =>
  rw [hi] at hc;simp only [Bool.false_eq_true,if_false,ne_eq,not_true_eq_false] at hc ⊢;obtain ⟨hc1,hc2⟩:=hin hi;have hnb:newB x.binds c=x.binds:=by
   unfold newB;have hf:=book_find hbk hc1 (h:=hostE c) rfl;rw [if_neg (fun hh=>by rw [findI_neg] at hh; rw [show ofIn c.proto c.inn c.inPort=ofIn (hostE c).proto (hostE c).addr (hostE c).port from rfl,hf] at hh; simp at hh)]
  have:=new_right (c:=c) (now:=now) h hn ht h1 hm hc2 (.inl ⟨hnb,hc1⟩) (hno c (fun e=>by rw [hi] at e; cases e) (fun _=>rfl));rw [hi] at this;refine ⟨this,⟨c,.inl hnb⟩,by show c∈newB x.binds c; rw [hnb]; exact hc1,fun e=>(by rw [hi] at e; cases e),fun _=>⟨rfl,hnb⟩⟩
 | true =>
  rw [hi] at hc;simp only [if_true] at hc ⊢;generalize hlv:lendV p x.binds t.proto t.addr t.port=lv at *;obtain ⟨d,k⟩:=lv;dsimp only at hc ⊢;by_cases hk:k≠0
  ·rw [if_pos hk] at hc; simp [boE] at hc; exact absurd hc hk
  rw [if_neg hk];have hk0:k=0:=by omega
  subst hk0;have main:((newB x.binds d=x.binds∧d∈x.binds)∨(newB x.binds d=x.binds++[d]∧bindOne p x.binds d=true))∧hostE d=⟨t.proto,t.addr,t.port⟩:=by
   cases hf:x.binds.find? (ofIn t.proto t.addr t.port) with
   | some e =>
    unfold lendV at hlv;rw [hf] at hlv;injection hlv with hlv _
    subst hlv;have he:hostE e=⟨t.proto,t.addr,t.port⟩:=(ofIn_host (h:=⟨t.proto,t.addr,t.port⟩)).1 (List.find?_some hf);refine ⟨.inl ⟨?_,List.mem_of_find?_eq_some hf⟩,he⟩;unfold newB;rw [if_neg (fun hh=>by rw [findI_neg,show ofIn e.proto e.inn e.inPort=ofIn (hostE e).proto (hostE e).addr (hostE e).port from rfl,he,hf] at hh; simp at hh)]
   | none =>
    obtain ⟨g1,g2,g3,g4⟩:=lend_one h ht hf hlv;have he:hostE d=⟨t.proto,t.addr,t.port⟩:=by unfold hostE; rw [g2,g3,g4]
    refine ⟨.inr ⟨?_,g1⟩,he⟩;unfold newB;rw [if_pos (by rw [findI_neg,g2,g3,g4,hf]; rfl)]
  obtain ⟨hb,he⟩:=main;have hdp:d.proto=t.proto:=congrArg En.proto he;have:=new_right (c:=d) (now:=now) h hn ht h1 hm hdp hb (hno d (fun _=>he) (fun e=>by rw [hi] at e; cases e));rw [hi] at this;refine ⟨this,⟨d,?_⟩,?_,fun _=>he,fun e=>(by rw [hi] at e; cases e)⟩
  ·rcases hb with ⟨e,_⟩ | ⟨e,_⟩
   ·exact .inl e
   ·exact .inr ⟨hi,e⟩
  ·show d∈newB x.binds d;rcases hb with ⟨e,h1⟩ | ⟨e,_⟩<;>rw [e]
   ·exact h1
   ·simp
theorem go_right {p:Pl} {x:Bb} {t:Tc} {now:Int} (h:BibR p x) (hn:isTime now=true) (ht:touchOk t=true) (hc:(goV p x t now).code=0) :
  GoTold p x t (goV p x t now):=by
 have hbk:bookOk p x=true:=by rw [book_bib]; exact bibR_iff.2 h
 unfold goV at hc ⊢
 cases hi:t.inside with
 | true =>
  rw [hi] at hc;simp only [if_true] at hc ⊢
  cases hf:x.binds.find? (ofIn t.proto t.addr t.port) with
  | none =>
   rw [hf] at hc;dsimp only at hc ⊢;have:=newV_right (c:=bdZ) (now:=now) h hn ht (fun e=>by rw [hi] at e; cases e) (fun d hd _ q hq=>by
    have hd:=hd hi
    cases hw:withP d t.peer t.peerPort q with
    | false=>rfl
    | true =>
     unfold withP at hw;simp only [Bool.and_eq_true] at hw;have h1:sessE q=hostE d:=(sameEn_same _ _).1 (by rw [sess_has]; exact hw.1.1);obtain ⟨b,hb,ho⟩:=List.any_eq_true.1 (h.has q hq);have h2:hostE b=sessE q:=(ofIn_host (h:=sessE q)).1 ho;exact absurd ((ofIn_host (h:=⟨t.proto,t.addr,t.port⟩)).2 (h2.trans (h1.trans hd))) (List.find?_eq_none.1 hf b hb)) hc
   obtain ⟨a1,a2,a3,a4,a5⟩:=this;exact ⟨a1,a2,a3,a4,fun e=>(by rw [hi] at e; cases e)⟩
  | some c =>
   rw [hf] at hc;dsimp only at hc ⊢;have hcm:=List.mem_of_find?_eq_some hf;have he:hostE c=⟨t.proto,t.addr,t.port⟩:=(ofIn_host (h:=⟨t.proto,t.addr,t.port⟩)).1 (List.find?_some hf)
   cases hx:x.sess.findIdx? (withP c t.peer t.peerPort) with
   | none =>
    rw [hx] at hc;dsimp only at hc ⊢;have hg:¬ goneB p x t c=true:=by unfold goneB; rw [hi]; simp
    rw [if_neg hg] at hc ⊢;have hne:=List.findIdx?_eq_none_iff.1 hx;have:=newV_right (c:=c) (now:=now) h hn ht (fun e=>by rw [hi] at e; cases e) (fun d hd _ q hq=>by
     have hd:=hd hi;have:=hne q hq;rw [withP_key (h:=hostE c) rfl] at this;rw [withP_key (h:=hostE c) (hd.trans he.symm)];exact this) hc
    obtain ⟨a1,a2,a3,a4,a5⟩:=this;exact ⟨a1,a2,a3,a4,fun e=>(by rw [hi] at e; cases e)⟩
   | some i =>
    dsimp only;obtain ⟨hlt,hfd⟩:=idx_some hx;have hpr:x.sess[i].proto=t.proto:=by
     have hw:=List.find?_some hfd;unfold withP hasS at hw;simp only [Bool.and_eq_true,decide_eq_true_iff] at hw;rw [← hw.1.1.1.1]; exact congrArg En.proto he
    have hs:setN x.sess i (nextS p t now)=x.sess.set i (nextS p t now x.sess[i]):=by unfold setN; rw [List.getElem?_eq_getElem hlt]
    rw [hs];exact ⟨next_right h hn ht hlt hpr,⟨c,.inl rfl⟩,hcm,fun _=>he,fun e=>(by rw [hi] at e; cases e)⟩
 | false =>
  rw [hi] at hc;simp only [Bool.false_eq_true,if_false] at hc ⊢
  cases hf:x.binds.find? (ofOut t.proto t.addr t.port) with
  | none=>rw [hf] at hc; simp [boE] at hc
  | some c =>
   rw [hf] at hc;dsimp only at hc ⊢;have hcm:=List.mem_of_find?_eq_some hf;have hcp:c.proto=t.proto:=by
    have:=List.find?_some hf;unfold ofOut at this;simp only [Bool.and_eq_true,decide_eq_true_iff] at this;exact this.1.1
   cases hx:x.sess.findIdx? (withP c t.peer t.peerPort) with
   | none =>
    rw [hx] at hc;dsimp only at hc ⊢;by_cases hg:goneB p x t c=true
    ·rw [if_pos hg] at hc; simp [boE] at hc
    rw [if_neg hg] at hc ⊢;have hne:=List.findIdx?_eq_none_iff.1 hx;have:=newV_right (c:=c) (now:=now) h hn ht (fun _=>⟨hcm,hcp⟩) (fun d _ hd q hq=>by
     have:=hd hi;subst this;have:=hne q hq;simpa using this) hc
    obtain ⟨a1,a2,a3,a4,a5⟩:=this;have a6:=a5 hi;exact ⟨a1,a2,a3,fun e=>(by rw [hi] at e; cases e),fun _=>⟨by rw [a6.1]; exact hf,a6.2⟩⟩
   | some i =>
    dsimp only;obtain ⟨hlt,hfd⟩:=idx_some hx;have hpr:x.sess[i].proto=t.proto:=by
     have hw:=List.find?_some hfd;unfold withP hasS at hw;simp only [Bool.and_eq_true,decide_eq_true_iff] at hw;rw [← hw.1.1.1.1]; exact hcp
    have hs:setN x.sess i (nextS p t now)=x.sess.set i (nextS p t now x.sess[i]):=by unfold setN; rw [List.getElem?_eq_getElem hlt]
    rw [hs];exact ⟨next_right h hn ht hlt hpr,⟨c,.inl rfl⟩,hcm,fun e=>(by rw [hi] at e; cases e),fun _=>⟨hf,rfl⟩⟩
theorem newB_len (xs:List Bd) (c:Bd):(newB xs c).length≤xs.length+1:=by
 unfold newB; split
 ·simp
 ·omega
theorem setN_len (xs:List Ss) (i:Nat) (f:Ss→Ss):(setN xs i f).length=xs.length:=by
 unfold setN; split
 ·simp
 ·rfl
theorem newV_len (p:Pl) (x:Bb) (t:Tc) (c:Bd) (now:Int):(newV p x t c now).bib.binds.length≤x.binds.length+1∧(newV p x t c now).bib.sess.length≤x.sess.length+1:=by
 unfold newV;by_cases h1:trackNewV t.proto t.inside t.flags=0
 ·rw [if_pos h1]; exact ⟨Nat.zero_le _,Nat.zero_le _⟩
 rw [if_neg h1];by_cases h2:p.most≤(x.sess.length:Int)
 ·rw [if_pos h2]; exact ⟨Nat.zero_le _,Nat.zero_le _⟩
 rw [if_neg h2];by_cases h3:(if t.inside=true then (lendV p x.binds t.proto t.addr t.port).2 else 0)≠0
 ·rw [if_pos h3]; exact ⟨Nat.zero_le _,Nat.zero_le _⟩
 rw [if_neg h3];exact ⟨newB_len _ _,by simp⟩
theorem goV_len (p:Pl) (x:Bb) (t:Tc) (now:Int):(goV p x t now).bib.binds.length≤x.binds.length+1∧(goV p x t now).bib.sess.length≤x.sess.length+1:=by
 unfold goV;split
 ·split
  ·exact newV_len p x t _ now
  ·exact ⟨Nat.zero_le _,Nat.zero_le _⟩
 ·split
  ·split
   ·exact ⟨Nat.zero_le _,Nat.zero_le _⟩
   ·exact newV_len p x t _ now
  ·exact ⟨by simp,by simp [setN_len]⟩
open Go.ChangeShapes
section
variable {P:Program} {ops:Array Oper} {Q:Exit→Act→World→Prop} {ds:List Tmp} {R:Nat→Value→World→Prop} {a0:Act} {w0:World} {last:Oper}
structure GFormU (ops:Array Oper) (ds:List Tmp) (n:Nat) (last:Oper):Prop where
 len:ops.size=ds.length+1
 dst:∀ i o,i < ds.length→ops[i]?=some o→o.dst=some (ds.getD i 0)∧o.guard=none
 nodup:ds.Nodup
 fits:∀ d∈ds,d < n
 topo:∀ i o,i < ds.length→ops[i]?=some o→∀ e∈o.after,Region.binds .any e=true→e.on < i
 isLast:ops[ds.length]?=some last
 lguard:last.guard=none
 ledge:∀ e∈last.after,Region.binds .any e=true→e.on < ds.length
 lall:∀ j,j < ds.length→(∃ e∈last.after,Region.binds .any e=true∧e.on=j)∨∃ i o,j < i∧i < ds.length∧ops[i]?=some o∧∃ e∈o.after,Region.binds .any e=true∧e.on=j
def gformU (ops:Array Oper) (ds:List Tmp) (n:Nat) (last:Oper):Bool :=
 decide (ops.size=ds.length+1)&&(List.range ds.length).all (fun i=>match ops[i]? with
  | some o=>(match o.dst with | some d=>d==ds.getD i 0 | none=>false)&&o.guard.isNone&&o.after.all (fun e=>!Region.binds .any e||decide (e.on < i))
  | none=>true)&&decide ds.Nodup&&ds.all (fun d=>decide (d < n))&&last.guard.isNone&&last.after.all (fun e=>!Region.binds .any e||decide (e.on < ds.length)) &&
  (List.range ds.length).all (fun j=>last.after.any (fun e=>Region.binds .any e&&e.on==j)||(List.range ds.length).any (fun i=>decide (j < i)&&match ops[i]? with | some o=>o.after.any (fun e=>Region.binds .any e&&e.on==j) | none=>false))
theorem GFormU.of {n:Nat} (hl:ops[ds.length]?=some last) (h:gformU ops ds n last=true):GFormU ops ds n last:=by
 unfold gformU at h;simp only [Bool.and_eq_true,decide_eq_true_iff,List.all_eq_true,List.mem_range] at h;obtain ⟨⟨⟨⟨⟨⟨h1,h2⟩,h3⟩,h4⟩,h5⟩,h6⟩,h7⟩:=h;refine ⟨h1,fun i o hi ho=>?_,h3,h4,fun i o hi ho e he hb=>?_,hl,by simpa using h5,fun e he hb=>?_,fun j hj=>?_⟩
 ·have:=h2 i hi;rw [ho] at this;simp only [Bool.and_eq_true] at this;obtain ⟨⟨t1,t2⟩,_⟩:=this;refine ⟨?_,by simpa using t2⟩
  cases hd:o.dst with
  | none=>rw [hd] at t1; simp at t1
  | some d=>rw [hd] at t1; simp at t1; rw [t1]; simp
 ·have:=h2 i hi;rw [ho] at this;simp only [Bool.and_eq_true] at this;obtain ⟨_,t3⟩:=this;have:=Array.all_eq_true_iff_forall_mem.1 t3 e he;simp [hb] at this;exact this
 ·have:=Array.all_eq_true_iff_forall_mem.1 h6 e he;simp [hb] at this;exact this
 ·have:=h7 j hj;simp only [Bool.or_eq_true] at this;rcases this with this | this
  ·obtain ⟨e,he,hb⟩:=Array.any_eq_true'.1 this;simp only [Bool.and_eq_true,beq_iff_eq] at hb;exact .inl ⟨e,he,hb.1,hb.2⟩
  ·obtain ⟨i,hi,hh⟩:=List.any_eq_true.1 this;simp only [Bool.and_eq_true,decide_eq_true_iff] at hh
   cases ho:ops[i]? with
   | none=>rw [ho] at hh; simp at hh
   | some o =>
    rw [ho] at hh;obtain ⟨e,he,hb⟩:=Array.any_eq_true'.1 hh.2;simp only [Bool.and_eq_true,beq_iff_eq] at hb;exact .inr ⟨i,o,hh.1,List.mem_range.1 hi,ho,e,he,hb.1,hb.2⟩
end
section
variable {P:Program} {ops:Array Oper} {Q:Exit→Act→World→Prop} {ds:List Tmp} {R:Nat→Value→World→Prop} {a0:Act} {w0:World} {last:Oper} {E:World→World→Prop} {I:World→Prop}
structure XInv (E:World→World→Prop) (I:World→Prop) (ops:Array Oper) (ds:List Tmp) (R:Nat→Value→World→Prop) (a0:Act) (w0:World) (listed:Array Bool) (a:Act) (w:World):Prop where
 size:listed.size=ops.size
 tsize:a.tmps.size=a0.tmps.size
 defers:a.defers=a0.defers
 outer:∀ t,t ∉ ds→slot a t=slot a0 t
 inner:∀ i,listed.getD i false=true→R i (slot a (ds.getD i 0)) w
 inv:I w
def XStep (E:World→World→Prop) (I:World→Prop) (P:Program) (Q:Exit→Act→World→Prop) (ds:List Tmp) (R:Nat→Value→World→Prop) (a0:Act) (i:Nat) (o:Oper):Prop :=
 ∀ (K':Act→World→Prop) (a:Act) (w:World),(∀ t,t ∉ ds→slot a t=slot a0 t)→(∀ e∈o.after,Region.binds .any e=true→R e.on (slot a (ds.getD e.on 0)) w) →
  I w→(∀ v w',R i v w'→E w w'→I w'→K' (a.put o.dst v) w')→Oper.wp P o a w K' Q
theorem wpAny_growXU (hF:GFormU ops ds a0.tmps.size last) (hst:∀ i v w w',R i v w→E w w'→R i v w')
  (hstep:∀ i o,i < ds.length→ops[i]?=some o→XStep E I P Q ds R a0 i o)
  (hlast:∀ (K':Act→World→Prop) a w,a.tmps.size=a0.tmps.size→a.defers=a0.defers→(∀ t,t ∉ ds→slot a t=slot a0 t)→(∀ i,i < ds.length→R i (slot a (ds.getD i 0)) w)→I w→(∀ a' w',Q .normal a' w'→K' a' w')→Oper.wp P last a w K' Q) :
  ∀ (fuel:Nat) (listed:Array Bool) (a:Act) (w:World),unl listed ops.size≤fuel→XInv E I ops ds R a0 w0 listed a w→listed.getD ds.length true=false→(∀ i o,ops[i]?=some o→listed.getD i false=true→∀ e∈o.after,Region.binds .any e=true→listed.getD e.on false=true)→wpAny P .any ops Q fuel listed a w:=by
 have hne:∀ (listed:Array Bool),listed.size=ops.size→listed.getD ds.length true=false→Region.ready .any ops listed=[]→False:=by
  intro listed hsz hl hr;have key:∀ i,i < ds.length→listed.getD i false=true:=by
   intro i;induction i using Nat.strongRecOn with
   | ind i ih =>
    intro hi;have hio:i < ops.size:=by rw [hF.len]; omega
    by_cases hh:listed.getD i true=true
    ·have hlt:i < listed.size:=by omega
     simpa [hlt] using hh
    ·exfalso
     have hmem:i∈Region.ready .any ops listed:=by
      rw [mem_ready];refine ⟨by simpa using hh,ops[i],by simp [hio],fun e he hb=>?_⟩;have hlt:=hF.topo i ops[i] hi (by simp [hio]) e he hb;exact ih _ hlt (by omega)
     rw [hr] at hmem;simp at hmem
  have hmem:ds.length∈Region.ready .any ops listed:=by
   rw [mem_ready];exact ⟨hl,last,hF.isLast,fun e he hb=>key _ (hF.ledge e he hb)⟩
  rw [hr] at hmem;simp at hmem
 intro fuel;induction fuel with
 | zero =>
  intro listed a w hu hI hl hcl;exfalso
  have:=unl_zero (listed:=listed) ops.size (by omega) ds.length (by rw [hF.len]; omega);rw [hl] at this;simp at this
 | succ fuel ih =>
  intro listed a w hu hI hl hcl;refine ⟨fun hr=>(hne listed hI.size hl hr).elim,fun i hi=>?_⟩;rw [mem_ready] at hi;obtain ⟨h0,o,ho,hdeps⟩:=hi;have hi:i < ops.size:=(Array.getElem?_eq_some_iff.1 ho).1;by_cases hil:i < ds.length
  ·obtain ⟨hd,hg⟩:=hF.dst i o hil ho;have hmem:ds.getD i 0∈ds:=by rw [getD_at hil]; exact List.getElem_mem hil
   refine wpOp_step ho (fun K' hK=>?_);rw [if_pos (by unfold Region.wanted; rw [hg])];refine hstep i o hil ho K' a w hI.outer (fun e he hb=>hI.inner _ (hdeps e he hb)) hI.inv (fun v w' hR hB hI'=>hK _ _ ?_);refine ih _ _ _ (by have:=unl_set h0 ops.size hi; omega) ⟨by simp [hI.size],?_,?_,fun t ht=>?_,fun j hj=>?_,hI'⟩ (by rw [getD_set_ne true (by omega)]; exact hl) ?_;rotate_right
   ·have hset:∀ j,listed.getD j false=true→(listed.setIfInBounds i true).getD j false=true:=fun j hj=>by
     by_cases e:i=j
     ·subst e; have hs:i < listed.size:=by rw [hI.size]; exact hi
      simp [hs]
     ·rw [getD_set_ne false e]; exact hj
    intro j o' ho' hj e he hb;by_cases hij:i=j
    ·subst hij;obtain rfl:o=o':=by rw [ho] at ho'; exact Option.some.inj ho'
     exact hset _ (hdeps e he hb)
    ·rw [getD_set_ne false hij] at hj;exact hset _ (hcl j o' ho' hj e he hb)
   ·rw [hd]; simp [Act.put,hI.tsize]
   ·rw [hd]; simp [Act.put,hI.defers]
   ·rw [hd,slot_put_ne (show ds.getD i 0≠t from fun e=>ht (e ▸ hmem))]; exact hI.outer t ht
   ·rw [hd];by_cases e:i=j
    ·subst e;rw [slot_put_eq (by rw [hI.tsize]; exact hF.fits _ hmem)];exact hR
    ·rw [getD_set_ne false e] at hj;have hjo:j < ops.size:=by
      rw [← hI.size];rcases Nat.lt_or_ge j listed.size with h' | h'
      ·exact h'
      ·simp [Array.getElem?_eq_none h'] at hj
     have hjl:j < ds.length:=by
      rcases Nat.lt_or_ge j ds.length with h' | h'
      ·exact h'
      ·exfalso
       have hjn:j=ds.length:=by have:=hF.len; omega
       have hjs:j < listed.size:=by rw [hI.size]; exact hjo
       rw [← hjn] at hl;simp [hjs] at hl hj;rw [hl] at hj;simp at hj
     rw [slot_put_ne (nodup_ne hF.nodup hil hjl e)];exact hst _ _ _ _ (hI.inner j hj) hB
  ·have hin:i=ds.length:=by have:=hF.len; omega
   subst hin;obtain rfl:last=o:=by have:=hF.isLast; rw [this] at ho; exact Option.some.inj ho
   refine wpOp_step ho (fun K' hK=>?_);rw [if_pos (by unfold Region.wanted; rw [hF.lguard])];have hall:∀ i,i < ds.length→listed.getD i false=true:=by
    have key:∀ d j,ds.length-j≤d→j < ds.length→listed.getD j false=true:=by
     intro d;induction d with
     | zero=>intro j h1 h2; omega
     | succ d ihd =>
      intro j h1 h2;rcases hF.lall j h2 with ⟨e,he,hb,hon⟩ | ⟨q,oq,hq1,hq2,hoq,e,he,hb,hon⟩
      ·rw [← hon]; exact hdeps e he hb
      ·rw [← hon]; exact hcl q oq hoq (ihd q (by omega) hq2) e he hb
    exact fun j hj=>key ds.length j (by omega) hj
   refine hlast K' a w hI.tsize hI.defers hI.outer (fun j hj=>hI.inner j (hall j hj)) hI.inv (fun a' w' hQ=>hK _ _ (wpAny_done ?_ hQ fuel));rw [List.eq_nil_iff_forall_not_mem];intro j hj;rw [mem_ready] at hj;obtain ⟨g0,o',ho',_⟩:=hj;have hjo:j < ops.size:=(Array.getElem?_eq_some_iff.1 ho').1;by_cases e:ds.length=j
   ·subst e;have hs:ds.length < listed.size:=by rw [hI.size]; exact hi
    simp [hs] at g0
   ·rw [getD_set_ne true e] at g0;have hjl:j < ds.length:=by have:=hF.len; omega
    have:=hall j hjl;have hs:j < listed.size:=by rw [hI.size]; exact hjo
    simp [hs] at g0 this;rw [g0] at this;simp at this
def XSteps (E:World→World→Prop) (I:World→Prop) (P:Program) (Q:Exit→Act→World→Prop) (ds:List Tmp) (R:Nat→Value→World→Prop) (a0:Act):Nat→List Oper→Prop
 | _,[]=>True
 | n,o::l=>XStep E I P Q ds R a0 n o∧XSteps E I P Q ds R a0 (n+1) l
theorem XSteps.at':∀ (l:List Oper) (n:Nat),XSteps E I P Q ds R a0 n l→∀ i o,l[i]?=some o→XStep E I P Q ds R a0 (n+i) o
 | [],_,_,i,o,h=>by simp at h
 | p::l,n,hs,0,o,h=>by simp at h; subst h; exact hs.1
 | p::l,n,hs,i+1,o,h=>by
  have:=XSteps.at' l (n+1) hs.2 i o (by simpa using h);rwa [show n+1+i=n+(i+1) by omega] at this
def StableX (E:World→World→Prop) (r:Value→World→Prop):Prop:=∀ v w w',r v w→E w w'→r v w'
theorem stX {Rs:List (Value→World→Prop)} (hst:∀ r∈Rs,StableX E r) (i:Nat) (v:Value) (w w':World) (h:rAt Rs i v w) (hb:E w w'):rAt Rs i v w':=by
 unfold rAt at *;by_cases hi:i < Rs.length
 ·have e:Rs.getD i (fun _ _=>True)=Rs[i]:=by simp [hi]
  rw [e] at h ⊢;exact hst _ (List.getElem_mem hi) v w w' h hb
 ·have e:Rs.getD i (fun _ _=>True)=fun _ _=>True:=by simp [Nat.le_of_not_lt hi]
  rw [e]; trivial
theorem wp_region_growXU {id:Nat} {Rs:List (Value→World→Prop)} (E:World→World→Prop) (I:World→Prop) (ds:List Tmp) (last:Oper) (hm:P.follows .mixedOrders=true) (hlst:ops[ds.length]?=some last) (hF:gformU ops ds a0.tmps.size last=true) (hl:Rs.length=ds.length) (hI0:I w0.drew) (hst:∀ r∈Rs,StableX E r)
  (hstep:XSteps E I P Q ds (rAt Rs) a0 0 (ops.toList.take ds.length))
  (hlast:∀ (X:Nat→Value) (a:Act) (K':Act→World→Prop) w,a=putsFrom X a0 0 ds→(∀ i,i < ds.length→slot a (ds.getD i 0)=X i)→RAll X w 0 Rs→I w→(∀ a' w',Q .normal a' w'→K' a' w')→Oper.wp P last a w K' Q) :
  (Code.region id ops true).wp P Q a0 w0:=by
 have hG:=GFormU.of hlst hF;have hlen:=hG.len;refine wp_region_any hm (wpAny_growXU (E:=E) (I:=I) (w0:=w0.drew) (R:=rAt Rs) hG (stX hst) (fun i o hi ho=>?_) (fun K' a w h1 h2 h3 h4 h5 h6=>?_) ops.size _ a0 w0.drew (unl_le _ _) ⟨by simp,rfl,rfl,fun _ _=>rfl,fun i hi=>?_,hI0⟩ ?_ (fun i o _ hi=>?_))
 ·have:=XSteps.at' (ops.toList.take ds.length) 0 hstep i o (by rw [List.getElem?_take_of_lt hi]; simpa using ho);rwa [Nat.zero_add] at this
 ·have hp:putsFrom (fun i=>slot a (ds.getD i 0)) a0 0 ds=a:=puts_eq ds a0 0 h1.symm h2.symm (fun i _=>by rw [Nat.zero_add]) (fun t ht=>(h3 t ht).symm) (fun d hd=>by rw [h1]; exact hG.fits d hd);exact hlast (fun i=>slot a (ds.getD i 0)) a K' w hp.symm (fun i _=>rfl) (RAll.mk Rs 0 (fun i hi=>by rw [Nat.zero_add]; exact h4 i (by omega))) h5 h6
 ·exfalso
  by_cases h:i < ops.size
  ·simp [h] at hi
  ·simp [h] at hi
 ·simp [show ds.length < ops.size by omega]
 ·exfalso
  by_cases h:i < ops.size
  ·simp [h] at hi
  ·simp [h] at hi
end
section
variable {P:Program} {ops:Array Oper} {Q:Exit→Act→World→Prop} {ds:List Tmp} {R:Nat→Value→World→Prop} {a0:Act} {w0:World} {E:World→World→Prop} {I:World→Prop}
def GStepX (E:World→World→Prop) (I:World→Prop) (P:Program) (ops:Array Oper) (Q:Exit→Act→World→Prop) (ds:List Tmp) (R:Nat→Value→World→Prop) (a0:Act) (i:Nat) (o:Oper):Prop :=
 ∀ (K':Act→World→Prop) (a:Act) (w:World),(∀ t,t ∉ ds→slot a t=slot a0 t)→(∀ e∈o.after,Region.binds .any e=true→R e.on (slot a (ds.getD e.on 0)) w) →
  I w→(∀ v w',R i v w'→E w w'→I w'→K' (a.put o.dst v) w')→if Region.wanted o (yielded ops a.tmps)=true then Oper.wp P o a w K' Q else K' (a.put o.dst undef) w
theorem GStepX.congr {R R':Nat→Value→World→Prop} {i:Nat} {o:Oper} (ht:∀ e∈o.after,Region.binds .any e=true→e.on < i) (h:∀ j,j≤i→R j=R' j) (hs:GStepX E I P ops Q ds R a0 i o):GStepX E I P ops Q ds R' a0 i o:=by
 intro K' a w ho hd hb hK;refine hs K' a w ho (fun e he hbd=>?_) hb (fun v w' hr=>?_)
 ·rw [h e.on (Nat.le_of_lt (ht e he hbd))]; exact hd e he hbd
 ·rw [h i lR] at hr; exact hK v w' hr
theorem wpAny_growXV (hF:GFormV ops ds a0.tmps.size) (hst:∀ i v w w',R i v w→E w w'→R i v w')
  (hstep:∀ i o,i < ds.length→ops[i]?=some o→GStepX E I P ops Q ds R a0 i o)
  (hdone:∀ a w,a.tmps.size=a0.tmps.size→a.defers=a0.defers→(∀ t,t ∉ ds→slot a t=slot a0 t)→(∀ i,i < ds.length→R i (slot a (ds.getD i 0)) w)→I w→wpSeq P Q (ops.toList.drop ds.length) a w) :
  ∀ (fuel:Nat) (listed:Array Bool) (a:Act) (w:World),unl listed ops.size≤fuel→XInv E I ops ds R a0 w0 listed a w→(∀ j,j < ops.size→ds.length≤j→listed.getD j false=false)→(∀ i o,ops[i]?=some o→listed.getD i false=true→∀ e∈o.after,Region.binds .any e=true→listed.getD e.on false=true)→wpAny P .any ops Q fuel listed a w:=by
 have ft:∀ (listed:Array Bool) (j:Nat),j < listed.size→(listed.getD j true=listed.getD j false):=fun listed j hj=>by simp [hj]
 intro fuel;induction fuel with
 | zero =>
  intro listed a w hu hI hs hcl;exfalso
  have:=unl_zero (listed:=listed) ops.size (by omega) ds.length hF.le;rw [ft listed _ (by rw [hI.size]; exact hF.le),hs _ hF.le lR] at this;simp at this
 | succ fuel ih =>
  intro listed a w hu hI hs hcl;by_cases hall:∀ j,j < ds.length→listed.getD j false=true
  ·refine wpAny_seq hF (fuel+1) ds.length listed a w lR (Nat.le_of_lt hF.le) hI.size (fun j hj=>⟨fun h=>?_,fun h=>hall j h⟩) ?_ (hdone a w hI.tsize hI.defers hI.outer (fun j hj=>hI.inner j (hall j hj)) hI.inv)
   ·by_cases e:j < ds.length
    ·exact e
    ·rw [hs j hj (by omega)] at h; simp at h
   ·refine Nat.le_trans ?_ hu;have key:∀ n,n≤ops.size→n-ds.length≤unl listed n:=by
     intro n;induction n with
     | zero=>intro _; omega
     | succ n ihn =>
      intro hn;have h1:=ihn (by omega);unfold unl;by_cases e:n < ds.length
      ·omega
      ·rw [if_neg (by rw [ft listed n (by rw [hI.size]; omega),hs n (by omega) (by omega)]; simp)];omega
    exact key ops.size lR
  ·refine ⟨fun hr=>?_,fun i hi=>?_⟩
   ·exfalso
    refine hall (fun i=>?_);induction i using Nat.strongRecOn with
    | ind i ih2 =>
     intro hil;have hio:i < ops.size:=Nat.lt_trans hil hF.le;by_cases hh:listed.getD i true=true
     ·rw [ft listed i (by rw [hI.size]; exact hio)] at hh; exact hh
     ·exfalso
      have hmem:i∈Region.ready .any ops listed:=by
       rw [mem_ready];refine ⟨by simpa using hh,ops[i],by simp [hio],fun e he hb=>?_⟩;have hlt:=hF.topo i ops[i] (by simp [hio]) e he hb;exact ih2 _ hlt (by omega)
      rw [hr] at hmem;simp at hmem
   ·rw [mem_ready] at hi;obtain ⟨h0,o,ho,hdeps⟩:=hi;have hio:i < ops.size:=(Array.getElem?_eq_some_iff.1 ho).1;have hil:i < ds.length:=by
     by_cases e:i < ds.length
     ·exact e
     ·exfalso
      by_cases e2:ds.length < i
      ·obtain ⟨e1,he,hb,hon⟩:=hF.swait i o e2 ho;have h1:=hdeps e1 he hb;rw [hs e1.on (by omega) (by omega)] at h1;simp at h1
      ·have hin:i=ds.length:=by omega
       refine hall ?_;have key:∀ d j,ds.length-j≤d→j < ds.length→listed.getD j false=true:=by
        intro d;induction d with
        | zero=>intro j h1 h2; omega
        | succ d ihd =>
         intro j h1 h2;obtain ⟨q,oq,hq1,hq2,hoq,ed,he,hb,hon⟩:=hF.lall j h2;by_cases e3:q=ds.length
         ·subst hin;subst e3;obtain rfl:o=oq:=by rw [ho] at hoq; exact Option.some.inj hoq
          rw [← hon]; exact hdeps ed he hb
         ·rw [← hon]; exact hcl q oq hoq (ihd q (by omega) (by omega)) ed he hb
       exact fun j hj=>key ds.length j (by omega) hj
    have hd:=hF.dst i o hil ho;have hmem:ds.getD i 0∈ds:=by rw [getD_at hil]; exact List.getElem_mem hil
    refine wpOp_step ho (fun K' hK=>?_);refine hstep i o hil ho K' a w hI.outer (fun e he hb=>hI.inner _ (hdeps e he hb)) hI.inv (fun v w' hR hB hI'=>hK _ _ ?_);refine ih _ _ _ (by have:=unl_set h0 ops.size hio; omega) ⟨by simp [hI.size],?_,?_,fun t ht=>?_,fun j hj=>?_,hI'⟩ (fun j hj hn=>by rw [getD_set_ne false (by omega)]; exact hs j hj hn) ?_
    ·rw [hd]; simp [Act.put,hI.tsize]
    ·rw [hd]; simp [Act.put,hI.defers]
    ·rw [hd,slot_put_ne (show ds.getD i 0≠t from fun e=>ht (e ▸ hmem))]; exact hI.outer t ht
    ·rw [hd];by_cases e:i=j
     ·subst e;rw [slot_put_eq (by rw [hI.tsize]; exact hF.fits _ hmem)];exact hR
     ·rw [getD_set_ne false e] at hj;have hjo:j < ops.size:=by
       rw [← hI.size];rcases Nat.lt_or_ge j listed.size with h' | h'
       ·exact h'
       ·simp [Array.getElem?_eq_none h'] at hj
      have hjl:j < ds.length:=by
       by_cases e2:j < ds.length
       ·exact e2
       ·rw [hs j hjo (by omega)] at hj; simp at hj
      rw [slot_put_ne (nodup_ne hF.nodup hil hjl e)];exact hst _ _ _ _ (hI.inner j hj) hB
    ·have hset:∀ j,listed.getD j false=true→(listed.setIfInBounds i true).getD j false=true:=fun j hj=>by
      by_cases e:i=j
      ·subst e; have hsz:i < listed.size:=by rw [hI.size]; exact hio
       simp [hsz]
      ·rw [getD_set_ne false e]; exact hj
     intro j o' ho' hj e he hb;by_cases hij:i=j
     ·subst hij;obtain rfl:o=o':=by rw [ho] at ho'; exact Option.some.inj ho'
      exact hset _ (hdeps e he hb)
     ·rw [getD_set_ne false hij] at hj;exact hset _ (hcl j o' ho' hj e he hb)
def XChV (E:World→World→Prop) (I:World→Prop) (P:Program) (ops:Array Oper) (Q:Exit→Act→World→Prop) (ds:List Tmp) (a0:Act) (suf:List Oper):List (Value→World→Prop)→List Oper→Prop
 | Rs,[]=>∀ (X:Nat→Value) w,RAll X w 0 Rs→I w→wpSeq P Q suf (putsFrom X a0 0 ds) w
 | Rs,o::l=>∃ r,StableX E r∧GStepX E I P ops Q ds (rAt (Rs++[r])) a0 Rs.length o∧XChV E I P ops Q ds a0 suf (Rs++[r]) l
theorem XChV.all {suf:List Oper}:∀ (l:List Oper) (Rs:List (Value→World→Prop)),(∀ i o,l[i]?=some o→∀ e∈o.after,Region.binds .any e=true→e.on < Rs.length+i)→(∀ r∈Rs,StableX E r)→XChV E I P ops Q ds a0 suf Rs l →
  ∃ Ss,(Rs++Ss).length=Rs.length+l.length∧(∀ r∈Rs++Ss,StableX E r)∧(∀ i o,l[i]?=some o→GStepX E I P ops Q ds (rAt (Rs++Ss)) a0 (Rs.length+i) o)∧(∀ (X:Nat→Value) w,RAll X w 0 (Rs++Ss)→I w→wpSeq P Q suf (putsFrom X a0 0 ds) w)
 | [],Rs,_,hst,h=>⟨[],by simp,by simpa using hst,fun i o ho=>by simp at ho,by rw [List.append_nil]; exact h⟩
 | o::l,Rs,ht,hst,⟨r,hr,hs,hc⟩=>by
  obtain ⟨Ss,h1,h2,h3,h4⟩:=XChV.all l (Rs++[r]) (fun i o' ho e he hb=>by
   have:=ht (i+1) o' (by simpa using ho) e he hb;simp; omega) (fun x hx=>by
   rcases List.mem_append.1 hx with hx | hx
   ·exact hst x hx
   ·simp at hx; subst hx; exact hr) hc
  refine ⟨r::Ss,by simp at h1 ⊢; omega,by simpa using h2,fun i o' ho=>?_,by simpa using h4⟩;have e:Rs++r::Ss=Rs++[r]++Ss:=by simp
  rw [e]
  cases i with
  | zero =>
   simp at ho;subst ho;refine GStepX.congr (ht 0 o rfl) (fun j hj=>?_) hs;exact (rAt_left (by simp; omega)).symm
  | succ i =>
   have:=h3 i o' (by simpa using ho);rwa [show (Rs++[r]).length+i=Rs.length+(i+1) by simp; omega] at this
theorem wp_region_growXV {id:Nat} (E:World→World→Prop) (I:World→Prop) (ds:List Tmp) (hm:P.follows .mixedOrders=true) (hF:gformV ops ds a0.tmps.size=true) (hI0:I w0.drew) (h:XChV E I P ops Q ds a0 (ops.toList.drop ds.length) [] (ops.toList.take ds.length)) :
  (Code.region id ops true).wp P Q a0 w0:=by
 have hG:=GFormV.of hF;have hle:=hG.le;obtain ⟨Ss,h1,h2,h3,h4⟩:=XChV.all (ops.toList.take ds.length) [] (fun i o ho e he hb=>by
  have hi:i < ds.length:=by
   by_cases e2:i < ds.length
   ·exact e2
   ·rw [List.getElem?_eq_none (by simp; omega)] at ho; simp at ho
  rw [List.getElem?_take,if_pos hi] at ho;have:=hG.topo i o (by simpa using ho) e he hb;simpa using this) (fun r hr=>by simp at hr) h
 simp only [List.nil_append,List.length_nil,Nat.zero_add] at h1 h2 h3 h4;have hlen:Ss.length=ds.length:=by rw [h1]; simp; omega
 refine wp_region_any hm (wpAny_growXV (E:=E) (I:=I) (w0:=w0.drew) (R:=rAt Ss) hG (fun i v w w' h hb=>?_) (fun i o hi ho=>?_) (fun a w g1 g2 g3 g4 g5=>?_) ops.size _ a0 w0.drew (unl_le _ _) ⟨by simp,rfl,rfl,fun _ _=>rfl,fun i hi=>?_,hI0⟩ (fun j hj _=>by simp [hj]) (fun i o ho hi=>?_))
 ·unfold rAt at *;by_cases hi:i < Ss.length
  ·have e:Ss.getD i (fun _ _=>True)=Ss[i]:=by simp [hi]
   rw [e] at h ⊢;exact h2 _ (List.getElem_mem hi) v w w' h hb
  ·have e:Ss.getD i (fun _ _=>True)=fun _ _=>True:=by simp [Nat.le_of_not_lt hi]
   rw [e]; trivial
 ·exact h3 i o (by rw [List.getElem?_take,if_pos hi]; simpa using ho)
 ·have hp:putsFrom (fun i=>slot a (ds.getD i 0)) a0 0 ds=a:=puts_eq ds a0 0 g1.symm g2.symm (fun i _=>by rw [Nat.zero_add]) (fun t ht=>(g3 t ht).symm) (fun d hd=>by rw [g1]; exact hG.fits d hd);rw [← hp];exact h4 (fun i=>slot a (ds.getD i 0)) w (RAll.mk Ss 0 (fun i hi=>by rw [Nat.zero_add]; exact g4 i (by omega))) g5
 ·exfalso
  by_cases h:i < ops.size
  ·simp [h] at hi
  ·simp [h] at hi
 ·exfalso
  by_cases h:i < ops.size
  ·simp [h] at hi
  ·simp [h] at hi
theorem XChV.val {suf:List Oper} {Rs:List (Value→World→Prop)} {n:Nat} {o:Oper} {l:List Oper} (Rs':Value→List (Value→World→Prop)) (hR:∀ v,Rs' v=Rs++[IsV v]) (hn:Rs.length=n) (h:∃ v,GStepX E I P ops Q ds (rAt (Rs' v)) a0 n o∧XChV E I P ops Q ds a0 suf (Rs' v) l):XChV E I P ops Q ds a0 suf Rs (o::l):=by
 obtain ⟨v,h1,h2⟩:=h;rw [hR] at h1 h2;subst hn;exact ⟨IsV v,fun _ _ _ h _=>h,h1,h2⟩
theorem XChV.rel {suf:List Oper} {Rs:List (Value→World→Prop)} {n:Nat} {o:Oper} {l:List Oper} (r:Value→World→Prop) (hr:StableX E r) (Rs':List (Value→World→Prop)) (hR:Rs'=Rs++[r]) (hn:Rs.length=n) (h1:GStepX E I P ops Q ds (rAt Rs') a0 n o) (h2:XChV E I P ops Q ds a0 suf Rs' l):XChV E I P ops Q ds a0 suf Rs (o::l):=by
 subst hR hn;exact ⟨r,hr,h1,h2⟩
end
end Go.Proofs.YtdkepkaflielhaaGreatDoor
