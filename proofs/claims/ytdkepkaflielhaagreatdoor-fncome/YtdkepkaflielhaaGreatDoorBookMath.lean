import Derived.Test.YtdkepkaflielhaaGreatDoorSz
import Derived.Test.YtdkepkaflielhaaGreatDoorAb
import Derived.Test.YtdkepkaflielhaaGreatDoorPorts
set_option linter.unusedVariables false
set_option linter.unusedSimpArgs false
set_option maxRecDepth 100000
set_option maxHeartbeats 8000000
namespace Go.Proofs.YtdkepkaflielhaaGreatDoor
open Go.RowKit
theorem upN_iff {α:Type} {f:List α→α→Bool} {xs:List α}:upN f xs xs.length=true↔∀ i (h:i < xs.length),f (xs.take i) xs[i]=true:=by
 constructor
 ·intro h i hi
  cases hf:f (xs.take i) xs[i] with
  | true=>rfl
  | false=>rw [upN_at hi hf] at h; exact h
 ·intro h;have key:∀ n,n≤xs.length→upN f xs n=true:=by
   intro n;induction n with
   | zero=>intro _; rfl
   | succ n ih=>intro hn; rw [upN_step (by omega),ih (by omega),h n (by omega)]; rfl
  exact key _ lR
theorem findI_any {α:Type} (f:α→Bool) (xs:List α):decide (0≤findI f xs)=xs.any f:=by
 unfold findI
 cases h:xs.findIdx? f with
 | none =>
  have h2:=List.findIdx?_eq_none_iff.1 h;have:xs.any f=false:=by rw [List.any_eq_false]; intro x hx; simp [h2 x hx]
  rw [this]; rfl
 | some i =>
  obtain ⟨hi,hfi,_⟩:=List.findIdx?_eq_some_iff_getElem.1 h;have:xs.any f=true:=List.any_eq_true.2 ⟨_,List.getElem_mem hi,hfi⟩;rw [this]; simp
theorem mem_take {α:Type} {xs:List α} {i:Nat} {c:α} (h:c∈xs.take i):∃ k,∃ hk:k < xs.length,k < i∧xs[k]=c:=by
 obtain ⟨k,hk,rfl⟩:=List.getElem_of_mem h;rw [List.length_take] at hk;exact ⟨k,by omega,by omega,by simp⟩
theorem take_mem {α:Type} {xs:List α} {i k:Nat} (hk:k < xs.length) (hi:k < i):xs[k]∈xs.take i:=by
 rw [List.mem_iff_getElem];exact ⟨k,by simp; omega,by simp⟩
def fitB (p:Pl) (b:Bb) (ys:List Bd) (x:Bd):Bool:=protoB x.proto&&addrOk x.inn&&isW x.inPort&&inL p.addrs x.out&&isIn x.outPort p.low p.high&&!(ys.any (ofIn x.proto x.inn x.inPort))&&!(ys.any (ofOut x.proto x.out x.outPort))&&decide ((outIn b.binds ⟨#[]⟩ x.inn).toList=x.out.toList)&&b.sess.any (hasS x)
def sessR (s:Ss):Bool:=decide (s.peer.size=4)&&isW s.peerPort&&isIn s.state 1 7&&(decide (s.state=3)||!stillP s.proto)&&isIn s.untl 0 2000000000
def sessB (b:Bb) (ys:List Ss) (s:Ss):Bool:=b.binds.any (ofIn s.proto s.inn s.inPort)&&sessR s&&!(ys.any fun t=>sameS s t)
def bookOk (p:Pl) (b:Bb):Bool:=poolOk p&&decide ((b.sess.length:Int)≤p.most)&&decide (b.binds.length≤b.sess.length)&&upN (fitB p b) b.binds b.binds.length&&upN (sessB b) b.sess b.sess.length
theorem pool_most {p:Pl} (h:poolOk p=true):1≤p.most∧p.most≤60:=by
 unfold poolOk at h; simp only [Bool.and_eq_true] at h; exact isIn_parts h.1.1.1.2
theorem nodup_le {α:Type} [DecidableEq α]:∀ {xs ys:List α},xs.Nodup→(∀ x∈xs,x∈ys)→xs.length≤ys.length
 | [],ys,_,_=>Nat.zero_le _
 | x::xs,ys,hn,hs=>by
  have hx:x∈ys:=hs x (by simp);have h1:=nodup_le (xs:=xs) (ys:=ys.erase x) (List.nodup_cons.1 hn).2 (fun y hy=>by
   have hne:y≠x:=fun e=>by subst e; exact (List.nodup_cons.1 hn).1 hy
   exact (List.mem_erase_of_ne hne).2 (hs y (by simp [hy])))
  rw [List.length_erase_of_mem hx] at h1;have:0 < ys.length:=List.length_pos_of_mem hx;simp; omega
def keyB (x:Bd):Int × List UInt8 × Int:=(x.proto,x.inn.toList,x.inPort)
def keyS (s:Ss):Int × List UInt8 × Int:=(s.proto,s.inn.toList,s.inPort)
theorem keyB_of {x:Bd} {s:Ss} (h:hasS x s=true):keyB x=keyS s:=by
 unfold hasS at h; simp only [Bool.and_eq_true,decide_eq_true_iff] at h;unfold keyB keyS; rw [h.1.1,h.1.2,h.2]
theorem clash_in {c b:Bd} (h:ofIn b.proto b.inn b.inPort c=true):clashB c b=true:=by
 unfold ofIn at h; simp only [Bool.and_eq_true,decide_eq_true_iff] at h;unfold clashB; simp [h.1.1,h.1.2,h.2]
theorem clash_out {c b:Bd} (h:ofOut b.proto b.out b.outPort c=true):clashB c b=true:=by
 unfold ofOut at h; simp only [Bool.and_eq_true,decide_eq_true_iff] at h;unfold clashB; simp [h.1.1,h.1.2,h.2]
theorem clash_host {c b:Bd} (h:c.inn.toList=b.inn.toList) (hc:clashB c b=false):c.out.toList=b.out.toList:=by
 unfold clashB at hc; simp only [Bool.or_eq_false_iff] at hc;have:=hc.1;simp [h] at this; exact this
theorem outIn_host {xs:List Bd} {d a b:ByteArray} (h:a.toList=b.toList):outIn xs d a=outIn xs d b:=by
 have:ofHost a=ofHost b:=by funext c; unfold ofHost; rw [h]
 unfold outIn; rw [this]
theorem binds_le {b:Bb} {p:Pl} (hB:∀ i (h:i < b.binds.length),bindOne p (b.binds.take i) b.binds[i]=true) (hA:∀ x∈b.binds,b.sess.any (fun s=>hasS x s)=true):b.binds.length≤b.sess.length:=by
 have h:=nodup_le (xs:=b.binds.map keyB) (ys:=b.sess.map keyS) ?_ ?_
 ·simpa using h
 ·rw [List.nodup_iff_pairwise_ne,List.pairwise_map,List.pairwise_iff_getElem];intro i j hi hj hij e;have h1:=hB j hj;unfold bindOne at h1; simp only [Bool.and_eq_true,Bool.not_eq_true'] at h1;have h2:=List.any_eq_false.1 h1.2 b.binds[i] (take_mem hi hij);unfold keyB at e;simp only [Prod.mk.injEq] at e;exact h2 (clash_in (by unfold ofIn; simp [e.1,e.2.1,e.2.2]))
 ·intro k hk;obtain ⟨x,hx,rfl⟩:=List.mem_map.1 hk;obtain ⟨s,hs,hh⟩:=List.any_eq_true.1 (hA x hx);exact List.mem_map.2 ⟨s,hs,(keyB_of hh).symm⟩
theorem book_bib (p:Pl) (b:Bb):bookOk p b=bibOk p b:=by
 rw [Bool.eq_iff_iff];constructor
 ·intro h;unfold bookOk at h;simp only [Bool.and_eq_true,decide_eq_true_iff] at h;obtain ⟨⟨⟨⟨hP,hs⟩,hl⟩,hF0⟩,hS0⟩:=h;have hF:=upN_iff.1 hF0;have hS:=upN_iff.1 hS0;have hm:=pool_most hP;have F1:∀ i (h:i < b.binds.length),bindOne p (b.binds.take i) b.binds[i]=true:=by
   intro i hi;have hf:=hF i hi;unfold fitB at hf;simp only [Bool.and_eq_true,decide_eq_true_iff,Bool.not_eq_true'] at hf;obtain ⟨⟨⟨⟨⟨⟨⟨⟨f1,f2⟩,f3⟩,f4⟩,f5⟩,f6⟩,f7⟩,f8⟩,f9⟩:=hf;unfold bindOne;simp only [Bool.and_eq_true,Bool.not_eq_true'];refine ⟨⟨⟨⟨⟨f1,f2⟩,f3⟩,f4⟩,f5⟩,?_⟩;rw [List.any_eq_false];intro c hc hcl;obtain ⟨k,hk,hki,rfl⟩:=mem_take hc;unfold clashB at hcl;simp only [Bool.or_eq_true,Bool.and_eq_true,decide_eq_true_iff,Bool.not_eq_true',decide_eq_false_iff_not] at hcl;rcases hcl with ⟨e1,e2⟩ | ⟨e1,⟨e2,e3⟩ | ⟨e2,e3⟩⟩
   ·have hg:=hF k hk;unfold fitB at hg;simp only [Bool.and_eq_true,decide_eq_true_iff] at hg;have g8:=hg.1.2;rw [outIn_host e1] at g8;exact e2 (g8.symm.trans f8)
   ·exact List.any_eq_false.1 f6 _ hc (by unfold ofIn; simp [e1,e2,e3])
   ·exact List.any_eq_false.1 f7 _ hc (by unfold ofOut; simp [e1,e2,e3])
  unfold bibOk;simp only [Bool.and_eq_true,decide_eq_true_iff,List.all_eq_true];refine ⟨⟨⟨⟨⟨hP,hs⟩,by omega⟩,upN_iff.2 F1⟩,upN_iff.2 ?_⟩,?_⟩
  ·intro i hi;have hq:=hS i hi;unfold sessB at hq;simp only [Bool.and_eq_true,Bool.not_eq_true'] at hq;obtain ⟨⟨q1,q2⟩,q3⟩:=hq;unfold sessR at q2;simp only [Bool.and_eq_true,decide_eq_true_iff,Bool.or_eq_true] at q2;obtain ⟨⟨⟨⟨r1,r2⟩,r3⟩,r4⟩,r5⟩:=q2;unfold sessOne;simp only [Bool.and_eq_true,decide_eq_true_iff,Bool.not_eq_true',Bool.or_eq_true];refine ⟨⟨⟨⟨⟨⟨r1,r2⟩,r3⟩,?_⟩,r5⟩,?_⟩,q3⟩
   ·rcases r4 with r4 | r4
    ·exact .inr r4
    ·obtain ⟨x,hx,hox⟩:=List.any_eq_true.1 q1;obtain ⟨j,hj,rfl⟩:=List.getElem_of_mem hx;have f1:=F1 j hj;unfold bindOne at f1;simp only [Bool.and_eq_true] at f1;have f2:=f1.1.1.1.1.1;unfold ofIn at hox;simp only [Bool.and_eq_true,decide_eq_true_iff] at hox;rw [hox.1.1] at f2;unfold protoB at f2;unfold stillP at r4;simp at f2 r4;rcases f2 with (f2 | f2) | f2
     ·exact .inl f2
     ·exact absurd f2 r4.1
     ·exact absurd f2 r4.2
   ·have:=findI_any (ofIn b.sess[i].proto b.sess[i].inn b.sess[i].inPort) b.binds;rw [q1] at this; simpa using this
  ·intro x hx;obtain ⟨j,hj,rfl⟩:=List.getElem_of_mem hx;have hf:=hF j hj;unfold fitB at hf;simp only [Bool.and_eq_true] at hf;exact hf.2
 ·intro h;unfold bibOk at h;simp only [Bool.and_eq_true,decide_eq_true_iff,List.all_eq_true] at h;obtain ⟨⟨⟨⟨⟨hP,hs⟩,h60⟩,hB0⟩,hS0⟩,hA⟩:=h;have hB:=upN_iff.1 hB0;have hS:=upN_iff.1 hS0;unfold bookOk;simp only [Bool.and_eq_true,decide_eq_true_iff];refine ⟨⟨⟨⟨hP,hs⟩,binds_le hB hA⟩,upN_iff.2 ?_⟩,upN_iff.2 ?_⟩
  ·intro i hi;have h1:=hB i hi;unfold bindOne at h1;simp only [Bool.and_eq_true,Bool.not_eq_true'] at h1;obtain ⟨⟨⟨⟨⟨f1,f2⟩,f3⟩,f4⟩,f5⟩,f6⟩:=h1;unfold fitB;simp only [Bool.and_eq_true,decide_eq_true_iff,Bool.not_eq_true'];refine ⟨⟨⟨⟨⟨⟨⟨⟨f1,f2⟩,f3⟩,f4⟩,f5⟩,?_⟩,?_⟩,?_⟩,hA _ (List.getElem_mem hi)⟩
   ·rw [List.any_eq_false];intro c hc ho;exact List.any_eq_false.1 f6 c hc (clash_in ho)
   ·rw [List.any_eq_false];intro c hc ho;exact List.any_eq_false.1 f6 c hc (clash_out ho)
   ·unfold outIn
    cases hfd:b.binds.find? (ofHost b.binds[i].inn) with
    | none =>
     have:=List.find?_eq_none.1 hfd b.binds[i] (List.getElem_mem hi);exact absurd (by unfold ofHost; simp) this
    | some c =>
     obtain ⟨hc1,k,hk,hkc,hlt⟩:=List.find?_eq_some_iff_getElem.1 hfd;have hki:k≤i:=by
      rcases Nat.lt_or_ge i k with h2 | h2
      ·have:=hlt i h2;exact absurd this (by unfold ofHost; simp)
      ·exact h2
     rcases Nat.lt_or_ge k i with h2 | h2
     ·have hcl:=List.any_eq_false.1 f6 b.binds[k] (take_mem hk h2);rw [hkc] at hcl;unfold ofHost at hc1;exact clash_host (of_decide_eq_true hc1) (by simpa using hcl)
     ·have:k=i:=by omega
      subst this;rw [hkc]
  ·intro i hi;have hq:=hS i hi;unfold sessOne at hq;simp only [Bool.and_eq_true,decide_eq_true_iff,Bool.not_eq_true',Bool.or_eq_true] at hq;obtain ⟨⟨⟨⟨⟨⟨r1,r2⟩,r3⟩,r4⟩,r5⟩,r6⟩,r7⟩:=hq;unfold sessB;simp only [Bool.and_eq_true,Bool.not_eq_true'];refine ⟨⟨?_,?_⟩,r7⟩
   ·rw [← findI_any]; exact decide_eq_true r6
   ·unfold sessR;simp only [Bool.and_eq_true,decide_eq_true_iff,Bool.or_eq_true];refine ⟨⟨⟨⟨r1,r2⟩,r3⟩,?_⟩,r5⟩;rcases r4 with r4 | r4
    ·right; rw [r4]; rfl
    ·exact .inl r4
theorem leastN_two (f:Int→Bool) (port:Int) (c:Nat):∀ lo:Int,lo % 2=port % 2→leastN (fun n=>decide (n % 2=port % 2)&&f n) (lo+1) c=leastN (fun n=>decide (n % 2=port % 2)&&f n) (lo+2) (c-1):=by
 intro lo h
 cases c with
 | zero=>rfl
 | succ c =>
  show (if (decide ((lo+1) % 2=port % 2)&&f (lo+1))=true then some (lo+1) else leastN _ (lo+1+1) c)=_;rw [if_neg (by rw [decide_eq_false (by omega)]; simp)];rw [show lo+1+1=lo+2 by omega]; rfl
theorem leastN_par {f:Int→Bool} {n hi port:Int} (h:n≤hi) (hp:n % 2=port % 2):leastN (fun m=>decide (m % 2=port % 2)&&f m) n (hi-n+1).toNat=if f n=true then some n else leastN (fun m=>decide (m % 2=port % 2)&&f m) (n+2) (hi-(n+2)+1).toNat:=by
 rw [leastN_step h];rw [decide_eq_true hp,Bool.true_and];by_cases hf:f n=true
 ·rw [if_pos hf,if_pos hf]
 ·rw [if_neg hf,if_neg hf,leastN_two f port _ n hp];rw [show (hi-(n+1)+1).toNat-1=(hi-(n+2)+1).toNat by omega]
theorem leastN_first {f:Int→Bool} {lo hi port:Int} (h0:0≤lo) (h1:0≤port) (h:lo≤hi):leastN (fun m=>decide (m % 2=port % 2)&&f m) lo (hi-lo+1).toNat=leastN (fun m=>decide (m % 2=port % 2)&&f m) (lo+(lo+port) % 2) (hi-(lo+(lo+port) % 2)+1).toNat:=by
 by_cases hp:lo % 2=port % 2
 ·rw [show (lo+port) % 2=0 by omega,Int.add_zero]
 ·rw [show (lo+port) % 2=1 by omega,leastN_step h];rw [decide_eq_false hp]; simp
end Go.Proofs.YtdkepkaflielhaaGreatDoor
