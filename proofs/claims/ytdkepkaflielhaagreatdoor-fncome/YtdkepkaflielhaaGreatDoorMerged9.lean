import Derived.Shelf.LaysM
import Derived.Shelf.Strconv.Clone
import Derived.Test.YtdkepkaflielhaaGreatDoorMerged8
set_option linter.unusedVariables false
set_option linter.unusedSimpArgs false
set_option maxRecDepth 100000
set_option maxHeartbeats 8000000
namespace Go.Proofs.YtdkepkaflielhaaGreatDoor
open Go.RowKit
theorem upN_iff {α:Type} {f:List α→α→Bool} {xs:List α}:upN f xs xs.length=true↔∀ i (h:i < xs.length),f (xs.take i) xs[i]=true:=by
 constructor
 ·intro h i hi
  cases hf:f (xs.take i) xs[i] with
  | true=>rfl
  | false=>rw [upN_at hi hf] at h; exact h
 ·intro h;have key:∀ n,n≤xs.length→upN f xs n=true:=by
   intro n;induction n with
   | zero=>intro _; rfl
   | succ n ih=>intro hn; rw [upN_step (by omega),ih (by omega),h n (by omega)]; rfl
  exact key _ lR
theorem findI_any {α:Type} (f:α→Bool) (xs:List α):decide (0≤findI f xs)=xs.any f:=by
 unfold findI
 cases h:xs.findIdx? f with
 | none =>
  have h2:=List.findIdx?_eq_none_iff.1 h;have:xs.any f=false:=by rw [List.any_eq_false]; intro x hx; simp [h2 x hx]
  rw [this]; rfl
 | some i =>
  obtain ⟨hi,hfi,_⟩:=List.findIdx?_eq_some_iff_getElem.1 h;have:xs.any f=true:=List.any_eq_true.2 ⟨_,List.getElem_mem hi,hfi⟩;rw [this]; simp
theorem mem_take {α:Type} {xs:List α} {i:Nat} {c:α} (h:c∈xs.take i):∃ k,∃ hk:k < xs.length,k < i∧xs[k]=c:=by
 obtain ⟨k,hk,rfl⟩:=List.getElem_of_mem h;rw [List.length_take] at hk;exact ⟨k,by omega,by omega,by simp⟩
theorem take_mem {α:Type} {xs:List α} {i k:Nat} (hk:k < xs.length) (hi:k < i):xs[k]∈xs.take i:=by
 rw [List.mem_iff_getElem];exact ⟨k,by simp; omega,by simp⟩
def fitB (p:Pl) (b:Bb) (ys:List Bd) (x:Bd):Bool:=protoB x.proto&&addrOk x.inn&&isW x.inPort&&inL p.addrs x.out&&isIn x.outPort p.low p.high&&!(ys.any (ofIn x.proto x.inn x.inPort))&&!(ys.any (ofOut x.proto x.out x.outPort))&&decide ((outIn b.binds ⟨#[]⟩ x.inn).toList=x.out.toList)&&b.sess.any (hasS x)
def sessR (s:Ss):Bool:=decide (s.peer.size=4)&&isW s.peerPort&&isIn s.state 1 7&&(decide (s.state=3)||!stillP s.proto)&&isIn s.untl 0 2000000000
def sessB (b:Bb) (ys:List Ss) (s:Ss):Bool:=b.binds.any (ofIn s.proto s.inn s.inPort)&&sessR s&&!(ys.any fun t=>sameS s t)
def bookOk (p:Pl) (b:Bb):Bool:=poolOk p&&decide ((b.sess.length:Int)≤p.most)&&decide (b.binds.length≤b.sess.length)&&upN (fitB p b) b.binds b.binds.length&&upN (sessB b) b.sess b.sess.length
theorem pool_most {p:Pl} (h:poolOk p=true):1≤p.most∧p.most≤60:=by
 unfold poolOk at h; simp only [Bool.and_eq_true] at h; exact isIn_parts h.1.1.1.2
theorem nodup_le {α:Type} [DecidableEq α]:∀ {xs ys:List α},xs.Nodup→(∀ x∈xs,x∈ys)→xs.length≤ys.length
 | [],ys,_,_=>Nat.zero_le _
 | x::xs,ys,hn,hs=>by
  have hx:x∈ys:=hs x (by simp);have h1:=nodup_le (xs:=xs) (ys:=ys.erase x) (List.nodup_cons.1 hn).2 (fun y hy=>by
   have hne:y≠x:=fun e=>by subst e; exact (List.nodup_cons.1 hn).1 hy
   exact (List.mem_erase_of_ne hne).2 (hs y (by simp [hy])))
  rw [List.length_erase_of_mem hx] at h1;have:0 < ys.length:=List.length_pos_of_mem hx;simp; omega
def keyB (x:Bd):Int × List UInt8 × Int:=(x.proto,x.inn.toList,x.inPort)
def keyS (s:Ss):Int × List UInt8 × Int:=(s.proto,s.inn.toList,s.inPort)
theorem keyB_of {x:Bd} {s:Ss} (h:hasS x s=true):keyB x=keyS s:=by
 unfold hasS at h; simp only [Bool.and_eq_true,decide_eq_true_iff] at h;unfold keyB keyS; rw [h.1.1,h.1.2,h.2]
theorem clash_in {c b:Bd} (h:ofIn b.proto b.inn b.inPort c=true):clashB c b=true:=by
 unfold ofIn at h; simp only [Bool.and_eq_true,decide_eq_true_iff] at h;unfold clashB; simp [h.1.1,h.1.2,h.2]
theorem clash_out {c b:Bd} (h:ofOut b.proto b.out b.outPort c=true):clashB c b=true:=by
 unfold ofOut at h; simp only [Bool.and_eq_true,decide_eq_true_iff] at h;unfold clashB; simp [h.1.1,h.1.2,h.2]
theorem clash_host {c b:Bd} (h:c.inn.toList=b.inn.toList) (hc:clashB c b=false):c.out.toList=b.out.toList:=by
 unfold clashB at hc; simp only [Bool.or_eq_false_iff] at hc;have:=hc.1;simp [h] at this; exact this
theorem outIn_host {xs:List Bd} {d a b:ByteArray} (h:a.toList=b.toList):outIn xs d a=outIn xs d b:=by
 have:ofHost a=ofHost b:=by funext c; unfold ofHost; rw [h]
 unfold outIn; rw [this]
theorem binds_le {b:Bb} {p:Pl} (hB:∀ i (h:i < b.binds.length),bindOne p (b.binds.take i) b.binds[i]=true) (hA:∀ x∈b.binds,b.sess.any (fun s=>hasS x s)=true):b.binds.length≤b.sess.length:=by
 have h:=nodup_le (xs:=b.binds.map keyB) (ys:=b.sess.map keyS) ?_ ?_
 ·simpa using h
 ·rw [List.nodup_iff_pairwise_ne,List.pairwise_map,List.pairwise_iff_getElem];intro i j hi hj hij e;have h1:=hB j hj;unfold bindOne at h1; simp only [Bool.and_eq_true,Bool.not_eq_true'] at h1;have h2:=List.any_eq_false.1 h1.2 b.binds[i] (take_mem hi hij);unfold keyB at e;simp only [Prod.mk.injEq] at e;exact h2 (clash_in (by unfold ofIn; simp [e.1,e.2.1,e.2.2]))
 ·intro k hk;obtain ⟨x,hx,rfl⟩:=List.mem_map.1 hk;obtain ⟨s,hs,hh⟩:=List.any_eq_true.1 (hA x hx);exact List.mem_map.2 ⟨s,hs,(keyB_of hh).symm⟩
theorem book_bib (p:Pl) (b:Bb):bookOk p b=bibOk p b:=by
 rw [Bool.eq_iff_iff];constructor
 ·intro h;unfold bookOk at h;simp only [Bool.and_eq_true,decide_eq_true_iff] at h;obtain ⟨⟨⟨⟨hP,hs⟩,hl⟩,hF0⟩,hS0⟩:=h;have hF:=upN_iff.1 hF0;have hS:=upN_iff.1 hS0;have hm:=pool_most hP;have F1:∀ i (h:i < b.binds.length),bindOne p (b.binds.take i) b.binds[i]=true:=by
   intro i hi;have hf:=hF i hi;unfold fitB at hf;simp only [Bool.and_eq_true,decide_eq_true_iff,Bool.not_eq_true'] at hf;obtain ⟨⟨⟨⟨⟨⟨⟨⟨f1,f2⟩,f3⟩,f4⟩,f5⟩,f6⟩,f7⟩,f8⟩,f9⟩:=hf;unfold bindOne;simp only [Bool.and_eq_true,Bool.not_eq_true'];refine ⟨⟨⟨⟨⟨f1,f2⟩,f3⟩,f4⟩,f5⟩,?_⟩;rw [List.any_eq_false];intro c hc hcl;obtain ⟨k,hk,hki,rfl⟩:=mem_take hc;unfold clashB at hcl;simp only [Bool.or_eq_true,Bool.and_eq_true,decide_eq_true_iff,Bool.not_eq_true',decide_eq_false_iff_not] at hcl;rcases hcl with ⟨e1,e2⟩ | ⟨e1,⟨e2,e3⟩ | ⟨e2,e3⟩⟩
   ·have hg:=hF k hk;unfold fitB at hg;simp only [Bool.and_eq_true,decide_eq_true_iff] at hg;have g8:=hg.1.2;rw [outIn_host e1] at g8;exact e2 (g8.symm.trans f8)
   ·exact List.any_eq_false.1 f6 _ hc (by unfold ofIn; simp [e1,e2,e3])
   ·exact List.any_eq_false.1 f7 _ hc (by unfold ofOut; simp [e1,e2,e3])
  unfold bibOk;simp only [Bool.and_eq_true,decide_eq_true_iff,List.all_eq_true];refine ⟨⟨⟨⟨⟨hP,hs⟩,by omega⟩,upN_iff.2 F1⟩,upN_iff.2 ?_⟩,?_⟩
  ·intro i hi;have hq:=hS i hi;unfold sessB at hq;simp only [Bool.and_eq_true,Bool.not_eq_true'] at hq;obtain ⟨⟨q1,q2⟩,q3⟩:=hq;unfold sessR at q2;simp only [Bool.and_eq_true,decide_eq_true_iff,Bool.or_eq_true] at q2;obtain ⟨⟨⟨⟨r1,r2⟩,r3⟩,r4⟩,r5⟩:=q2;unfold sessOne;simp only [Bool.and_eq_true,decide_eq_true_iff,Bool.not_eq_true',Bool.or_eq_true];refine ⟨⟨⟨⟨⟨⟨r1,r2⟩,r3⟩,?_⟩,r5⟩,?_⟩,q3⟩
   ·rcases r4 with r4 | r4
    ·exact .inr r4
    ·obtain ⟨x,hx,hox⟩:=List.any_eq_true.1 q1;obtain ⟨j,hj,rfl⟩:=List.getElem_of_mem hx;have f1:=F1 j hj;unfold bindOne at f1;simp only [Bool.and_eq_true] at f1;have f2:=f1.1.1.1.1.1;unfold ofIn at hox;simp only [Bool.and_eq_true,decide_eq_true_iff] at hox;rw [hox.1.1] at f2;unfold protoB at f2;unfold stillP at r4;simp at f2 r4;rcases f2 with (f2 | f2) | f2
     ·exact .inl f2
     ·exact absurd f2 r4.1
     ·exact absurd f2 r4.2
   ·have:=findI_any (ofIn b.sess[i].proto b.sess[i].inn b.sess[i].inPort) b.binds;rw [q1] at this; simpa using this
  ·intro x hx;obtain ⟨j,hj,rfl⟩:=List.getElem_of_mem hx;have hf:=hF j hj;unfold fitB at hf;simp only [Bool.and_eq_true] at hf;exact hf.2
 ·intro h;unfold bibOk at h;simp only [Bool.and_eq_true,decide_eq_true_iff,List.all_eq_true] at h;obtain ⟨⟨⟨⟨⟨hP,hs⟩,h60⟩,hB0⟩,hS0⟩,hA⟩:=h;have hB:=upN_iff.1 hB0;have hS:=upN_iff.1 hS0;unfold bookOk;simp only [Bool.and_eq_true,decide_eq_true_iff];refine ⟨⟨⟨⟨hP,hs⟩,binds_le hB hA⟩,upN_iff.2 ?_⟩,upN_iff.2 ?_⟩
  ·intro i hi;have h1:=hB i hi;unfold bindOne at h1;simp only [Bool.and_eq_true,Bool.not_eq_true'] at h1;obtain ⟨⟨⟨⟨⟨f1,f2⟩,f3⟩,f4⟩,f5⟩,f6⟩:=h1;unfold fitB;simp only [Bool.and_eq_true,decide_eq_true_iff,Bool.not_eq_true'];refine ⟨⟨⟨⟨⟨⟨⟨⟨f1,f2⟩,f3⟩,f4⟩,f5⟩,?_⟩,?_⟩,?_⟩,hA _ (List.getElem_mem hi)⟩
   ·rw [List.any_eq_false];intro c hc ho;exact List.any_eq_false.1 f6 c hc (clash_in ho)
   ·rw [List.any_eq_false];intro c hc ho;exact List.any_eq_false.1 f6 c hc (clash_out ho)
   ·unfold outIn
    cases hfd:b.binds.find? (ofHost b.binds[i].inn) with
    | none =>
     have:=List.find?_eq_none.1 hfd b.binds[i] (List.getElem_mem hi);exact absurd (by unfold ofHost; simp) this
    | some c =>
     obtain ⟨hc1,k,hk,hkc,hlt⟩:=List.find?_eq_some_iff_getElem.1 hfd;have hki:k≤i:=by
      rcases Nat.lt_or_ge i k with h2 | h2
      ·have:=hlt i h2;exact absurd this (by unfold ofHost; simp)
      ·exact h2
     rcases Nat.lt_or_ge k i with h2 | h2
     ·have hcl:=List.any_eq_false.1 f6 b.binds[k] (take_mem hk h2);rw [hkc] at hcl;unfold ofHost at hc1;exact clash_host (of_decide_eq_true hc1) (by simpa using hcl)
     ·have:k=i:=by omega
      subst this;rw [hkc]
  ·intro i hi;have hq:=hS i hi;unfold sessOne at hq;simp only [Bool.and_eq_true,decide_eq_true_iff,Bool.not_eq_true',Bool.or_eq_true] at hq;obtain ⟨⟨⟨⟨⟨⟨r1,r2⟩,r3⟩,r4⟩,r5⟩,r6⟩,r7⟩:=hq;unfold sessB;simp only [Bool.and_eq_true,Bool.not_eq_true'];refine ⟨⟨?_,?_⟩,r7⟩
   ·rw [← findI_any]; exact decide_eq_true r6
   ·unfold sessR;simp only [Bool.and_eq_true,decide_eq_true_iff,Bool.or_eq_true];refine ⟨⟨⟨⟨r1,r2⟩,r3⟩,?_⟩,r5⟩;rcases r4 with r4 | r4
    ·right; rw [r4]; rfl
    ·exact .inl r4
theorem leastN_two (f:Int→Bool) (port:Int) (c:Nat):∀ lo:Int,lo % 2=port % 2→leastN (fun n=>decide (n % 2=port % 2)&&f n) (lo+1) c=leastN (fun n=>decide (n % 2=port % 2)&&f n) (lo+2) (c-1):=by
 intro lo h
 cases c with
 | zero=>rfl
 | succ c =>
  show (if (decide ((lo+1) % 2=port % 2)&&f (lo+1))=true then some (lo+1) else leastN _ (lo+1+1) c)=_;rw [if_neg (by rw [decide_eq_false (by omega)]; simp)];rw [show lo+1+1=lo+2 by omega]; rfl
theorem leastN_par {f:Int→Bool} {n hi port:Int} (h:n≤hi) (hp:n % 2=port % 2):leastN (fun m=>decide (m % 2=port % 2)&&f m) n (hi-n+1).toNat=if f n=true then some n else leastN (fun m=>decide (m % 2=port % 2)&&f m) (n+2) (hi-(n+2)+1).toNat:=by
 rw [leastN_step h];rw [decide_eq_true hp,Bool.true_and];by_cases hf:f n=true
 ·rw [if_pos hf,if_pos hf]
 ·rw [if_neg hf,if_neg hf,leastN_two f port _ n hp];rw [show (hi-(n+1)+1).toNat-1=(hi-(n+2)+1).toNat by omega]
theorem leastN_first {f:Int→Bool} {lo hi port:Int} (h0:0≤lo) (h1:0≤port) (h:lo≤hi):leastN (fun m=>decide (m % 2=port % 2)&&f m) lo (hi-lo+1).toNat=leastN (fun m=>decide (m % 2=port % 2)&&f m) (lo+(lo+port) % 2) (hi-(lo+(lo+port) % 2)+1).toNat:=by
 by_cases hp:lo % 2=port % 2
 ·rw [show (lo+port) % 2=0 by omega,Int.add_zero]
 ·rw [show (lo+port) % 2=1 by omega,leastN_step h];rw [decide_eq_false hp]; simp
end Go.Proofs.YtdkepkaflielhaaGreatDoor
namespace Go.Proofs
open Go.Shelf
def Tryz.laysM316_ren:Go.Shelf.Ren:=⟨fun | 316=>162 | n=>n,fun | 9=>9 | 3=>3 | 4=>4 | 37=>22 | 0=>0 | 127=>198 | 5=>5 | n=>n,fun | n=>n⟩
theorem Tryz.laysM316:Go.Proofs.LaysM.n316 Tryz.prog Tryz.laysM316_ren:={
 mixed:=by kernel_rfl
 f316:=Tryz.func162.trans (congrArg some (by kernel_rfl))
 t0:=Tryz.underlying0
 a0:=Tryz.isAgg0
 z0:=Tryz.sizeOf0
 v0:=Tryz.zeroValue0
 t3:=Tryz.underlying3
 a3:=Tryz.isAgg3
 z3:=Tryz.sizeOf3
 v3:=Tryz.zeroValue3
 t4:=Tryz.underlying4
 a4:=Tryz.isAgg4
 z4:=Tryz.sizeOf4
 v4:=Tryz.zeroValue4
 t9:=Tryz.underlying9
 a9:=Tryz.isAgg9
 z9:=Tryz.sizeOf9
 v9:=Tryz.zeroValue9
 t37:=Tryz.underlying22
 a37:=Tryz.isAgg22
 z37:=Tryz.sizeOf22
 v37:=Tryz.zeroValue22
 t127:=Tryz.underlying198
 a127:=Tryz.isAgg198
 z127:=Tryz.sizeOf198
 v127:=Tryz.zeroValue198
 t5:=Tryz.underlying5
 a5:=Tryz.isAgg5
 z5:=Tryz.sizeOf5
 v5:=Tryz.zeroValue5
 i0:=by kernel_rfl
 i3:=by kernel_rfl
 i4:=by kernel_rfl
 i5:=by kernel_rfl
 i9:=by kernel_rfl
 i37:=by kernel_rfl
 i127:=by kernel_rfl }
open Go.RowKit in
theorem Tryz.stringslite_Clone (s:ByteArray) (w:World) (hlim:s.size≤281474976710656) :
  Calls Tryz.prog 162 #[.string s] w fun e w'=>e=.returned (.string s)∧Below w.heap.size w w':=Any.stringslite_Clone Tryz.laysM316 s w hlim
end Go.Proofs
namespace Go.Proofs.YtdkepkaflielhaaGreatDoor
open Go.RowKit Go.PlainAid
theorem implAddrRight_any (s:ByteArray) (w:World) :
  Cw 129 #[.string s] w (.bool (addrOk s)):=by
 by_cases h4:s.size=4
 ·have HV:Hid (addrOk s=true):=addrOk_yes (.inl h4);have h4':(s.size:Int)=4:=by omega
  clear h4;go_enter Tryz.func129,Tryz.ntmps129
  go_wp2
  go_ret;exact ⟨ret_bool HV.out.symm,rfl⟩
 ·by_cases h16:s.size=16
  ·have HV:Hid (addrOk s=true):=addrOk_yes (.inr h16);have h16':(s.size:Int)=16:=by omega
   clear h16 h4;go_enter Tryz.func129,Tryz.ntmps129
   go_wp2
   go_ret;exact ⟨ret_bool HV.out.symm,rfl⟩
  ·have HV:Hid (addrOk s=false):=addrOk_no (by omega);have e1:((s.size:Int)==4)=false:=by simp; omega
   have e2:((s.size:Int)==16)=false:=by simp; omega
   go_enter Tryz.func129,Tryz.ntmps129
   go_wp2
   go_ret;exact ⟨ret_bool HV.out.symm,rfl⟩
open Go.ChangeShapes Go.WideShapes
structure BoxFlow (w:World) (B:Nat) (p:Fl):Prop where
 c0:w.cell? ⟨B,0,none⟩=some (iV p.proto)
 c1:w.cell? ⟨B,1,none⟩=some (.string p.src)
 c2:w.cell? ⟨B,2,none⟩=some (.string p.dst)
 c3:w.cell? ⟨B,3,none⟩=some (iV p.sp)
 c4:w.cell? ⟨B,4,none⟩=some (iV p.dp)
theorem implLong_any (t:ByteArray) (w:World) :
  Cw 81 #[.string t] w (.bool (decide (20000 < t.size))):=by
 by_cases h:20000 < t.size
 ·have d:decide ((20000:Int) < (t.size:Int))=true:=by simp; omega
  rw [decide_eq_true h];go_enter Tryz.func81,Tryz.ntmps81
  go_wp2_with fail
  go_ret;exact ⟨rfl,rfl⟩
 ·have d:decide ((20000:Int) < (t.size:Int))=false:=by simp; omega
  rw [decide_eq_false h];go_enter Tryz.func81,Tryz.ntmps81
  go_wp2_with fail
  go_ret;exact ⟨rfl,rfl⟩
theorem implTcpFlags_any (t:ByteArray) (w:World) (ht:t.size≤1048576) :
  Cb 103 #[.string t] w (iV (tcpFlagsV t)):=by
 have HL:Hid (∀ W,Cw 81 #[.string t] W (.bool (decide (20000 < t.size)))):=fun W=>implLong_any t W
 by_cases h1:20000 < t.size
 ·have HV:Hid (tcpFlagsV t=0):=by unfold Hid tcpFlagsV; rw [if_pos (.inl h1)]
  rw [decide_eq_true h1] at HL;go_enter Tryz.func103,Tryz.ntmps103
  go_wp2_with fail
  refine (HL.out _).mono ?_;rintro e w2 ⟨rfl,rfl⟩;go_wp2_with fail
  go_ret;exact ⟨ret_int HV.out.symm,Below.refl _ _⟩
 rw [decide_eq_false h1] at HL;by_cases h2:t.size < 20
 ·have HV:Hid (tcpFlagsV t=0):=by unfold Hid tcpFlagsV; rw [if_pos (.inr h2)]
  go_enter Tryz.func103,Tryz.ntmps103
  go_wp2_with fail
  refine (HL.out _).mono ?_;rintro e w2 ⟨rfl,rfl⟩;go_wp2_with fail
  go_ret;exact ⟨ret_int HV.out.symm,Below.refl _ _⟩
 ·have HV:Hid (tcpFlagsV t=bt t 13):=by unfold Hid tcpFlagsV; rw [if_neg (by omega)]
  have hb:=get_bt t;have b1:=bt_isByte t 13;go_enter Tryz.func103,Tryz.ntmps103
  go_wp2_with fail
  refine (HL.out _).mono ?_;rintro e w2 ⟨rfl,rfl⟩;go_wp2_with fail
  go_ret;exact ⟨ret_int HV.out.symm,Below.refl _ _⟩
theorem implPair_any (s d:ByteArray) (w:World) (hs:s.size≤maxLen) (hd:d.size≤maxLen) :
  Cw 97 #[.string s,.string d] w (.bool (pairOk s d)):=by
 have HA:Hid (∀ W,Cw 129 #[.string s] W (.bool (addrOk s))):=fun W=>implAddrRight_any s W
 unfold maxLen at hs hd;unfold pairOk;generalize addrOk s=b at *;by_cases h:s.size=d.size
 ·have dh:((s.size:Int)==(d.size:Int))=true:=by simp; omega
  rw [decide_eq_true h];clear h
  cases b;all_goals go_enter Tryz.func97,Tryz.ntmps97
  all_goals go_wp2_with fail
  all_goals refine (HA.out _).mono ?_
  all_goals rintro e w2 ⟨rfl,rfl⟩
  all_goals go_wp2_with fail
  all_goals go_ret
  all_goals exact ⟨rfl,rfl⟩
 ·have dh:((s.size:Int)==(d.size:Int))=false:=by simp; omega
  rw [decide_eq_false h]
  cases b;all_goals go_enter Tryz.func97,Tryz.ntmps97
  all_goals go_wp2_with fail
  all_goals refine (HA.out _).mono ?_
  all_goals rintro e w2 ⟨rfl,rfl⟩
  all_goals go_wp2_with fail
  all_goals go_ret
  all_goals exact ⟨rfl,rfl⟩
theorem implEcho_any (p:Int) (w:World) :
  Cw 100 #[iV p] w (.bool (echoP p)):=by
 by_cases h1:p=1
 ·have d1:(p==1)=true:=by simp [h1]
  have HV:Hid (echoP p=true):=by unfold Hid echoP; simp [h1]
  clear h1;go_enter Tryz.func100,Tryz.ntmps100
  go_wp2_with fail
  go_ret;exact ⟨ret_bool HV.out.symm,rfl⟩
 ·have d1:(p==1)=false:=by simp [h1]
  have HV:Hid (echoP p=(p==58)):=by
   unfold Hid echoP;rw [decide_eq_false h1,Bool.false_or];rfl
  go_enter Tryz.func100,Tryz.ntmps100
  go_wp2_with fail
  go_ret;exact ⟨ret_bool HV.out.symm,rfl⟩
theorem implCarried_any (p:Int) (s:ByteArray) (w:World) (hs:s.size≤maxLen) :
  Cw 98 #[iV p,.string s] w (.bool (protoOk p s.size)):=by
 unfold maxLen at hs;by_cases h6:p=6
 ·have HV:Hid (protoOk p s.size=true):=by unfold Hid protoOk; simp [h6]
  have d6:(p==6)=true:=by simp [h6]
  clear h6;go_enter Tryz.func98,Tryz.ntmps98
  go_wp2_with fail
  go_ret;exact ⟨ret_bool HV.out.symm,rfl⟩
 have d6:(p==6)=false:=by simp [h6]
 by_cases h17:p=17
 ·have HV:Hid (protoOk p s.size=true):=by unfold Hid protoOk; simp [h17]
  have d17:(p==17)=true:=by simp [h17]
  clear h6 h17;go_enter Tryz.func98,Tryz.ntmps98
  go_wp2_with fail
  go_ret;exact ⟨ret_bool HV.out.symm,rfl⟩
 have d17:(p==17)=false:=by simp [h17]
 by_cases h1:p=1
 ·have HV:Hid (protoOk p s.size=((s.size:Int)==4)):=by
   unfold Hid protoOk;have h4:((s.size:Int)==4)=decide (s.size=4):=by rw [Bool.eq_iff_iff]; simp; omega
   rw [h4]; simp [h1]
  have d1:(p==1)=true:=by simp [h1]
  clear h6 h17 h1;go_enter Tryz.func98,Tryz.ntmps98
  go_wp2_with fail
  go_ret;exact ⟨ret_bool HV.out.symm,rfl⟩
 have d1:(p==1)=false:=by simp [h1]
 by_cases h58:p=58
 ·have HV:Hid (protoOk p s.size=((s.size:Int)==16)):=by
   unfold Hid protoOk;have h4:((s.size:Int)==16)=decide (s.size=16):=by rw [Bool.eq_iff_iff]; simp; omega
   rw [h4]; simp [h58]
  have d58:(p==58)=true:=by simp [h58]
  clear h6 h17 h1 h58;go_enter Tryz.func98,Tryz.ntmps98
  go_wp2_with fail
  go_ret;exact ⟨ret_bool HV.out.symm,rfl⟩
 have d58:(p==58)=false:=by simp [h58]
 have HV:Hid (protoOk p s.size=false):=by unfold Hid protoOk; simp [h6,h17,h1,h58]
 clear h6 h17 h1 h58;go_enter Tryz.func98,Tryz.ntmps98
 go_wp2_with fail
 go_ret;exact ⟨ret_bool HV.out.symm,rfl⟩
theorem implFlowRight_any (f:Fl) (w:World) (h1:f.src.size≤1048576) (h2:f.dst.size≤1048576) :
  Cb 149 #[fwC f] w (.bool (flowOk f)):=by
 have HB1:Hid (∀ W,Cw 97 #[.string f.src,.string f.dst] W (.bool (pairOk f.src f.dst))):=fun W=>implPair_any _ _ W (by unfold maxLen; omega) (by unfold maxLen; omega)
 have HB2:Hid (∀ W,Cw 98 #[iV f.proto,.string f.src] W (.bool (protoOk f.proto f.src.size))):=fun W=>implCarried_any _ _ W (by unfold maxLen; omega)
 have HB3:Hid (∀ W,Cw 122 #[iV f.sp] W (.bool (isW f.sp))):=fun W=>implWordIs_any _ W
 have HB4:Hid (∀ W,Cw 122 #[iV f.dp] W (.bool (isW f.dp))):=fun W=>implWordIs_any _ W
 have HB5:Hid (∀ W,Cw 100 #[iV f.proto] W (.bool (echoP f.proto))):=fun W=>implEcho_any _ W
 have HV:Hid (flowOk f=(pairOk f.src f.dst&&protoOk f.proto f.src.size&&isW f.sp&&isW f.dp&&(!echoP f.proto||decide (f.sp=f.dp)))):=rfl;have dq:(f.sp==f.dp)=decide (f.sp=f.dp):=rfl;generalize decide (f.sp=f.dp)=q at *;generalize flowOk f=ok at *;generalize pairOk f.src f.dst=a1 at *;generalize protoOk f.proto f.src.size=a2 at *;generalize isW f.sp=a3 at *;generalize isW f.dp=a4 at *;generalize echoP f.proto=a5 at *;obtain ⟨proto,src,dst,sp,dp⟩:=f;unfold fwC;dsimp only at *;have HZ:Hid (Below w.heap.size w (w.alloc (.cells (FlR proto src dst sp dp).toArray 43))):=bR.alloc lR _;go_enter Tryz.func149,Tryz.ntmps149
 go_wp2_with fail
 refine (HB1.out _).mono ?_;rintro e w2 ⟨rfl,rfl⟩
 cases a1 with
 | false =>
  have hun:undef=Value.tuple #[]:=rfl;go_wp2_with fail
  go_ret;exact ⟨ret_bool (by rw [HV.out]; simp),HZ.out⟩
 | true =>
 go_wp2_with fail
 refine (HB2.out _).mono ?_;rintro e w2 ⟨rfl,rfl⟩
 cases a2 with
 | false =>
  have hun:undef=Value.tuple #[]:=rfl;go_wp2_with fail
  go_ret;exact ⟨ret_bool (by rw [HV.out]; simp),HZ.out⟩
 | true =>
 go_wp2_with fail
 refine (HB3.out _).mono ?_;rintro e w2 ⟨rfl,rfl⟩
 cases a3 with
 | false =>
  have hun:undef=Value.tuple #[]:=rfl;go_wp2_with fail
  go_ret;exact ⟨ret_bool (by rw [HV.out]; simp),HZ.out⟩
 | true =>
 go_wp2_with fail
 refine (HB4.out _).mono ?_;rintro e w2 ⟨rfl,rfl⟩
 cases a4 with
 | false =>
  have hun:undef=Value.tuple #[]:=rfl;go_wp2_with fail
  go_ret;exact ⟨ret_bool (by rw [HV.out]; simp),HZ.out⟩
 | true =>
 go_wp2_with fail
 refine (HB5.out _).mono ?_;rintro e w2 ⟨rfl,rfl⟩
 cases a5 with
 | false =>
  have hun:undef=Value.tuple #[]:=rfl;go_wp2_with fail
  go_ret;exact ⟨ret_bool (by rw [HV.out]; simp),HZ.out⟩
 | true =>
  have hun:undef=Value.tuple #[]:=rfl;go_wp2_with fail
  go_ret;exact ⟨ret_bool (by rw [HV.out]; simp),HZ.out⟩
theorem wp_bin_val {P:Program} {o:Oper} {a:Act} {w:World} {v1 v2 v':Value} {K:Act→World→Prop} {Q:Exit→Act→World→Prop} (b:BinOp) (t t2:TypeId) (x y:Operand) (hop:o.op=Op.binOp b t x y t2)
  (hx:a.eval x=v1) (hy:a.eval y=v2) (hgd:(eqGuard b t x y v1 v2).run P w=.ok () w) (hrun:(binOp b t v1 v2).run P w=.ok v' w) (hK:K (a.put o.dst v') w):Oper.wp P o a w K Q:=by
 unfold Oper.wp;simp [execOp,hop,hx,hy,hgd,hrun,Result.andThen];exact hK
def Enters (F:Nat):Prop:=∀ args W,Sem.run Tryz.prog (callFunc F args) W=.ok (.enter F args) W
def hostE (q:Bd):En:=⟨q.proto,q.inn,q.inPort⟩
def lentE (q:Bd):En:=⟨q.proto,q.out,q.outPort⟩
def sessE (s:Ss):En:=⟨s.proto,s.inn,s.inPort⟩
def sessK (s:Ss):Sk:=⟨sessE s,s.peer,s.peerPort⟩
theorem sameEn_eq (q p:En):sameEn q p=(decide (q.proto=p.proto)&&decide (q.addr.toList=p.addr.toList)&&decide (q.port=p.port)):=by
 unfold sameEn;rw [Bool.eq_iff_iff]; simp [and_assoc]
theorem host_in (proto:Int) (s:ByteArray) (port:Int) (q:Bd):sameEn (hostE q) ⟨proto,s,port⟩=ofIn proto s port q:=sameEn_eq _ _
theorem lent_out (proto:Int) (s:ByteArray) (port:Int) (q:Bd):sameEn (lentE q) ⟨proto,s,port⟩=ofOut proto s port q:=sameEn_eq _ _
theorem sess_has (b:Bd) (s:Ss):sameEn (sessE s) (hostE b)=hasS b s:=by
 rw [sameEn_eq]; unfold hasS sessE hostE;rw [Bool.eq_iff_iff]; simp only [Bool.and_eq_true,decide_eq_true_iff];exact ⟨fun h=>⟨⟨h.1.1.symm,h.1.2.symm⟩,h.2.symm⟩,fun h=>⟨⟨h.1.1.symm,h.1.2.symm⟩,h.2.symm⟩⟩
theorem sess_same (s t:Ss):sameSk (sessK t) (sessK s)=sameS s t:=by
 unfold sameSk;rw [show sameEn (sessK t).host (sessK s).host=sameEn (sessE t) (sessE s) from rfl,sameEn_eq];unfold sameS sessK sessE;rw [Bool.eq_iff_iff]; simp only [Bool.and_eq_true,decide_eq_true_iff,beq_iff_eq];exact ⟨fun h=>⟨⟨⟨⟨h.1.1.1.symm,h.1.1.2.symm⟩,h.1.2.symm⟩,h.2.1.symm⟩,h.2.2.symm⟩,fun h=>⟨⟨⟨h.1.1.1.1.symm,h.1.1.1.2.symm⟩,h.1.1.2.symm⟩,h.1.2.symm,h.2.symm⟩⟩
theorem hostEnd_any (q:Bd) (w:World) :
  Cb 53 #[bdC q] w (enC (hostE q)):=by
 unfold bdC enC hostE;go_enter Tryz.func53,Tryz.ntmps53
 go_wp2_with fail
 refine bodyPost_ret (v:=.agg (EnV q.proto q.inn q.inPort).toArray) (by simp [results,Tryz.results53,go_sem]) rfl ⟨rfl,?_⟩;first | exact (bR.alloc lR _).alloc (by simp) _ | exact ((((bR.alloc lR _).alloc (by simp) _).setCell (by simp) _).setCell (by simp) _).setCell (by simp) _
theorem lentEnd_any (q:Bd) (w:World) :
  Cb 48 #[bdC q] w (enC (lentE q)):=by
 unfold bdC enC lentE;go_enter Tryz.func48,Tryz.ntmps48
 go_wp2_with fail
 refine bodyPost_ret (v:=.agg (EnV q.proto q.out q.outPort).toArray) (by simp [results,Tryz.results48,go_sem]) rfl ⟨rfl,?_⟩;first | exact (bR.alloc lR _).alloc (by simp) _ | exact ((((bR.alloc lR _).alloc (by simp) _).setCell (by simp) _).setCell (by simp) _).setCell (by simp) _
theorem sessKey_any (q:Ss) (w:World) :
  Cb 134 #[ssC q] w (skC (sessK q)):=by
 unfold ssC skC sessK sessE;go_enter Tryz.func134,Tryz.ntmps134
 go_wp2_with fail
 refine bodyPost_ret (v:=.agg (BdR q.proto q.inn q.inPort q.peer q.peerPort).toArray) (by simp [results,Tryz.results134,go_sem]) rfl ⟨rfl,?_⟩;first | exact ((bR.alloc lR _).alloc (by simp) _).alloc (by simp; omega) _ | skip
theorem idxBind_any (f:Bd→Bool) (F:Nat) (hG:Enters F) (caps:Array Value) (xs:List Bd) (a:Option Addr) (cap:Nat) (w:World) (hl:xs.length≤1048576) (hr:SlIs bdL 5 w a xs) (hC:∀ W,Below w.heap.size w W→∀ q,q∈xs→Calls Tryz.prog F (#[bdC q]++caps) W fun e w'=>e=.returned (.bool (f q))∧Below W.heap.size W w') :
  Cb 79 #[.slice a xs.length cap,.func (.func F) #[] caps] w (iV (findI f xs)):=by
 have HR:Hid (SlIs bdL 5 w a xs):=hr;have HC:Hid (∀ W,Below w.heap.size w W→∀ q,q∈xs→Calls Tryz.prog F (#[bdC q]++caps) W fun e w'=>e=.returned (.bool (f q))∧Below W.heap.size W w'):=hC;obtain ⟨ans,hans⟩ : ∃ y,y=findI f xs:=⟨_,rfl⟩;rw [← hans];have HA:Hid (ans=findI f xs):=hans;clear hr hC hans;unfold Enters at hG;go_enter Tryz.func79,Tryz.ntmps79
 go_wp2_with fail
 go_loopw [8] (fun iv wr=>∃ i:Nat,i≤xs.length∧iv=iV i∧(xs.take i).any f=false∧Below w.heap.size w wr) (fun iv _=>xs.length-(intOf iv).toNat)
 case atStart=>exact ⟨0,Nat.zero_le _,rfl,by simp,Below.refl _ _⟩
 case round =>
  obtain ⟨i,hil,rfl,hn,hb⟩:=hrel;have HN:Hid ((xs.take i).any f=false):=hn;have HW:Hid (Below w.heap.size w wr):=hb;clear hn hb;by_cases hlt:i < xs.length
  ·obtain ⟨b,off,rfl,hb,hat⟩:=HR.out.at hlt;have hA:=(hat.below hb HW.out) i hlt;have HT:Hid ((xs.take (i+1)).any f=f xs[i]):=by
    unfold Hid;rw [List.take_succ_eq_append_getElem hlt,List.any_append,HN.out]; simp
   have HX:Hid (f xs[i]=true→findI f xs=i):=fun h=>findI_at f xs i hlt HN.out h
   have HC2:Hid _:=HC.out wr HW.out xs[i] (List.getElem_mem hlt);generalize xs[i]=q at *;obtain ⟨c0,c1,c2,c3,c4⟩:=rc5 hA;clear hA hat;obtain ⟨cl,hcl⟩ : ∃ y,y=f q:=⟨_,rfl⟩;rw [← hcl] at HT HX HC2;clear hcl;unfold bdC at HC2;go_wp2_with fail
   refine Calls.mono HC2.out ?_;rintro e w1 ⟨rfl,b1⟩;have HW1:Hid _:=HW.out.trans (b1.mono HW.out.size);clear b1 c0 c1 c2 c3 c4
   cases cl with
   | true =>
    have HF:Hid ((i:Int)=ans):=by unfold Hid; rw [HA.out,HX.out rfl]
    go_wp2_with fail
    go_ret;exact ⟨ret_int HF.out,HW1.out⟩
   | false =>
    go_wp2_with fail
    go_roundw
    case rel=>exact ⟨i+1,by omega,by go_num,HT.out,HW1.out⟩
    case measure=>simp [intOf]; omega
  ·have hie:i=xs.length:=by omega
   have HF:Hid ((-1:Int)=ans):=by
    have:=HN.out;rw [hie,List.take_of_length_le lR] at this;unfold Hid; rw [HA.out,findI_no f xs this]
   go_wp2_with fail
   go_ret;exact ⟨ret_int HF.out,HW.out⟩
theorem idxSession_any (f:Ss→Bool) (F:Nat) (hG:Enters F) (caps:Array Value) (xs:List Ss) (a:Option Addr) (cap:Nat) (w:World) (hl:xs.length≤1048576) (hr:SlIs ssL 7 w a xs) (hC:∀ W,Below w.heap.size w W→∀ q,q∈xs→Calls Tryz.prog F (#[ssC q]++caps) W fun e w'=>e=.returned (.bool (f q))∧Below W.heap.size W w') :
  Cb 137 #[.slice a xs.length cap,.func (.func F) #[] caps] w (iV (findI f xs)):=by
 have HR:Hid (SlIs ssL 7 w a xs):=hr;have HC:Hid (∀ W,Below w.heap.size w W→∀ q,q∈xs→Calls Tryz.prog F (#[ssC q]++caps) W fun e w'=>e=.returned (.bool (f q))∧Below W.heap.size W w'):=hC;obtain ⟨ans,hans⟩ : ∃ y,y=findI f xs:=⟨_,rfl⟩;rw [← hans];have HA:Hid (ans=findI f xs):=hans;clear hr hC hans;unfold Enters at hG;go_enter Tryz.func137,Tryz.ntmps137
 go_wp2_with fail
 go_loopw [8] (fun iv wr=>∃ i:Nat,i≤xs.length∧iv=iV i∧(xs.take i).any f=false∧Below w.heap.size w wr) (fun iv _=>xs.length-(intOf iv).toNat)
 case atStart=>exact ⟨0,Nat.zero_le _,rfl,by simp,Below.refl _ _⟩
 case round =>
  obtain ⟨i,hil,rfl,hn,hb⟩:=hrel;have HN:Hid ((xs.take i).any f=false):=hn;have HW:Hid (Below w.heap.size w wr):=hb;clear hn hb;by_cases hlt:i < xs.length
  ·obtain ⟨b,off,rfl,hb,hat⟩:=HR.out.at hlt;have hA:=(hat.below hb HW.out) i hlt;have HT:Hid ((xs.take (i+1)).any f=f xs[i]):=by
    unfold Hid;rw [List.take_succ_eq_append_getElem hlt,List.any_append,HN.out]; simp
   have HX:Hid (f xs[i]=true→findI f xs=i):=fun h=>findI_at f xs i hlt HN.out h
   have HC2:Hid _:=HC.out wr HW.out xs[i] (List.getElem_mem hlt);generalize xs[i]=q at *;obtain ⟨c0,c1,c2,c3,c4,c5,c6⟩:=rc7 hA;clear hA hat;obtain ⟨cl,hcl⟩ : ∃ y,y=f q:=⟨_,rfl⟩;rw [← hcl] at HT HX HC2;clear hcl;unfold ssC at HC2;go_wp2_with fail
   refine Calls.mono HC2.out ?_;rintro e w1 ⟨rfl,b1⟩;have HW1:Hid _:=HW.out.trans (b1.mono HW.out.size);clear b1 c0 c1 c2 c3 c4 c5 c6
   cases cl with
   | true =>
    have HF:Hid ((i:Int)=ans):=by unfold Hid; rw [HA.out,HX.out rfl]
    go_wp2_with fail
    go_ret;exact ⟨ret_int HF.out,HW1.out⟩
   | false =>
    go_wp2_with fail
    go_roundw
    case rel=>exact ⟨i+1,by omega,by go_num,HT.out,HW1.out⟩
    case measure=>simp [intOf]; omega
  ·have hie:i=xs.length:=by omega
   have HF:Hid ((-1:Int)=ans):=by
    have:=HN.out;rw [hie,List.take_of_length_le lR] at this;unfold Hid; rw [HA.out,findI_no f xs this]
   go_wp2_with fail
   go_ret;exact ⟨ret_int HF.out,HW.out⟩
theorem first1_any (E:Bd→En) (F:Nat) (hG:Enters F) (q:Bd) (p:En) (B1 B2:Nat) (w:World) (hF:∀ q W,Calls Tryz.prog F #[bdC q] W fun e w'=>e=.returned (enC (E q))∧Below W.heap.size W w') (hk0:HoldsL w B1 [.func (.func F) #[] #[]]) (hk1:HoldsL w B2 (enL p)) :
  Cb 80 #[bdC q,.pointer (some ⟨B1,0,none⟩),.pointer (some ⟨B2,0,none⟩)] w (.bool (sameEn (E q) p)):=by
 have HF:Hid (∀ W,Calls Tryz.prog F #[.agg (BdV q).toArray] W fun e w'=>e=.returned (.agg #[iV (E q).proto,.string (E q).addr,iV (E q).port])∧Below W.heap.size W w'):=hF q;have HE:Hid (∀ W,(binOp .eql 86 (.agg #[iV (E q).proto,.string (E q).addr,iV (E q).port]) (.agg (EnV p.proto p.addr p.port).toArray)).run Tryz.prog W=.ok (.bool (sameEn (E q) p)) W):=fun W=>eqEn_bin (E q) p W
 generalize sameEn (E q) p=ans at *;generalize E q=eq at *;clear hF;unfold Enters at hG;have HZ:Hid (Below w.heap.size w (w.alloc (.cells (BdV q).toArray 48))):=bR.alloc lR _;have HQ:Hid (HoldsL (w.alloc (.cells (BdV q).toArray 48)) w.heap.size (bdL q)):=HoldsL.new w (bdL q) 48;have HK0:Hid (HoldsL (w.alloc (.cells (BdV q).toArray 48)) B1 [.func (.func F) #[] #[]]):=hk0.alloc _;have HK1:Hid (HoldsL (w.alloc (.cells (BdV q).toArray 48)) B2 (enL p)):=hk1.alloc _;clear hk0 hk1;unfold bdC;go_enter Tryz.func80,Tryz.ntmps80
 go_upto_region 1 with fail
 generalize (w.alloc (.cells (BdV q).toArray 48))=W at *;go_cut [4] (fun v wx=>v=.bool ans∧Below w.heap.size w wx)
 case first =>
  rename_i J K2 hJ hK2;have HCP:Hid (∀ wy,Below W.drew.heap.size W.drew wy→HoldsL wy w.heap.size (bdL q)∧HoldsL wy B1 [.func (.func F) #[] #[]]∧HoldsL wy B2 (enL p)):=fun wy hy=>⟨HQ.out.drew.kept (by simp [bdL]) hy,HK0.out.drew.kept (by simp [enL,skL]) hy,HK1.out.drew.kept (by simp [enL,skL]) hy⟩
  refine wp_region_growH [5,6,7,8,9,4] (by kernel_rfl) (by kernel_rfl) ?_;iterate 4 (apply GCh.u rfl;(·intro K' a wy ho hd hb hK;simp [rAt,IsV,slot,Region.binds] at ho hd;obtain ⟨hq,h0,h1⟩:=HCP.out wy hb;have kC:=hq.c5;have k00:=h0.cell (j:=0) rfl;have kC:=h1.c3;go_simp;first|((try go_bits);exact hK _ _ rfl bQ)|(refine (HF.out wy).mono ?_;rintro e wz ⟨rfl,hz⟩;exact hK _ _ rfl hz));dsimp only [nA,cA])
  apply GCh.v4
  ·rfl
  ·intro K' a wy ho hd hb hK kz;have q2:=hd ⟨2,.data⟩ (by simp) rfl;have q3:=hd ⟨3,.data⟩ (by simp) rfl;simp [rAt,IsV,slot] at q2 q3;clear hd ho;refine wp_bin_val .eql 86 86 (.tmp 7) (.tmp 8) rfl (by simp [Act.eval,slot,q2]) (by simp [Act.eval,slot,q3]) (run_eqGuard_agg _ _ _ _ _ _ _ (by kernel_rfl)) (HE.out wy) ?_;exact kz _ rfl
  (apply GCh.u rfl;(·intro K' a wy ho hd hb hK;simp [rAt,IsV,slot,Region.binds] at ho hd;go_simp;(try go_bits);exact hK _ _ rfl bQ);dsimp only [nA,cA])
  intro X wz hR hz;simp only [List.nil_append,List.cons_append,RAll,IsV] at hR;simp only [putsFrom,hR];clear hR;go_simp;try go_bits
  refine hK2 _ _ (hJ _ _ ?_);(repeat apply Exists.intro)
  refine ⟨⟨rfl,HZ.out.drew.trans (hz.mono HZ.out.size)⟩,rfl⟩
 case rest =>
  obtain ⟨rfl,hb⟩:=hcut;have HB:Hid (Below w.heap.size w wc):=hb;clear hb;go_wp2_with fail
  go_ret;exact ⟨rfl,HB.out⟩
theorem sessAt1_any (q:Ss) (p:Sk) (B1:Nat) (w:World) (hk0:HoldsL w B1 (skL p)) :
  Cb 138 #[ssC q,.pointer (some ⟨B1,0,none⟩)] w (.bool (sameSk (sessK q) p)):=by
 have HF:Hid (∀ W,Cb 134 #[.agg (SsV q).toArray] W (.agg (BdR q.proto q.inn q.inPort q.peer q.peerPort).toArray)):=fun W=>sessKey_any q W
 have HE:Hid (∀ W,(binOp .eql 147 (.agg (BdR q.proto q.inn q.inPort q.peer q.peerPort).toArray) (.agg (BdR p.host.proto p.host.addr p.host.port p.peer p.peerPort).toArray)).run Tryz.prog W=.ok (.bool (sameSk (sessK q) p)) W):=fun W=>eqSk_bin (sessK q) p W
 generalize sameSk (sessK q) p=ans at *;have HZ:Hid (Below w.heap.size w (w.alloc (.cells (SsV q).toArray 59))):=bR.alloc lR _;have HQ:Hid (HoldsL (w.alloc (.cells (SsV q).toArray 59)) w.heap.size (ssL q)):=HoldsL.new w (ssL q) 59;have HK0:Hid (HoldsL (w.alloc (.cells (SsV q).toArray 59)) B1 (skL p)):=hk0.alloc _;clear hk0;unfold ssC;go_enter Tryz.func138,Tryz.ntmps138
 go_upto_region 1 with fail
 generalize (w.alloc (.cells (SsV q).toArray 59))=W at *;go_cut [3] (fun v wx=>v=.bool ans∧Below w.heap.size w wx)
 case first =>
  rename_i J K2 hJ hK2;have HCP:Hid (∀ wy,Below W.drew.heap.size W.drew wy→HoldsL wy w.heap.size (ssL q)∧HoldsL wy B1 (skL p)):=fun wy hy=>⟨HQ.out.drew.kept (by simp [ssL]) hy,HK0.out.drew.kept (by simp [enL,skL]) hy⟩
  refine wp_region_growH [4,5,6,7,3] (by kernel_rfl) (by kernel_rfl) ?_;iterate 3 (apply GCh.u rfl;(·intro K' a wy ho hd hb hK;simp [rAt,IsV,slot,Region.binds] at ho hd;obtain ⟨hq,h0⟩:=HCP.out wy hb;have kC:=hq.c7;have kC:=h0.c5;go_simp;first|((try go_bits);exact hK _ _ rfl bQ)|(refine (HF.out wy).mono ?_;rintro e wz ⟨rfl,hz⟩;exact hK _ _ rfl hz));dsimp only [nA,cA])
  apply GCh.v3
  ·rfl
  ·intro K' a wy ho hd hb hK kz;have q1:=hd ⟨1,.data⟩ (by simp) rfl;have q2:=hd ⟨2,.data⟩ (by simp) rfl;simp [rAt,IsV,slot] at q1 q2;clear hd ho;refine wp_bin_val .eql 147 147 (.tmp 5) (.tmp 6) rfl (by simp [Act.eval,slot,q1]) (by simp [Act.eval,slot,q2]) (run_eqGuard_agg _ _ _ _ _ _ _ (by kernel_rfl)) (HE.out wy) ?_;exact kz _ rfl
  (apply GCh.u rfl;(·intro K' a wy ho hd hb hK;simp [rAt,IsV,slot,Region.binds] at ho hd;go_simp;(try go_bits);exact hK _ _ rfl bQ);dsimp only [nA,cA])
  intro X wz hR hz;simp only [List.nil_append,List.cons_append,RAll,IsV] at hR;simp only [putsFrom,hR];clear hR;go_simp;try go_bits
  refine hK2 _ _ (hJ _ _ ?_);(repeat apply Exists.intro)
  refine ⟨⟨rfl,HZ.out.drew.trans (hz.mono HZ.out.size)⟩,rfl⟩
 case rest =>
  obtain ⟨rfl,hb⟩:=hcut;have HB:Hid (Below w.heap.size w wc):=hb;clear hb;go_wp2_with fail
  go_ret;exact ⟨rfl,HB.out⟩
theorem hasSess1_any (q:Ss) (p:En) (B1:Nat) (w:World) (hk0:HoldsL w B1 (enL p)) :
  Cb 181 #[ssC q,.pointer (some ⟨B1,0,none⟩)] w (.bool (sameEn (sessE q) p)):=by
 have HF:Hid (∀ W,Cb 134 #[.agg (SsV q).toArray] W (.agg (BdR q.proto q.inn q.inPort q.peer q.peerPort).toArray)):=fun W=>sessKey_any q W
 have HE:Hid (∀ W,(binOp .eql 86 (.agg (EnV q.proto q.inn q.inPort).toArray) (.agg (EnV p.proto p.addr p.port).toArray)).run Tryz.prog W=.ok (.bool (sameEn (sessE q) p)) W):=fun W=>eqEn_bin (sessE q) p W
 have HFL:Hid (∀ W,Sem.run Tryz.prog (Instr.field 147 (.agg (BdR q.proto q.inn q.inPort q.peer q.peerPort).toArray) 0) W=.ok (.agg (EnV q.proto q.inn q.inPort).toArray) W):=fun W=>by kernel_rfl
 generalize sameEn (sessE q) p=ans at *;have HZ:Hid (Below w.heap.size w (w.alloc (.cells (SsV q).toArray 59))):=bR.alloc lR _;have HQ:Hid (HoldsL (w.alloc (.cells (SsV q).toArray 59)) w.heap.size (ssL q)):=HoldsL.new w (ssL q) 59;have HK0:Hid (HoldsL (w.alloc (.cells (SsV q).toArray 59)) B1 (enL p)):=hk0.alloc _;clear hk0;unfold ssC;go_enter Tryz.func181,Tryz.ntmps181
 go_upto_region 1 with fail
 generalize (w.alloc (.cells (SsV q).toArray 59))=W at *;go_cut [3] (fun v wx=>v=.bool ans∧Below w.heap.size w wx)
 case first =>
  rename_i J K2 hJ hK2;have HCP:Hid (∀ wy,Below W.drew.heap.size W.drew wy→HoldsL wy w.heap.size (ssL q)∧HoldsL wy B1 (enL p)):=fun wy hy=>⟨HQ.out.drew.kept (by simp [ssL]) hy,HK0.out.drew.kept (by simp [enL,skL]) hy⟩
  refine wp_region_growH [4,5,6,7,8,3] (by kernel_rfl) (by kernel_rfl) ?_;iterate 2 (apply GCh.u rfl;(·intro K' a wy ho hd hb hK;simp [rAt,IsV,slot,Region.binds] at ho hd;obtain ⟨hq,h0⟩:=HCP.out wy hb;have kC:=hq.c7;have kC:=h0.c3;go_simp;first|((try go_bits);exact hK _ _ rfl bQ)|(refine (HF.out wy).mono ?_;rintro e wz ⟨rfl,hz⟩;exact hK _ _ rfl hz));dsimp only [nA,cA])
  (apply GCh.u rfl;(·intro K' a wy ho hd hb hK;simp [rAt,IsV,slot,Region.binds] at ho hd;have hfl:=HFL.out wy;go_simp;(try go_bits);exact hK _ _ rfl bQ);dsimp only [nA,cA])
  (apply GCh.u rfl;(·intro K' a wy ho hd hb hK;simp [rAt,IsV,slot,Region.binds] at ho hd;obtain ⟨hq,h0⟩:=HCP.out wy hb;have kC:=hq.c7;have kC:=h0.c3;go_simp;(try go_bits);exact hK _ _ rfl bQ);dsimp only [nA,cA])
  apply GCh.v4
  ·rfl
  ·intro K' a wy ho hd hb hK kz;have q2:=hd ⟨2,.data⟩ (by simp) rfl;have q3:=hd ⟨3,.data⟩ (by simp) rfl;simp [rAt,IsV,slot] at q2 q3;clear hd ho;refine wp_bin_val .eql 86 86 (.tmp 6) (.tmp 7) rfl (by simp [Act.eval,slot,q2]) (by simp [Act.eval,slot,q3]) (run_eqGuard_agg _ _ _ _ _ _ _ (by kernel_rfl)) (HE.out wy) ?_;exact kz _ rfl
  (apply GCh.u rfl;(·intro K' a wy ho hd hb hK;simp [rAt,IsV,slot,Region.binds] at ho hd;go_simp;(try go_bits);exact hK _ _ rfl bQ);dsimp only [nA,cA])
  intro X wz hR hz;simp only [List.nil_append,List.cons_append,RAll,IsV] at hR;simp only [putsFrom,hR];clear hR;go_simp;try go_bits
  refine hK2 _ _ (hJ _ _ ?_);(repeat apply Exists.intro)
  refine ⟨⟨rfl,HZ.out.drew.trans (hz.mono HZ.out.size)⟩,rfl⟩
 case rest =>
  obtain ⟨rfl,hb⟩:=hcut;have HB:Hid (Below w.heap.size w wc):=hb;clear hb;go_wp2_with fail
  go_ret;exact ⟨rfl,HB.out⟩
theorem cloneS_any (s:ByteArray) (w:World) (h:s.size≤1048576) :
  Cb 119 #[.string s] w (.string s):=by
 have HC:Hid (∀ W,Cb 162 #[.string s] W (.string s)):=fun W=>Tryz.stringslite_Clone s W (by omega)
 go_enter Tryz.func119,Tryz.ntmps119
 go_wp2_with fail
 refine (HC.out _).mono ?_;rintro e w1 ⟨rfl,b1⟩;go_wp2_with fail
 go_ret;exact ⟨rfl,b1⟩
theorem copyBind_any (p:Bd) (w:World) (h1:p.inn.size≤1048576) (h2:p.out.size≤1048576) :
  Cb 82 #[bdC p] w (bdC p):=by
 have H1:Hid (∀ W,Cb 119 #[.string p.inn] W (.string p.inn)):=fun W=>cloneS_any _ W h1
 have H2:Hid (∀ W,Cb 119 #[.string p.out] W (.string p.out)):=fun W=>cloneS_any _ W h2
 have hun:undef=Value.tuple #[]:=rfl;clear h1 h2;have HP:Hid (HoldsL ((aW w (BdV p) 48).alloc (.cells (BdR 0 ⟨#[]⟩ 0 ⟨#[]⟩ 0).toArray 48)) w.heap.size (bdL p)):=(HoldsL.new w (bdL p) _).alloc _;have HO:Hid (HoldsL ((aW w (BdV p) 48).alloc (.cells (BdR 0 ⟨#[]⟩ 0 ⟨#[]⟩ 0).toArray 48)) (w.heap.size+1) (BdR 0 ⟨#[]⟩ 0 ⟨#[]⟩ 0)):=by
  have h:=HoldsL.new (w.alloc (.cells (BdV p).toArray 48)) (BdR 0 ⟨#[]⟩ 0 ⟨#[]⟩ 0) 48;rwa [World.size_alloc] at h
 have HZ:Hid (Below w.heap.size w ((aW w (BdV p) 48).alloc (.cells (BdR 0 ⟨#[]⟩ 0 ⟨#[]⟩ 0).toArray 48))):=(bR.alloc lR _).alloc (by simp) _;unfold bdC;go_enter Tryz.func82,Tryz.ntmps82
 go_upto_region 1 with fail
 generalize World.alloc _ _=W at *;go_cut [3] (fun v wx=>HoldsL wx w.heap.size (bdL p)∧HoldsL wx (w.heap.size+1) (BdR 0 ⟨#[]⟩ 0 ⟨#[]⟩ 0)∧Below w.heap.size w wx)
 case first =>
  rename_i J K2 hJ hK2;clear hun;have HCP:Hid (∀ wy,Below W.drew.heap.size W.drew wy→HoldsL wy w.heap.size (bdL p)∧HoldsL wy (w.heap.size+1) (BdR 0 ⟨#[]⟩ 0 ⟨#[]⟩ 0)):=fun wy hy=>⟨HP.out.drew.kept (by simp [bdL]) hy,HO.out.drew.kept (by simp) hy⟩
  refine wp_region_growV [3,4,5,6,7,8,9] (by kernel_rfl) (by kernel_rfl) ?_;iterate 5 (apply GChV.u rfl;(·intro K' a wy ho hd hb hK;simp [rAt,IsV,slot,Region.binds] at ho hd;have hld:=(HCP.out wy hb).1;have kC:=hld.c5;go_simp;first|((try go_bits);exact hK _ _ rfl bQ)|(refine (H1.out wy).mono ?_;rintro e wz ⟨rfl,hz⟩;exact hK _ _ rfl hz));dsimp only [nA,cA])
  iterate 2 (apply GChV.u rfl;(·intro K' a wy ho hd hb hK;simp [rAt,IsV,slot,Region.binds] at ho hd;go_simp;first|((try go_bits);exact hK _ _ rfl bQ)|(refine (H2.out wy).mono ?_;rintro e wz ⟨rfl,hz⟩;exact hK _ _ rfl hz));dsimp only [nA,cA])
  intro X wz hR hz;simp only [List.nil_append,List.cons_append,RAll,IsV] at hR;simp only [putsFrom,hR];clear hR;obtain ⟨hh,hz0⟩:=HCP.out wz hz;have HB:Hid (Below w.heap.size w wz):=HZ.out.drew.trans (hz.mono HZ.out.size);have f1:wz.frozen? ⟨w.heap.size,1,none⟩=false:=hh.free (j:=1) (by simp [bdL]);have f3:wz.frozen? ⟨w.heap.size,3,none⟩=false:=hh.free (j:=3) (by simp [bdL]);obtain ⟨k0,k1,k2,k3,k4⟩:=hh.c5;have HH:Hid (HoldsL wz w.heap.size (bdL p)):=hh;have HH0:Hid (HoldsL wz (w.heap.size+1) (BdR 0 ⟨#[]⟩ 0 ⟨#[]⟩ 0)):=hz0;clear hh hz0;intro K10 hK10;go_simp;refine hK10 _ _ ?_;intro K11 hK11;go_simp;refine hK11 _ _ ?_;intro K12 hK12;go_simp;refine hK12 _ _ ?_;show Exit.then _ _ _ _ _;refine hK2 _ _ (hJ _ _ ?_);(repeat apply Exists.intro)
  refine ⟨⟨(HH.out.set 1 _).set 3 _,(HH0.out.setOther (by omega) _).setOther (by omega) _,?_⟩,rfl⟩;exact (HB.out.setCell (p:=⟨w.heap.size,1,none⟩) lR _).setCell (p:=⟨w.heap.size,3,none⟩) lR _
 case rest =>
  obtain ⟨hh,h0,hb⟩:=hcut;have HB:Hid (Below w.heap.size w wc):=hb;obtain ⟨k0,k1,k2,k3,k4⟩:=hh.c5;obtain ⟨y0,y1,y2,y3,y4⟩:=h0.f5;obtain ⟨z0,z1,z2,z3,z4⟩:=h0.c5;clear hh h0 hb;go_wp2_with fail
  refine bodyPost_ret (v:=.agg (BdV p).toArray) (by simp [results,Tryz.results82,go_sem,z0,z1,z2,z3,z4]) rfl ⟨rfl,?_⟩;have hsz:w.heap.size≤w.heap.size+1:=Nat.le_succ _;exact (((((HB.out.setCell (p:=⟨w.heap.size+1,0,none⟩) hsz _).setCell (p:=⟨w.heap.size+1,1,none⟩) hsz _).setCell (p:=⟨w.heap.size+1,2,none⟩) hsz _).setCell (p:=⟨w.heap.size+1,3,none⟩) hsz _).setCell (p:=⟨w.heap.size+1,4,none⟩) hsz _)
theorem copySession_any (p:Ss) (w:World) (h1:p.inn.size≤1048576) (h2:p.peer.size≤1048576) :
  Cb 142 #[ssC p] w (ssC p):=by
 have H1:Hid (∀ W,Cb 119 #[.string p.inn] W (.string p.inn)):=fun W=>cloneS_any _ W h1
 have H2:Hid (∀ W,Cb 119 #[.string p.peer] W (.string p.peer)):=fun W=>cloneS_any _ W h2
 have hun:undef=Value.tuple #[]:=rfl;clear h1 h2;have HP:Hid (HoldsL ((aW w (SsV p) 59).alloc (.cells (SsR 0 ⟨#[]⟩ 0 ⟨#[]⟩ 0 0 0).toArray 59)) w.heap.size (ssL p)):=(HoldsL.new w (ssL p) _).alloc _;have HO:Hid (HoldsL ((aW w (SsV p) 59).alloc (.cells (SsR 0 ⟨#[]⟩ 0 ⟨#[]⟩ 0 0 0).toArray 59)) (w.heap.size+1) (SsR 0 ⟨#[]⟩ 0 ⟨#[]⟩ 0 0 0)):=by
  have h:=HoldsL.new (w.alloc (.cells (SsV p).toArray 59)) (SsR 0 ⟨#[]⟩ 0 ⟨#[]⟩ 0 0 0) 59;rwa [World.size_alloc] at h
 have HZ:Hid (Below w.heap.size w ((aW w (SsV p) 59).alloc (.cells (SsR 0 ⟨#[]⟩ 0 ⟨#[]⟩ 0 0 0).toArray 59))):=(bR.alloc lR _).alloc (by simp) _;unfold ssC;go_enter Tryz.func142,Tryz.ntmps142
 go_upto_region 1 with fail
 generalize World.alloc _ _=W at *;go_cut [3] (fun v wx=>HoldsL wx w.heap.size (ssL p)∧HoldsL wx (w.heap.size+1) (SsR 0 ⟨#[]⟩ 0 ⟨#[]⟩ 0 0 0)∧Below w.heap.size w wx)
 case first =>
  rename_i J K2 hJ hK2;clear hun;have HCP:Hid (∀ wy,Below W.drew.heap.size W.drew wy→HoldsL wy w.heap.size (ssL p)∧HoldsL wy (w.heap.size+1) (SsR 0 ⟨#[]⟩ 0 ⟨#[]⟩ 0 0 0)):=fun wy hy=>⟨HP.out.drew.kept (by simp [ssL]) hy,HO.out.drew.kept (by simp) hy⟩
  refine wp_region_growV [3,4,5,6,7,8,9] (by kernel_rfl) (by kernel_rfl) ?_;iterate 5 (apply GChV.u rfl;(·intro K' a wy ho hd hb hK;simp [rAt,IsV,slot,Region.binds] at ho hd;have hld:=(HCP.out wy hb).1;have kC:=hld.c7;go_simp;first|((try go_bits);exact hK _ _ rfl bQ)|(refine (H1.out wy).mono ?_;rintro e wz ⟨rfl,hz⟩;exact hK _ _ rfl hz));dsimp only [nA,cA])
  iterate 2 (apply GChV.u rfl;(·intro K' a wy ho hd hb hK;simp [rAt,IsV,slot,Region.binds] at ho hd;go_simp;first|((try go_bits);exact hK _ _ rfl bQ)|(refine (H2.out wy).mono ?_;rintro e wz ⟨rfl,hz⟩;exact hK _ _ rfl hz));dsimp only [nA,cA])
  intro X wz hR hz;simp only [List.nil_append,List.cons_append,RAll,IsV] at hR;simp only [putsFrom,hR];clear hR;obtain ⟨hh,hz0⟩:=HCP.out wz hz;have HB:Hid (Below w.heap.size w wz):=HZ.out.drew.trans (hz.mono HZ.out.size);have f1:wz.frozen? ⟨w.heap.size,1,none⟩=false:=hh.free (j:=1) (by simp [ssL]);have f3:wz.frozen? ⟨w.heap.size,3,none⟩=false:=hh.free (j:=3) (by simp [ssL]);obtain ⟨k0,k1,k2,k3,k4,k5,k6⟩:=hh.c7;have HH:Hid (HoldsL wz w.heap.size (ssL p)):=hh;have HH0:Hid (HoldsL wz (w.heap.size+1) (SsR 0 ⟨#[]⟩ 0 ⟨#[]⟩ 0 0 0)):=hz0;clear hh hz0;intro K10 hK10;go_simp;refine hK10 _ _ ?_;intro K11 hK11;go_simp;refine hK11 _ _ ?_;intro K12 hK12;go_simp;refine hK12 _ _ ?_;show Exit.then _ _ _ _ _;refine hK2 _ _ (hJ _ _ ?_);(repeat apply Exists.intro)
  refine ⟨⟨(HH.out.set 1 _).set 3 _,(HH0.out.setOther (by omega) _).setOther (by omega) _,?_⟩,rfl⟩;exact (HB.out.setCell (p:=⟨w.heap.size,1,none⟩) lR _).setCell (p:=⟨w.heap.size,3,none⟩) lR _
 case rest =>
  obtain ⟨hh,h0,hb⟩:=hcut;have HB:Hid (Below w.heap.size w wc):=hb;obtain ⟨k0,k1,k2,k3,k4,k5,k6⟩:=hh.c7;obtain ⟨y0,y1,y2,y3,y4,y5,y6⟩:=h0.f7;obtain ⟨z0,z1,z2,z3,z4,z5,z6⟩:=h0.c7;clear hh h0 hb;go_wp2_with fail
  refine bodyPost_ret (v:=.agg (SsV p).toArray) (by simp [results,Tryz.results142,go_sem,z0,z1,z2,z3,z4,z5,z6]) rfl ⟨rfl,?_⟩;have hsz:w.heap.size≤w.heap.size+1:=Nat.le_succ _;exact (((((((HB.out.setCell (p:=⟨w.heap.size+1,0,none⟩) hsz _).setCell (p:=⟨w.heap.size+1,1,none⟩) hsz _).setCell (p:=⟨w.heap.size+1,2,none⟩) hsz _).setCell (p:=⟨w.heap.size+1,3,none⟩) hsz _).setCell (p:=⟨w.heap.size+1,4,none⟩) hsz _).setCell (p:=⟨w.heap.size+1,5,none⟩) hsz _).setCell (p:=⟨w.heap.size+1,6,none⟩) hsz _)
def BdsIn (xs:List Bd):Prop:=xs.length≤1048576∧∀ q∈xs,q.inn.size≤1048576∧q.out.size≤1048576
theorem find_of (f:Bd→Bool) (xs:List Bd) {i:Nat} (hi:i < xs.length) (h:findI f xs=i):xs.find? f=some xs[i]:=by
 obtain ⟨j,hj,h1,h2⟩:=findBd_at f xs (by omega);have:j=i:=by omega
 subst this; exact h2
theorem firstBind_any (E:Bd→En) (F:Nat) (hG:Enters F) (p:En) (xs:List Bd) (a:Option Addr) (cap:Nat) (w:World) (hF:∀ q W,Calls Tryz.prog F #[bdC q] W fun e w'=>e=.returned (enC (E q))∧Below W.heap.size W w') (hin:BdsIn xs) (hr:SlIs bdL 5 w a xs) :
  Cb 47 #[.slice a xs.length cap,.func (.func F) #[] #[],enC p] w (bdC (bindV (fun q=>sameEn (E q) p) xs p.addr)):=by
 have hlen:=hin.1;have W3Z:Hid (Below w.heap.size w ((aW (aW w [.func (.func F) #[] #[]] 84) (EnV p.proto p.addr p.port) 86).alloc (.cells (BdR 0 ⟨#[]⟩ 0 ⟨#[]⟩ 0).toArray 48))):=((bR.alloc lR _).alloc (by simp) _).alloc (by simp; omega) _;have HK1:Hid (HoldsL ((aW (aW w [.func (.func F) #[] #[]] 84) (EnV p.proto p.addr p.port) 86).alloc (.cells (BdR 0 ⟨#[]⟩ 0 ⟨#[]⟩ 0).toArray 48)) w.heap.size [.func (.func F) #[] #[]]):=((HoldsL.new w _ _).alloc _).alloc _;have HK2:Hid (HoldsL ((aW (aW w [.func (.func F) #[] #[]] 84) (EnV p.proto p.addr p.port) 86).alloc (.cells (BdR 0 ⟨#[]⟩ 0 ⟨#[]⟩ 0).toArray 48)) (w.heap.size+1) (enL p)):=by
  have h:=(HoldsL.new (w.alloc (.cells #[.func (.func F) #[] #[]] 84)) (enL p) 86).alloc (.cells (BdR 0 ⟨#[]⟩ 0 ⟨#[]⟩ 0).toArray 48);rw [World.size_alloc] at h; exact h
 have HK3:Hid (HoldsL ((aW (aW w [.func (.func F) #[] #[]] 84) (EnV p.proto p.addr p.port) 86).alloc (.cells (BdR 0 ⟨#[]⟩ 0 ⟨#[]⟩ 0).toArray 48)) (w.heap.size+1+1) (BdR 0 ⟨#[]⟩ 0 ⟨#[]⟩ 0)):=by
  have h:=HoldsL.new ((aW w [.func (.func F) #[] #[]] 84).alloc (.cells (EnV p.proto p.addr p.port).toArray 86)) (BdR 0 ⟨#[]⟩ 0 ⟨#[]⟩ 0) 48;rw [World.size_alloc,World.size_alloc] at h; exact h
 have HR:Hid (SlIs bdL 5 w a xs):=hr;have HIN:Hid (BdsIn xs):=hin;have HV:Hid (bindV (fun q=>sameEn (E q) p) xs p.addr=if 20000 < p.addr.size then bdZ else (xs.find? (fun q=>sameEn (E q) p)).getD bdZ):=rfl;have HI:Hid (∀ W,Below w.heap.size w W→HoldsL W w.heap.size [.func (.func F) #[] #[]]→HoldsL W (w.heap.size+1) (enL p)→Cb 79 #[.slice a xs.length cap,.func (.func 80) #[] #[.pointer (some ⟨w.heap.size,0,none⟩),.pointer (some ⟨w.heap.size+1,0,none⟩)]] W (iV (findI (fun q=>sameEn (E q) p) xs))):=fun W hW h1 h2=>idxBind_any (fun q=>sameEn (E q) p) 80 (fun args W=>by kernel_rfl) _ xs a cap W hlen (hr.below hW) (fun W' hW' q hq=>first1_any E F hG q p _ _ W' hF (h1.kept (by simp) hW') (h2.kept (by simp [enL]) hW'))
 have HFO:Hid (∀ i,(hi:i < xs.length)→findI (fun q=>sameEn (E q) p) xs=i→xs.find? (fun q=>sameEn (E q) p)=some xs[i]):=fun i hi h=>find_of _ xs hi h
 have HAT:Hid (¬ findI (fun q=>sameEn (E q) p) xs < 0→∃ i:Nat,∃ hi:i < xs.length,findI (fun q=>sameEn (E q) p) xs=i∧xs.find? (fun q=>sameEn (E q) p)=some xs[i]):=findBd_at _ xs;have HNO:Hid (findI (fun q=>sameEn (E q) p) xs < 0→xs.find? (fun q=>sameEn (E q) p)=none):=find_no _ xs;have HTL:Hid (∀ W,Cw 81 #[.string p.addr] W (.bool (decide (20000 < p.addr.size)))):=fun W=>implLong_any p.addr W
 generalize bindV (fun q=>sameEn (E q) p) xs p.addr=ans at *;generalize xs.find? (fun q=>sameEn (E q) p)=fd at *;generalize findI (fun q=>sameEn (E q) p) xs=fi at *;clear hr hin hF hG;unfold enC;have hun:undef=Value.tuple #[]:=rfl;go_enter Tryz.func47,Tryz.ntmps47
 go_upto_region 1 with fail
 generalize World.alloc _ _=W3 at *;go_wp2_with fail
 refine (HI.out _ W3Z.out HK1.out HK2.out).mono ?_;rintro e w1 ⟨rfl,q1⟩;have B1:Hid _:=W3Z.out.trans (q1.mono W3Z.out.size);have K2:=HK2.out.kept (by simp [enL]) q1;have K3:Hid _:=HK3.out.kept (by simp) q1;have k21:=K2.cell (j:=1) rfl;clear q1 K2 HK1 HK2 HK3 W3Z HI;go_wp2_with fail
 refine (HTL.out _).mono ?_;rintro e w1 ⟨rfl,rfl⟩;have hRw:w.heap.size≤w.heap.size+1+1:=by omega
 obtain ⟨y0,y1,y2,y3,y4⟩:=K3.out.f5;obtain ⟨z0,z1,z2,z3,z4⟩:=K3.out.c5;by_cases hs:20000 < p.addr.size
 ·have HX:Hid (ans=bdZ):=by unfold Hid; rw [HV.out,if_pos hs]
  have hd:decide (20000 < p.addr.size)=true:=decide_eq_true hs;rw [hd];go_wp2_with fail
  refine bodyPost_ret (v:=.agg (BdR 0 ⟨#[]⟩ 0 ⟨#[]⟩ 0).toArray) (by simp [results,Tryz.results47,go_sem,z0,z1,z2,z3,z4]) rfl (And.intro (congrArg (fun x=>Ending.returned (bdC x)) HX.out.symm) ?_);exact (((((B1.out.setCell (p:=⟨w.heap.size+1+1,0,none⟩) hRw _).setCell (p:=⟨w.heap.size+1+1,1,none⟩) hRw _).setCell (p:=⟨w.heap.size+1+1,2,none⟩) hRw _).setCell (p:=⟨w.heap.size+1+1,3,none⟩) hRw _).setCell (p:=⟨w.heap.size+1+1,4,none⟩) hRw _)
 ·have hd:decide (20000 < p.addr.size)=false:=decide_eq_false hs;rw [hd];by_cases hk:fi < 0
  ·have HX:Hid (ans=bdZ):=by unfold Hid; rw [HV.out,if_neg hs,HNO.out hk]; rfl
   go_wp2_with fail
   refine bodyPost_ret (v:=.agg (BdR 0 ⟨#[]⟩ 0 ⟨#[]⟩ 0).toArray) (by simp [results,Tryz.results47,go_sem,z0,z1,z2,z3,z4]) rfl (And.intro (congrArg (fun x=>Ending.returned (bdC x)) HX.out.symm) ?_);exact (((((B1.out.setCell (p:=⟨w.heap.size+1+1,0,none⟩) hRw _).setCell (p:=⟨w.heap.size+1+1,1,none⟩) hRw _).setCell (p:=⟨w.heap.size+1+1,2,none⟩) hRw _).setCell (p:=⟨w.heap.size+1+1,3,none⟩) hRw _).setCell (p:=⟨w.heap.size+1+1,4,none⟩) hRw _)
  ·obtain ⟨i,hi,hfi,hfd⟩:=HAT.out (by omega);subst hfi;obtain ⟨b,off,rfl,hb,hat⟩:=HR.out.at hi;have hA:=(hat.below hb B1.out) i hi;have hsz:=HIN.out.2 xs[i] (List.getElem_mem hi);obtain ⟨q,hq⟩ : ∃ q,xs[i]=q:=⟨_,rfl⟩;rw [hq] at hA hfd hsz;have HX:Hid (ans=q):=by unfold Hid; rw [HV.out,if_neg hs,hfd]; rfl
   obtain ⟨c0,c1,c2,c3,c4⟩:=rc5 hA;have HCY:Hid (∀ W,Cb 82 #[.agg (BdV q).toArray] W (.agg (BdV q).toArray)):=fun W=>copyBind_any q W hsz.1 hsz.2
   clear hA hat hq hfd hsz HAT HNO HFO HV z0 z1 z2 z3 z4 y0 y1 y2 y3 y4;have hiI:(i:Int) < (xs.length:Int):=by omega
   go_wp2_with fail
   refine (HCY.out _).mono ?_;rintro e w3 ⟨rfl,q3⟩;have B3:Hid _:=B1.out.trans (q3.mono B1.out.size);have K4:Hid _:=K3.out.kept (by simp) q3;obtain ⟨y0,y1,y2,y3,y4⟩:=K4.out.f5;obtain ⟨z0,z1,z2,z3,z4⟩:=K4.out.c5;clear q3 c0 c1 c2 c3 c4;go_wp2_with fail
   refine bodyPost_ret (v:=.agg (BdV q).toArray) (by simp [results,Tryz.results47,go_sem,z0,z1,z2,z3,z4]) rfl (And.intro (congrArg (fun x=>Ending.returned (bdC x)) HX.out.symm) ?_);exact (((((B3.out.setCell (p:=⟨w.heap.size+1+1,0,none⟩) hRw _).setCell (p:=⟨w.heap.size+1+1,1,none⟩) hRw _).setCell (p:=⟨w.heap.size+1+1,2,none⟩) hRw _).setCell (p:=⟨w.heap.size+1+1,3,none⟩) hRw _).setCell (p:=⟨w.heap.size+1+1,4,none⟩) hRw _)
theorem implBindAt_any (xs:List Bd) (proto:Int) (s:ByteArray) (port:Int) (a:Option Addr) (cap:Nat) (sv:Value) (hsv:sv.oneCell'=true) (w:World) (hin:BdsIn xs) (hr:SlIs bdL 5 w a xs) :
  Cb 20 #[.agg #[.slice a xs.length cap,sv],iV proto,.string s,iV port] w (bdC (bindV (ofOut proto s port) xs s)):=by
 have hR:∀ W,Below w.heap.size w W→Cb 47 #[.slice a xs.length cap,.func (.func 48) #[] #[],.agg (EnV proto s port).toArray] W (bdC (bindV (ofOut proto s port) xs s)):=fun W hW=>by
  have h:=firstBind_any lentE 48 (fun args W=>by kernel_rfl) ⟨proto,s,port⟩ xs a cap W (fun q W=>lentEnd_any q W) hin (hr.below hW);rw [show (fun q=>sameEn (lentE q) ⟨proto,s,port⟩)=ofOut proto s port from funext fun q=>lent_out proto s port q] at h;exact h
 have HR:Hid _:=hR;have HB:Hid (Below w.heap.size w ((aW w [.slice a xs.length cap,sv] 31).alloc (.cells (BdR 0 ⟨#[]⟩ 0 ⟨#[]⟩ 0).toArray 48))):=(bR.alloc lR _).alloc (by simp) _;have HK:Hid (HoldsL ((aW w [.slice a xs.length cap,sv] 31).alloc (.cells (BdR 0 ⟨#[]⟩ 0 ⟨#[]⟩ 0).toArray 48)) w.heap.size [.slice a xs.length cap,sv]):=(HoldsL.new w _ _).alloc _;have HK3:Hid (HoldsL ((aW w [.slice a xs.length cap,sv] 31).alloc (.cells (BdR 0 ⟨#[]⟩ 0 ⟨#[]⟩ 0).toArray 48)) (w.heap.size+1) (BdR 0 ⟨#[]⟩ 0 ⟨#[]⟩ 0)):=by
  have h:=HoldsL.new (w.alloc (.cells #[.slice a xs.length cap,sv] 31)) (BdR 0 ⟨#[]⟩ 0 ⟨#[]⟩ 0) 48;rw [World.size_alloc] at h; exact h
 generalize bindV (ofOut proto s port) xs s=ans at *;unfold bdC at HR;clear hin hr hR;go_enter Tryz.func20,Tryz.ntmps20
 go_upto_region 1 with fail
 generalize World.alloc _ _=W at *;have k0:=HK.out.cell (j:=0) rfl;go_wp2_with fail
 refine (HR.out _ HB.out).mono ?_;rintro e w1 ⟨rfl,q1⟩;have B1:Hid _:=HB.out.trans (q1.mono HB.out.size);have K3:Hid _:=HK3.out.kept (by simp) q1;have hRw:w.heap.size≤w.heap.size+1:=by omega
 obtain ⟨y0,y1,y2,y3,y4⟩:=K3.out.f5;obtain ⟨z0,z1,z2,z3,z4⟩:=K3.out.c5;clear q1 k0 HK HK3 HB HR;go_wp2_with fail
 refine bodyPost_ret (v:=.agg (BdV ans).toArray) (by simp [results,Tryz.results20,go_sem,z0,z1,z2,z3,z4]) rfl ⟨rfl,?_⟩;exact (((((B1.out.setCell (p:=⟨w.heap.size+1,0,none⟩) hRw _).setCell (p:=⟨w.heap.size+1,1,none⟩) hRw _).setCell (p:=⟨w.heap.size+1,2,none⟩) hRw _).setCell (p:=⟨w.heap.size+1,3,none⟩) hRw _).setCell (p:=⟨w.heap.size+1,4,none⟩) hRw _)
end Go.Proofs.YtdkepkaflielhaaGreatDoor
