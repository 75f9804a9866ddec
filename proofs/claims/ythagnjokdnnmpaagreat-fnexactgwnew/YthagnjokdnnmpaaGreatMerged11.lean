import Derived.Test.YthagnjokdnnmpaaGreatMerged10
import Derived.Shelf.LaysM
import Derived.Shelf.Strconv.Clone
import Derived.Test.YthagnjokdnnmpaaGreatProg
import Derived.Test.YthagnjokdnnmpaaGreatMerged2
import Derived.Test.YthagnjokdnnmpaaGreatMerged1
import Derived.Test.YthagnjokdnnmpaaGreatMerged5
import Derived.BigQuiet
import Derived.Deep.DeepCutAuto
import Derived.Test.YthagnjokdnnmpaaGreatMerged6
set_option linter.unusedVariables false
set_option linter.unusedSimpArgs false
set_option maxRecDepth 100000
set_option maxHeartbeats 8000000
namespace Go.Proofs.YthagnjokdnnmpaaGreat
open Go.RowKit
theorem upN_iff {α:Type} {f:List α→α→Bool} {xs:List α}:upN f xs xs.length=true↔∀ i (h:i < xs.length),f (xs.take i) xs[i]=true:=by
 constructor
 ·intro h i hi
  cases hf:f (xs.take i) xs[i] with
  | true=>rfl
  | false=>rw [upN_at hi hf] at h; exact h
 ·intro h;have key:∀ n,n≤xs.length→upN f xs n=true:=by
   intro n;induction n with
   | zero=>intro _; rfl
   | succ n ih=>intro hn; rw [upN_step (by omega),ih (by omega),h n (by omega)]; rfl
  exact key _ (Nat.le_refl _)
theorem findI_any {α:Type} (f:α→Bool) (xs:List α):decide (0≤findI f xs)=xs.any f:=by
 unfold findI
 cases h:xs.findIdx? f with
 | none =>
  have h2:=List.findIdx?_eq_none_iff.1 h;have:xs.any f=false:=by rw [List.any_eq_false]; intro x hx; simp [h2 x hx]
  rw [this]; rfl
 | some i =>
  obtain ⟨hi,hfi,_⟩:=List.findIdx?_eq_some_iff_getElem.1 h;have:xs.any f=true:=List.any_eq_true.2 ⟨_,List.getElem_mem hi,hfi⟩;rw [this]; simp
theorem mem_take {α:Type} {xs:List α} {i:Nat} {c:α} (h:c∈xs.take i):∃ k,∃ hk:k < xs.length,k < i∧xs[k]=c:=by
 obtain ⟨k,hk,rfl⟩:=List.getElem_of_mem h;rw [List.length_take] at hk;exact ⟨k,by omega,by omega,by simp⟩
theorem take_mem {α:Type} {xs:List α} {i k:Nat} (hk:k < xs.length) (hi:k < i):xs[k]∈xs.take i:=by
 rw [List.mem_iff_getElem];exact ⟨k,by simp; omega,by simp⟩
def fitB (p:Pl) (b:Bb) (ys:List Bd) (x:Bd):Bool:=protoB x.proto&&addrOk x.inn&&isW x.inPort&&inL p.addrs x.out&&isIn x.outPort p.low p.high&&!(ys.any (ofIn x.proto x.inn x.inPort))&&!(ys.any (ofOut x.proto x.out x.outPort))&&decide ((outIn b.binds ⟨#[]⟩ x.inn).toList=x.out.toList)&&b.sess.any (hasS x)
def sessR (s:Ss):Bool:=decide (s.peer.size=4)&&isW s.peerPort&&isIn s.state 1 7&&(decide (s.state=3)||!stillP s.proto)&&isIn s.untl 0 2000000000
def sessB (b:Bb) (ys:List Ss) (s:Ss):Bool:=b.binds.any (ofIn s.proto s.inn s.inPort)&&sessR s&&!(ys.any fun t=>sameS s t)
def bookOk (p:Pl) (b:Bb):Bool:=poolOk p&&decide ((b.sess.length:Int)≤p.most)&&decide (b.binds.length≤b.sess.length)&&upN (fitB p b) b.binds b.binds.length&&upN (sessB b) b.sess b.sess.length
theorem pool_most {p:Pl} (h:poolOk p=true):1≤p.most∧p.most≤60:=by
 unfold poolOk at h; simp only [Bool.and_eq_true] at h; exact isIn_parts h.1.1.1.2
theorem nodup_le {α:Type} [DecidableEq α]:∀ {xs ys:List α},xs.Nodup→(∀ x∈xs,x∈ys)→xs.length≤ys.length
 | [],ys,_,_=>Nat.zero_le _
 | x::xs,ys,hn,hs=>by
  have hx:x∈ys:=hs x (by simp);have h1:=nodup_le (xs:=xs) (ys:=ys.erase x) (List.nodup_cons.1 hn).2 (fun y hy=>by
   have hne:y≠x:=fun e=>by subst e; exact (List.nodup_cons.1 hn).1 hy
   exact (List.mem_erase_of_ne hne).2 (hs y (by simp [hy])))
  rw [List.length_erase_of_mem hx] at h1;have:0 < ys.length:=List.length_pos_of_mem hx;simp; omega
def keyB (x:Bd):Int × List UInt8 × Int:=(x.proto,x.inn.toList,x.inPort)
def keyS (s:Ss):Int × List UInt8 × Int:=(s.proto,s.inn.toList,s.inPort)
theorem keyB_of {x:Bd} {s:Ss} (h:hasS x s=true):keyB x=keyS s:=by
 unfold hasS at h; simp only [Bool.and_eq_true,decide_eq_true_iff] at h;unfold keyB keyS; rw [h.1.1,h.1.2,h.2]
theorem clash_in {c b:Bd} (h:ofIn b.proto b.inn b.inPort c=true):clashB c b=true:=by
 unfold ofIn at h; simp only [Bool.and_eq_true,decide_eq_true_iff] at h;unfold clashB; simp [h.1.1,h.1.2,h.2]
theorem clash_out {c b:Bd} (h:ofOut b.proto b.out b.outPort c=true):clashB c b=true:=by
 unfold ofOut at h; simp only [Bool.and_eq_true,decide_eq_true_iff] at h;unfold clashB; simp [h.1.1,h.1.2,h.2]
theorem clash_host {c b:Bd} (h:c.inn.toList=b.inn.toList) (hc:clashB c b=false):c.out.toList=b.out.toList:=by
 unfold clashB at hc; simp only [Bool.or_eq_false_iff] at hc;have:=hc.1;simp [h] at this; exact this
theorem outIn_host {xs:List Bd} {d a b:ByteArray} (h:a.toList=b.toList):outIn xs d a=outIn xs d b:=by
 have:ofHost a=ofHost b:=by funext c; unfold ofHost; rw [h]
 unfold outIn; rw [this]
theorem binds_le {b:Bb} {p:Pl} (hB:∀ i (h:i < b.binds.length),bindOne p (b.binds.take i) b.binds[i]=true) (hA:∀ x∈b.binds,b.sess.any (fun s=>hasS x s)=true):b.binds.length≤b.sess.length:=by
 have h:=nodup_le (xs:=b.binds.map keyB) (ys:=b.sess.map keyS) ?_ ?_
 ·simpa using h
 ·rw [List.nodup_iff_pairwise_ne,List.pairwise_map,List.pairwise_iff_getElem];intro i j hi hj hij e;have h1:=hB j hj;unfold bindOne at h1; simp only [Bool.and_eq_true,Bool.not_eq_true'] at h1;have h2:=List.any_eq_false.1 h1.2 b.binds[i] (take_mem hi hij);unfold keyB at e;simp only [Prod.mk.injEq] at e;exact h2 (clash_in (by unfold ofIn; simp [e.1,e.2.1,e.2.2]))
 ·intro k hk;obtain ⟨x,hx,rfl⟩:=List.mem_map.1 hk;obtain ⟨s,hs,hh⟩:=List.any_eq_true.1 (hA x hx);exact List.mem_map.2 ⟨s,hs,(keyB_of hh).symm⟩
theorem book_bib (p:Pl) (b:Bb):bookOk p b=bibOk p b:=by
 rw [Bool.eq_iff_iff];constructor
 ·intro h;unfold bookOk at h;simp only [Bool.and_eq_true,decide_eq_true_iff] at h;obtain ⟨⟨⟨⟨hP,hs⟩,hl⟩,hF0⟩,hS0⟩:=h;have hF:=upN_iff.1 hF0;have hS:=upN_iff.1 hS0;have hm:=pool_most hP;have F1:∀ i (h:i < b.binds.length),bindOne p (b.binds.take i) b.binds[i]=true:=by
   intro i hi;have hf:=hF i hi;unfold fitB at hf;simp only [Bool.and_eq_true,decide_eq_true_iff,Bool.not_eq_true'] at hf;obtain ⟨⟨⟨⟨⟨⟨⟨⟨f1,f2⟩,f3⟩,f4⟩,f5⟩,f6⟩,f7⟩,f8⟩,f9⟩:=hf;unfold bindOne;simp only [Bool.and_eq_true,Bool.not_eq_true'];refine ⟨⟨⟨⟨⟨f1,f2⟩,f3⟩,f4⟩,f5⟩,?_⟩;rw [List.any_eq_false];intro c hc hcl;obtain ⟨k,hk,hki,rfl⟩:=mem_take hc;unfold clashB at hcl;simp only [Bool.or_eq_true,Bool.and_eq_true,decide_eq_true_iff,Bool.not_eq_true',decide_eq_false_iff_not] at hcl;rcases hcl with ⟨e1,e2⟩ | ⟨e1,⟨e2,e3⟩ | ⟨e2,e3⟩⟩
   ·have hg:=hF k hk;unfold fitB at hg;simp only [Bool.and_eq_true,decide_eq_true_iff] at hg;have g8:=hg.1.2;rw [outIn_host e1] at g8;exact e2 (g8.symm.trans f8)
   ·exact List.any_eq_false.1 f6 _ hc (by unfold ofIn; simp [e1,e2,e3])
   ·exact List.any_eq_false.1 f7 _ hc (by unfold ofOut; simp [e1,e2,e3])
  unfold bibOk;simp only [Bool.and_eq_true,decide_eq_true_iff,List.all_eq_true];refine ⟨⟨⟨⟨⟨hP,hs⟩,by omega⟩,upN_iff.2 F1⟩,upN_iff.2 ?_⟩,?_⟩
  ·intro i hi;have hq:=hS i hi;unfold sessB at hq;simp only [Bool.and_eq_true,Bool.not_eq_true'] at hq;obtain ⟨⟨q1,q2⟩,q3⟩:=hq;unfold sessR at q2;simp only [Bool.and_eq_true,decide_eq_true_iff,Bool.or_eq_true] at q2;obtain ⟨⟨⟨⟨r1,r2⟩,r3⟩,r4⟩,r5⟩:=q2;unfold sessOne;simp only [Bool.and_eq_true,decide_eq_true_iff,Bool.not_eq_true',Bool.or_eq_true];refine ⟨⟨⟨⟨⟨⟨r1,r2⟩,r3⟩,?_⟩,r5⟩,?_⟩,q3⟩
   ·rcases r4 with r4 | r4
    ·exact .inr r4
    ·obtain ⟨x,hx,hox⟩:=List.any_eq_true.1 q1;obtain ⟨j,hj,rfl⟩:=List.getElem_of_mem hx;have f1:=F1 j hj;unfold bindOne at f1;simp only [Bool.and_eq_true] at f1;have f2:=f1.1.1.1.1.1;unfold ofIn at hox;simp only [Bool.and_eq_true,decide_eq_true_iff] at hox;rw [hox.1.1] at f2;unfold protoB at f2;unfold stillP at r4;simp at f2 r4;rcases f2 with (f2 | f2) | f2
     ·exact .inl f2
     ·exact absurd f2 r4.1
     ·exact absurd f2 r4.2
   ·have:=findI_any (ofIn b.sess[i].proto b.sess[i].inn b.sess[i].inPort) b.binds;rw [q1] at this; simpa using this
  ·intro x hx;obtain ⟨j,hj,rfl⟩:=List.getElem_of_mem hx;have hf:=hF j hj;unfold fitB at hf;simp only [Bool.and_eq_true] at hf;exact hf.2
 ·intro h;unfold bibOk at h;simp only [Bool.and_eq_true,decide_eq_true_iff,List.all_eq_true] at h;obtain ⟨⟨⟨⟨⟨hP,hs⟩,h60⟩,hB0⟩,hS0⟩,hA⟩:=h;have hB:=upN_iff.1 hB0;have hS:=upN_iff.1 hS0;unfold bookOk;simp only [Bool.and_eq_true,decide_eq_true_iff];refine ⟨⟨⟨⟨hP,hs⟩,binds_le hB hA⟩,upN_iff.2 ?_⟩,upN_iff.2 ?_⟩
  ·intro i hi;have h1:=hB i hi;unfold bindOne at h1;simp only [Bool.and_eq_true,Bool.not_eq_true'] at h1;obtain ⟨⟨⟨⟨⟨f1,f2⟩,f3⟩,f4⟩,f5⟩,f6⟩:=h1;unfold fitB;simp only [Bool.and_eq_true,decide_eq_true_iff,Bool.not_eq_true'];refine ⟨⟨⟨⟨⟨⟨⟨⟨f1,f2⟩,f3⟩,f4⟩,f5⟩,?_⟩,?_⟩,?_⟩,hA _ (List.getElem_mem hi)⟩
   ·rw [List.any_eq_false];intro c hc ho;exact List.any_eq_false.1 f6 c hc (clash_in ho)
   ·rw [List.any_eq_false];intro c hc ho;exact List.any_eq_false.1 f6 c hc (clash_out ho)
   ·unfold outIn
    cases hfd:b.binds.find? (ofHost b.binds[i].inn) with
    | none =>
     have:=List.find?_eq_none.1 hfd b.binds[i] (List.getElem_mem hi);exact absurd (by unfold ofHost; simp) this
    | some c =>
     obtain ⟨hc1,k,hk,hkc,hlt⟩:=List.find?_eq_some_iff_getElem.1 hfd;have hki:k≤i:=by
      rcases Nat.lt_or_ge i k with h2 | h2
      ·have:=hlt i h2;exact absurd this (by unfold ofHost; simp)
      ·exact h2
     rcases Nat.lt_or_ge k i with h2 | h2
     ·have hcl:=List.any_eq_false.1 f6 b.binds[k] (take_mem hk h2);rw [hkc] at hcl;unfold ofHost at hc1;exact clash_host (of_decide_eq_true hc1) (by simpa using hcl)
     ·have:k=i:=by omega
      subst this;rw [hkc]
  ·intro i hi;have hq:=hS i hi;unfold sessOne at hq;simp only [Bool.and_eq_true,decide_eq_true_iff,Bool.not_eq_true',Bool.or_eq_true] at hq;obtain ⟨⟨⟨⟨⟨⟨r1,r2⟩,r3⟩,r4⟩,r5⟩,r6⟩,r7⟩:=hq;unfold sessB;simp only [Bool.and_eq_true,Bool.not_eq_true'];refine ⟨⟨?_,?_⟩,r7⟩
   ·rw [← findI_any]; exact decide_eq_true r6
   ·unfold sessR;simp only [Bool.and_eq_true,decide_eq_true_iff,Bool.or_eq_true];refine ⟨⟨⟨⟨r1,r2⟩,r3⟩,?_⟩,r5⟩;rcases r4 with r4 | r4
    ·right; rw [r4]; rfl
    ·exact .inl r4
end Go.Proofs.YthagnjokdnnmpaaGreat
namespace Go.Proofs
open Go.Shelf
def Tryz.laysM316_ren:Go.Shelf.Ren:=⟨fun | 316=>111 | n=>n,fun | 9=>9 | 3=>3 | 4=>4 | 37=>22 | 0=>0 | 127=>186 | 5=>5 | n=>n,fun | n=>n⟩
theorem Tryz.laysM316:Go.Proofs.LaysM.n316 Tryz.prog Tryz.laysM316_ren:={
 mixed:=by kernel_rfl
 f316:=Tryz.func111.trans (congrArg some (by kernel_rfl))
 t0:=Tryz.underlying0
 a0:=Tryz.isAgg0
 z0:=Tryz.sizeOf0
 v0:=Tryz.zeroValue0
 t3:=Tryz.underlying3
 a3:=Tryz.isAgg3
 z3:=Tryz.sizeOf3
 v3:=Tryz.zeroValue3
 t4:=Tryz.underlying4
 a4:=Tryz.isAgg4
 z4:=Tryz.sizeOf4
 v4:=Tryz.zeroValue4
 t9:=Tryz.underlying9
 a9:=Tryz.isAgg9
 z9:=Tryz.sizeOf9
 v9:=Tryz.zeroValue9
 t37:=Tryz.underlying22
 a37:=Tryz.isAgg22
 z37:=Tryz.sizeOf22
 v37:=Tryz.zeroValue22
 t127:=Tryz.underlying186
 a127:=Tryz.isAgg186
 z127:=Tryz.sizeOf186
 v127:=Tryz.zeroValue186
 t5:=Tryz.underlying5
 a5:=Tryz.isAgg5
 z5:=Tryz.sizeOf5
 v5:=Tryz.zeroValue5
 i0:=by kernel_rfl
 i3:=by kernel_rfl
 i4:=by kernel_rfl
 i5:=by kernel_rfl
 i9:=by kernel_rfl
 i37:=by kernel_rfl
 i127:=by kernel_rfl }
open Go.RowKit in
theorem Tryz.stringslite_Clone (s:ByteArray) (w:World) (hlim:s.size≤281474976710656) :
  Calls Tryz.prog 111 #[.string s] w fun e w'=>e=.returned (.string s)∧Below w.heap.size w w':=Any.stringslite_Clone Tryz.laysM316 s w hlim
end Go.Proofs
namespace Go.Proofs.YthagnjokdnnmpaaGreat
open Go.RowKit Go.PlainAid
theorem implAddrRight_any (s:ByteArray) (w:World) :
  Calls Tryz.prog 117 #[.string s] w fun e w'=>e=.returned (.bool (addrOk s))∧w'=w:=by
 by_cases h4:s.size=4
 ·have HV:Hid (addrOk s=true):=addrOk_yes (.inl h4);have h4':(s.size:Int)=4:=by omega
  clear h4;go_enter Tryz.func117,Tryz.ntmps117
  go_wp2
  go_ret;exact ⟨ret_bool HV.out.symm,rfl⟩
 ·by_cases h16:s.size=16
  ·have HV:Hid (addrOk s=true):=addrOk_yes (.inr h16);have h16':(s.size:Int)=16:=by omega
   clear h16 h4;go_enter Tryz.func117,Tryz.ntmps117
   go_wp2
   go_ret;exact ⟨ret_bool HV.out.symm,rfl⟩
  ·have HV:Hid (addrOk s=false):=addrOk_no (by omega);have e1:((s.size:Int)==4)=false:=by simp; omega
   have e2:((s.size:Int)==16)=false:=by simp; omega
   go_enter Tryz.func117,Tryz.ntmps117
   go_wp2
   go_ret;exact ⟨ret_bool HV.out.symm,rfl⟩
theorem implBits_any (s:ByteArray) (w:World) (hs:s.size≤1048576) :
  Calls Tryz.prog 118 #[.string s] w fun e w'=>e=.returned (.int .i64 (8*(s.size:Int)))∧w'=w:=by
 go_enter Tryz.func118,Tryz.ntmps118
 go_wp2
 go_ret;exact ⟨rfl,rfl⟩
open Go.ChangeShapes Go.WideShapes
structure BoxFlow (w:World) (B:Nat) (p:Fl):Prop where
 c0:w.cell? ⟨B,0,none⟩=some (.int .i64 p.proto)
 c1:w.cell? ⟨B,1,none⟩=some (.string p.src)
 c2:w.cell? ⟨B,2,none⟩=some (.string p.dst)
 c3:w.cell? ⟨B,3,none⟩=some (.int .i64 p.sp)
 c4:w.cell? ⟨B,4,none⟩=some (.int .i64 p.dp)
theorem BoxFlow.kept {w W:World} {B:Nat} {p:Fl} (h:BoxFlow w B p) (hB:Below w.heap.size w W):BoxFlow W B p:=by
 have hb:=World.block_lt_of_cell? w _ h.c0;exact ⟨((bcell hB).1 B 0 hb).trans h.c0,((bcell hB).1 B 1 hb).trans h.c1,((bcell hB).1 B 2 hb).trans h.c2,((bcell hB).1 B 3 hb).trans h.c3,((bcell hB).1 B 4 hb).trans h.c4⟩
theorem BoxFlow.new (w:World) (p:Fl) {t:TypeId}:BoxFlow (w.alloc (.cells #[.int .i64 p.proto,.string p.src,.string p.dst,.int .i64 p.sp,.int .i64 p.dp] t)) w.heap.size p:=⟨cell_new rfl,cell_new rfl,cell_new rfl,cell_new rfl,cell_new rfl⟩
end Go.Proofs.YthagnjokdnnmpaaGreat
namespace Go.Proofs.YthagnjokdnnmpaaGreat
open Go.RowKit Go.ChangeShapes
section
variable {P:Program} {ops:Array Oper} {Q:Exit→Act→World→Prop} {ds:List Tmp} {R:Nat→Value→World→Prop} {a0:Act} {w0:World}
def wpSeq (P:Program) (Q:Exit→Act→World→Prop):List Oper→Act→World→Prop
 | [],a,w=>Q .normal a w
 | o::l,a,w=>∀ K':Act→World→Prop,(∀ a' w',wpSeq P Q l a' w'→K' a' w')→Oper.wp P o a w K' Q
structure GFormV (ops:Array Oper) (ds:List Tmp) (n:Nat):Prop where
 le:ds.length < ops.size
 dst:∀ i o,i < ds.length→ops[i]?=some o→o.dst=some (ds.getD i 0)
 nodup:ds.Nodup
 fits:∀ d∈ds,d < n
 topo:∀ i o,ops[i]?=some o→∀ e∈o.after,Region.binds .any e=true→e.on < i
 sguard:∀ i o,ds.length≤i→ops[i]?=some o→o.guard=none
 swait:∀ i o,ds.length < i→ops[i]?=some o→∃ e∈o.after,Region.binds .any e=true∧e.on=i-1
 lall:∀ j,j < ds.length→∃ i o,j < i∧i≤ds.length∧ops[i]?=some o∧∃ e∈o.after,Region.binds .any e=true∧e.on=j
def gformV (ops:Array Oper) (ds:List Tmp) (n:Nat):Bool :=
 decide (ds.length < ops.size)&&(List.range ops.size).all (fun i=>match ops[i]? with
  | some o=>o.after.all (fun e=>!Region.binds .any e||decide (e.on < i))&&(if i < ds.length then (match o.dst with | some d=>d==ds.getD i 0 | none=>false) else o.guard.isNone)&&(if ds.length < i then o.after.any (fun e=>Region.binds .any e&&e.on==i-1) else true)
  | none=>true)&&decide ds.Nodup&&ds.all (fun d=>decide (d < n)) &&
 (List.range ds.length).all (fun j=>(List.range (ds.length+1)).any (fun i=>decide (j < i)&&match ops[i]? with | some o=>o.after.any (fun e=>Region.binds .any e&&e.on==j) | none=>false))
theorem GFormV.of {n:Nat} (h:gformV ops ds n=true):GFormV ops ds n:=by
 unfold gformV at h;simp only [Bool.and_eq_true,decide_eq_true_iff,List.all_eq_true,List.mem_range] at h;obtain ⟨⟨⟨⟨h1,h2⟩,h3⟩,h4⟩,h5⟩:=h;have hb:∀ i o,ops[i]?=some o→i < ops.size:=fun i o ho=>(Array.getElem?_eq_some_iff.1 ho).1
 refine ⟨h1,fun i o hi ho=>?_,h3,h4,fun i o ho e he hbd=>?_,fun i o hi ho=>?_,fun i o hi ho=>?_,fun j hj=>?_⟩
 ·have:=h2 i (hb i o ho);rw [ho] at this;simp only [Bool.and_eq_true,if_pos hi] at this;have t1:=this.1.2
  cases hd:o.dst with
  | none=>rw [hd] at t1; simp at t1
  | some d=>rw [hd] at t1; simp at t1; rw [t1]; simp
 ·have:=h2 i (hb i o ho);rw [ho] at this;simp only [Bool.and_eq_true] at this;have:=Array.all_eq_true_iff_forall_mem.1 this.1.1 e he;simp [hbd] at this;exact this
 ·have:=h2 i (hb i o ho);rw [ho] at this;simp only [Bool.and_eq_true,if_neg (show ¬ i < ds.length by omega)] at this;simpa using this.1.2
 ·have:=h2 i (hb i o ho);rw [ho] at this;simp only [Bool.and_eq_true,if_pos hi] at this;obtain ⟨e,he,hbd⟩:=Array.any_eq_true'.1 this.2;simp only [Bool.and_eq_true,beq_iff_eq] at hbd;exact ⟨e,he,hbd.1,hbd.2⟩
 ·obtain ⟨i,hi,hh⟩:=List.any_eq_true.1 (h5 j hj);simp only [Bool.and_eq_true,decide_eq_true_iff] at hh
  cases ho:ops[i]? with
  | none=>rw [ho] at hh; simp at hh
  | some o =>
   rw [ho] at hh;obtain ⟨e,he,hbd⟩:=Array.any_eq_true'.1 hh.2;simp only [Bool.and_eq_true,beq_iff_eq] at hbd;exact ⟨i,o,hh.1,by have:=List.mem_range.1 hi; omega,ho,e,he,hbd.1,hbd.2⟩
theorem wpAny_seq (hF:GFormV ops ds a0.tmps.size):∀ (fuel m:Nat) (listed:Array Bool) (a:Act) (w:World),ds.length≤m→m≤ops.size→listed.size=ops.size→(∀ j,j < ops.size→(listed.getD j false=true↔j < m))→ops.size-m≤fuel→wpSeq P Q (ops.toList.drop m) a w→wpAny P .any ops Q fuel listed a w:=by
 have nil:∀ (m:Nat) (listed:Array Bool),listed.size=ops.size→(∀ j,j < ops.size→(listed.getD j false=true↔j < m))→ops.size≤m→Region.ready .any ops listed=[]:=by
  intro m listed hsz hl hm;rw [List.eq_nil_iff_forall_not_mem];intro i hi;rw [mem_ready] at hi;obtain ⟨h0,o,ho,_⟩:=hi;have hio:=(Array.getElem?_eq_some_iff.1 ho).1;have:=(hl i hio).2 (by omega);have hs:i < listed.size:=by omega
  simp [hs] at h0 this;rw [h0] at this;simp at this
 intro fuel;induction fuel with
 | zero =>
  intro m listed a w hn hm hsz hl hf hq;have hme:m=ops.size:=by omega
  subst hme;rw [List.drop_of_length_le (by simp)] at hq;exact ⟨nil _ _ hsz hl (Nat.le_refl _),hq⟩
 | succ fuel ih =>
  intro m listed a w hn hm hsz hl hf hq;by_cases hme:m=ops.size
  ·subst hme;rw [List.drop_of_length_le (by simp)] at hq;exact wpAny_done (nil _ _ hsz hl (Nat.le_refl _)) hq (fuel+1)
  ·have hmo:m < ops.size:=by omega
   have hom:ops[m]?=some ops[m]:=by simp [hmo]
   have hunl:∀ j,j < ops.size→m≤j→listed.getD j true=false:=fun j hj hmj=>by
    have hs:j < listed.size:=by omega
    have:=mt (hl j hj).1 (by omega);simp [hs] at this ⊢;exact this
   refine ⟨fun hr=>?_,fun i hi=>?_⟩
   ·exfalso
    have hmem:m∈Region.ready .any ops listed:=by
     rw [mem_ready];exact ⟨hunl m hmo (Nat.le_refl _),ops[m],hom,fun e he hb=>(hl _ (by have:=hF.topo m _ hom e he hb; omega)).2 (hF.topo m _ hom e he hb)⟩
    rw [hr] at hmem;simp at hmem
   ·rw [mem_ready] at hi;obtain ⟨h0,o,ho,hdeps⟩:=hi;have hio:=(Array.getElem?_eq_some_iff.1 ho).1;have him:m≤i:=by
     by_cases e:i < m
     ·exfalso
      have:=(hl i hio).2 e;have hs:i < listed.size:=by omega
      simp [hs] at h0 this;rw [h0] at this;simp at this
     ·omega
    have hie:i=m:=by
     by_cases e:i=m
     ·exact e
     ·exfalso
      obtain ⟨e1,he,hb,hon⟩:=hF.swait i o (by omega) ho;have:=(hl e1.on (by omega)).1 (hdeps e1 he hb);omega
    subst hie;obtain rfl:ops[i]=o:=by rw [hom] at ho; exact Option.some.inj ho
    refine wpOp_step ho (fun K' hK=>?_);rw [if_pos (by unfold Region.wanted; rw [hF.sguard i _ hn ho])];rw [List.drop_eq_getElem_cons (by simpa using hmo)] at hq;refine hq K' (fun a' w' h'=>hK _ _ ?_);refine ih (i+1) _ a' w' (by omega) (by omega) (by simp [hsz]) (fun j hj=>?_) (by omega) h';by_cases e:i=j
    ·subst e;have hs:i < listed.size:=by omega
     simp [hs]
    ·rw [getD_set_ne false e,hl j hj];omega
theorem wpAny_growV (hF:GFormV ops ds a0.tmps.size) (hst:∀ i v w w',R i v w→Below w.heap.size w w'→R i v w')
  (hstep:∀ i o,i < ds.length→ops[i]?=some o→GStepG P ops Q ds R a0 w0 i o)
  (hdone:∀ a w,a.tmps.size=a0.tmps.size→a.defers=a0.defers→(∀ t,t ∉ ds→slot a t=slot a0 t)→(∀ i,i < ds.length→R i (slot a (ds.getD i 0)) w)→Below w0.heap.size w0 w→wpSeq P Q (ops.toList.drop ds.length) a w) :
  ∀ (fuel:Nat) (listed:Array Bool) (a:Act) (w:World),unl listed ops.size≤fuel→GInv ops ds R a0 w0 listed a w→(∀ j,j < ops.size→ds.length≤j→listed.getD j false=false)→(∀ i o,ops[i]?=some o→listed.getD i false=true→∀ e∈o.after,Region.binds .any e=true→listed.getD e.on false=true)→wpAny P .any ops Q fuel listed a w:=by
 have ft:∀ (listed:Array Bool) (j:Nat),j < listed.size→(listed.getD j true=listed.getD j false):=fun listed j hj=>by simp [hj]
 intro fuel;induction fuel with
 | zero =>
  intro listed a w hu hI hs hcl;exfalso
  have:=unl_zero (listed:=listed) ops.size (by omega) ds.length hF.le;rw [ft listed _ (by rw [hI.size]; exact hF.le),hs _ hF.le (Nat.le_refl _)] at this;simp at this
 | succ fuel ih =>
  intro listed a w hu hI hs hcl;by_cases hall:∀ j,j < ds.length→listed.getD j false=true
  ·refine wpAny_seq hF (fuel+1) ds.length listed a w (Nat.le_refl _) (Nat.le_of_lt hF.le) hI.size (fun j hj=>⟨fun h=>?_,fun h=>hall j h⟩) ?_ (hdone a w hI.tsize hI.defers hI.outer (fun j hj=>hI.inner j (hall j hj)) hI.below)
   ·by_cases e:j < ds.length
    ·exact e
    ·rw [hs j hj (by omega)] at h; simp at h
   ·refine Nat.le_trans ?_ hu;have key:∀ n,n≤ops.size→n-ds.length≤unl listed n:=by
     intro n;induction n with
     | zero=>intro _; omega
     | succ n ihn =>
      intro hn;have h1:=ihn (by omega);unfold unl;by_cases e:n < ds.length
      ·omega
      ·rw [if_neg (by rw [ft listed n (by rw [hI.size]; omega),hs n (by omega) (by omega)]; simp)];omega
    exact key ops.size (Nat.le_refl _)
  ·refine ⟨fun hr=>?_,fun i hi=>?_⟩
   ·exfalso
    refine hall (fun i=>?_);induction i using Nat.strongRecOn with
    | ind i ih2 =>
     intro hil;have hio:i < ops.size:=Nat.lt_trans hil hF.le;by_cases hh:listed.getD i true=true
     ·rw [ft listed i (by rw [hI.size]; exact hio)] at hh; exact hh
     ·exfalso
      have hmem:i∈Region.ready .any ops listed:=by
       rw [mem_ready];refine ⟨by simpa using hh,ops[i],by simp [hio],fun e he hb=>?_⟩;have hlt:=hF.topo i ops[i] (by simp [hio]) e he hb;exact ih2 _ hlt (by omega)
      rw [hr] at hmem;simp at hmem
   ·rw [mem_ready] at hi;obtain ⟨h0,o,ho,hdeps⟩:=hi;have hio:i < ops.size:=(Array.getElem?_eq_some_iff.1 ho).1;have hil:i < ds.length:=by
     by_cases e:i < ds.length
     ·exact e
     ·exfalso
      by_cases e2:ds.length < i
      ·obtain ⟨e1,he,hb,hon⟩:=hF.swait i o e2 ho;have h1:=hdeps e1 he hb;rw [hs e1.on (by omega) (by omega)] at h1;simp at h1
      ·have hin:i=ds.length:=by omega
       refine hall ?_;have key:∀ d j,ds.length-j≤d→j < ds.length→listed.getD j false=true:=by
        intro d;induction d with
        | zero=>intro j h1 h2; omega
        | succ d ihd =>
         intro j h1 h2;obtain ⟨q,oq,hq1,hq2,hoq,ed,he,hb,hon⟩:=hF.lall j h2;by_cases e3:q=ds.length
         ·subst hin;subst e3;obtain rfl:o=oq:=by rw [ho] at hoq; exact Option.some.inj hoq
          rw [← hon]; exact hdeps ed he hb
         ·rw [← hon]; exact hcl q oq hoq (ihd q (by omega) (by omega)) ed he hb
       exact fun j hj=>key ds.length j (by omega) hj
    have hd:=hF.dst i o hil ho;have hmem:ds.getD i 0∈ds:=by rw [getD_at hil]; exact List.getElem_mem hil
    refine wpOp_step ho (fun K' hK=>?_);refine hstep i o hil ho K' a w hI.outer (fun e he hb=>hI.inner _ (hdeps e he hb)) hI.below (fun v w' hR hB=>hK _ _ ?_);refine ih _ _ _ (by have:=unl_set h0 ops.size hio; omega) ⟨by simp [hI.size],?_,?_,fun t ht=>?_,fun j hj=>?_,hI.below.trans (hB.mono hI.below.size)⟩ (fun j hj hn=>by rw [getD_set_ne false (by omega)]; exact hs j hj hn) ?_
    ·rw [hd]; simp [Act.put,hI.tsize]
    ·rw [hd]; simp [Act.put,hI.defers]
    ·rw [hd,slot_put_ne (show ds.getD i 0≠t from fun e=>ht (e ▸ hmem))]; exact hI.outer t ht
    ·rw [hd];by_cases e:i=j
     ·subst e;rw [slot_put_eq (by rw [hI.tsize]; exact hF.fits _ hmem)];exact hR
     ·rw [getD_set_ne false e] at hj;have hjo:j < ops.size:=by
       rw [← hI.size];rcases Nat.lt_or_ge j listed.size with h' | h'
       ·exact h'
       ·simp [Array.getElem?_eq_none h'] at hj
      have hjl:j < ds.length:=by
       by_cases e2:j < ds.length
       ·exact e2
       ·rw [hs j hjo (by omega)] at hj; simp at hj
      rw [slot_put_ne (nodup_ne hF.nodup hil hjl e)];exact hst _ _ _ _ (hI.inner j hj) hB
    ·have hset:∀ j,listed.getD j false=true→(listed.setIfInBounds i true).getD j false=true:=fun j hj=>by
      by_cases e:i=j
      ·subst e; have hsz:i < listed.size:=by rw [hI.size]; exact hio
       simp [hsz]
      ·rw [getD_set_ne false e]; exact hj
     intro j o' ho' hj e he hb;by_cases hij:i=j
     ·subst hij;obtain rfl:o=o':=by rw [ho] at ho'; exact Option.some.inj ho'
      exact hset _ (hdeps e he hb)
     ·rw [getD_set_ne false hij] at hj;exact hset _ (hcl j o' ho' hj e he hb)
def GChV (P:Program) (ops:Array Oper) (Q:Exit→Act→World→Prop) (ds:List Tmp) (a0:Act) (w0:World) (suf:List Oper):List (Value→World→Prop)→List Oper→Prop
 | Rs,[]=>∀ (X:Nat→Value) w,RAll X w 0 Rs→Below w0.heap.size w0 w→wpSeq P Q suf (putsFrom X a0 0 ds) w
 | Rs,o::l=>∃ r,Stable r∧GStepG P ops Q ds (rAt (Rs++[r])) a0 w0 Rs.length o∧GChV P ops Q ds a0 w0 suf (Rs++[r]) l
theorem GChV.all {suf:List Oper}:∀ (l:List Oper) (Rs:List (Value→World→Prop)),(∀ i o,l[i]?=some o→∀ e∈o.after,Region.binds .any e=true→e.on < Rs.length+i)→(∀ r∈Rs,Stable r)→GChV P ops Q ds a0 w0 suf Rs l →
  ∃ Ss,(Rs++Ss).length=Rs.length+l.length∧(∀ r∈Rs++Ss,Stable r)∧(∀ i o,l[i]?=some o→GStepG P ops Q ds (rAt (Rs++Ss)) a0 w0 (Rs.length+i) o)∧(∀ (X:Nat→Value) w,RAll X w 0 (Rs++Ss)→Below w0.heap.size w0 w→wpSeq P Q suf (putsFrom X a0 0 ds) w)
 | [],Rs,_,hst,h=>⟨[],by simp,by simpa using hst,fun i o ho=>by simp at ho,by rw [List.append_nil]; exact h⟩
 | o::l,Rs,ht,hst,⟨r,hr,hs,hc⟩=>by
  obtain ⟨Ss,h1,h2,h3,h4⟩:=GChV.all l (Rs++[r]) (fun i o' ho e he hb=>by
   have:=ht (i+1) o' (by simpa using ho) e he hb;simp; omega) (fun x hx=>by
   rcases List.mem_append.1 hx with hx | hx
   ·exact hst x hx
   ·simp at hx; subst hx; exact hr) hc
  refine ⟨r::Ss,by simp at h1 ⊢; omega,by simpa using h2,fun i o' ho=>?_,by simpa using h4⟩;have e:Rs++r::Ss=Rs++[r]++Ss:=by simp
  rw [e]
  cases i with
  | zero =>
   simp at ho;subst ho;refine GStepG.congr (ht 0 o rfl) (fun j hj=>?_) hs;exact (rAt_left (by simp; omega)).symm
  | succ i =>
   have:=h3 i o' (by simpa using ho);rwa [show (Rs++[r]).length+i=Rs.length+(i+1) by simp; omega] at this
theorem wp_region_growV {id:Nat} (ds:List Tmp) (hm:P.follows .mixedOrders=true) (hF:gformV ops ds a0.tmps.size=true) (h:GChV P ops Q ds a0 w0.drew (ops.toList.drop ds.length) [] (ops.toList.take ds.length)) :
  (Code.region id ops true).wp P Q a0 w0:=by
 have hG:=GFormV.of hF;have hle:=hG.le;obtain ⟨Ss,h1,h2,h3,h4⟩:=GChV.all (ops.toList.take ds.length) [] (fun i o ho e he hb=>by
  have hi:i < ds.length:=by
   by_cases e2:i < ds.length
   ·exact e2
   ·rw [List.getElem?_eq_none (by simp; omega)] at ho; simp at ho
  rw [List.getElem?_take,if_pos hi] at ho;have:=hG.topo i o (by simpa using ho) e he hb;simpa using this) (fun r hr=>by simp at hr) h
 simp only [List.nil_append,List.length_nil,Nat.zero_add] at h1 h2 h3 h4;have hlen:Ss.length=ds.length:=by rw [h1]; simp; omega
 refine wp_region_any hm (wpAny_growV (w0:=w0.drew) (R:=rAt Ss) hG (fun i v w w' h hb=>?_) (fun i o hi ho=>?_) (fun a w g1 g2 g3 g4 g5=>?_) ops.size _ a0 w0.drew (unl_le _ _) ⟨by simp,rfl,rfl,fun _ _=>rfl,fun i hi=>?_,Below.refl _ _⟩ (fun j hj _=>by simp [hj]) (fun i o ho hi=>?_))
 ·unfold rAt at *;by_cases hi:i < Ss.length
  ·have e:Ss.getD i (fun _ _=>True)=Ss[i]:=by simp [hi]
   rw [e] at h ⊢;exact h2 _ (List.getElem_mem hi) v w w' h hb
  ·have e:Ss.getD i (fun _ _=>True)=fun _ _=>True:=by simp [Nat.le_of_not_lt hi]
   rw [e]; trivial
 ·exact h3 i o (by rw [List.getElem?_take,if_pos hi]; simpa using ho)
 ·have hp:putsFrom (fun i=>slot a (ds.getD i 0)) a0 0 ds=a:=puts_eq ds a0 0 g1.symm g2.symm (fun i _=>by rw [Nat.zero_add]) (fun t ht=>(g3 t ht).symm) (fun d hd=>by rw [g1]; exact hG.fits d hd);rw [← hp];exact h4 (fun i=>slot a (ds.getD i 0)) w (RAll.mk Ss 0 (fun i hi=>by rw [Nat.zero_add]; exact g4 i (by omega))) g5
 ·exfalso
  by_cases h:i < ops.size
  ·simp [h] at hi
  ·simp [h] at hi
 ·exfalso
  by_cases h:i < ops.size
  ·simp [h] at hi
  ·simp [h] at hi
theorem GChV.val {suf:List Oper} {Rs:List (Value→World→Prop)} {n:Nat} {o:Oper} {l:List Oper} (Rs':Value→List (Value→World→Prop)) (hR:∀ v,Rs' v=Rs++[IsV v]) (hn:Rs.length=n) (h:∃ v,GStepG P ops Q ds (rAt (Rs' v)) a0 w0 n o∧GChV P ops Q ds a0 w0 suf (Rs' v) l):GChV P ops Q ds a0 w0 suf Rs (o::l):=by
 obtain ⟨v,h1,h2⟩:=h;rw [hR] at h1 h2;subst hn;exact ⟨IsV v,stable_isV v,h1,h2⟩
theorem GChV.rel {suf:List Oper} {Rs:List (Value→World→Prop)} {n:Nat} {o:Oper} {l:List Oper} (r:Value→World→Prop) (hr:Stable r) (Rs':List (Value→World→Prop)) (hR:Rs'=Rs++[r]) (hn:Rs.length=n) (h1:GStepG P ops Q ds (rAt Rs') a0 w0 n o) (h2:GChV P ops Q ds a0 w0 suf Rs' l):GChV P ops Q ds a0 w0 suf Rs (o::l):=by
 subst hR hn;exact ⟨r,hr,h1,h2⟩
theorem GChV.vv {suf:List Oper} {Rs Rs':List (Value→World→Prop)} {n:Nat} {o:Oper} {l:List Oper} {v:Value} (hR:Rs'=Rs++[IsV v]) (hn:Rs.length=n) (hg:o.guard=none) (h1:GW P Q ds Rs' a0 w0 n o) (h2:GChV P ops Q ds a0 w0 suf Rs' l):GChV P ops Q ds a0 w0 suf Rs (o::l):=by
 subst hR hn;exact ⟨IsV v,stable_isV v,h1.step hg,h2⟩
variable {R0 R1 R2 R3 R4 R5 R6 R7 R8 R9 R10 R11 R12 R13 R14 R15 R16 R17 R18 R19 R20 R21 R22 R23 R24 R25 R26 R27 R28 R29 R30 R31 R32 R33 R34 R35 R36 R37 R38 R39 R40 R41 R42 R43 R44 R45:Value→World→Prop} {o:Oper} {l suf:List Oper} {v:Value}
theorem GChV.v0 (hg:o.guard=none) (h1:GW P Q ds [IsV v] a0 w0 0 o) (h2:GChV P ops Q ds a0 w0 suf [IsV v] l):GChV P ops Q ds a0 w0 suf [] (o::l):=.vv rfl rfl hg h1 h2
theorem GChV.v1 (hg:o.guard=none) (h1:GW P Q ds [R0,IsV v] a0 w0 1 o) (h2:GChV P ops Q ds a0 w0 suf [R0,IsV v] l):GChV P ops Q ds a0 w0 suf [R0] (o::l):=.vv rfl rfl hg h1 h2
theorem GChV.v2 (hg:o.guard=none) (h1:GW P Q ds [R0,R1,IsV v] a0 w0 2 o) (h2:GChV P ops Q ds a0 w0 suf [R0,R1,IsV v] l):GChV P ops Q ds a0 w0 suf [R0,R1] (o::l):=.vv rfl rfl hg h1 h2
theorem GChV.v3 (hg:o.guard=none) (h1:GW P Q ds [R0,R1,R2,IsV v] a0 w0 3 o) (h2:GChV P ops Q ds a0 w0 suf [R0,R1,R2,IsV v] l):GChV P ops Q ds a0 w0 suf [R0,R1,R2] (o::l):=.vv rfl rfl hg h1 h2
theorem GChV.v4 (hg:o.guard=none) (h1:GW P Q ds [R0,R1,R2,R3,IsV v] a0 w0 4 o) (h2:GChV P ops Q ds a0 w0 suf [R0,R1,R2,R3,IsV v] l):GChV P ops Q ds a0 w0 suf [R0,R1,R2,R3] (o::l):=.vv rfl rfl hg h1 h2
theorem GChV.v5 (hg:o.guard=none) (h1:GW P Q ds [R0,R1,R2,R3,R4,IsV v] a0 w0 5 o) (h2:GChV P ops Q ds a0 w0 suf [R0,R1,R2,R3,R4,IsV v] l):GChV P ops Q ds a0 w0 suf [R0,R1,R2,R3,R4] (o::l):=.vv rfl rfl hg h1 h2
theorem GChV.v6 (hg:o.guard=none) (h1:GW P Q ds [R0,R1,R2,R3,R4,R5,IsV v] a0 w0 6 o) (h2:GChV P ops Q ds a0 w0 suf [R0,R1,R2,R3,R4,R5,IsV v] l):GChV P ops Q ds a0 w0 suf [R0,R1,R2,R3,R4,R5] (o::l):=.vv rfl rfl hg h1 h2
theorem GChV.v13 (hg:o.guard=none) (h1:GW P Q ds [R0,R1,R2,R3,R4,R5,R6,R7,R8,R9,R10,R11,R12,IsV v] a0 w0 13 o) (h2:GChV P ops Q ds a0 w0 suf [R0,R1,R2,R3,R4,R5,R6,R7,R8,R9,R10,R11,R12,IsV v] l):GChV P ops Q ds a0 w0 suf [R0,R1,R2,R3,R4,R5,R6,R7,R8,R9,R10,R11,R12] (o::l):=.vv rfl rfl hg h1 h2
end
end Go.Proofs.YthagnjokdnnmpaaGreat
