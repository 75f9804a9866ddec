import Derived.Test.YtjpdljkjalnmhaaMerged14
import Derived.Test.YtjpdljkjalnmhaaMerged8
import Derived.Test.YtjpdljkjalnmhaaMerged21
import Derived.Test.YtjpdljkjalnmhaaTouchR
import Derived.Test.YtjpdljkjalnmhaaMerged16
import Derived.Test.YtjpdljkjalnmhaaMerged3
import Derived.Test.YtjpdljkjalnmhaaMerged2
import Derived.Test.YtjpdljkjalnmhaaChecked
import Derived.Laws.StructEq
set_option linter.unusedVariables false
set_option linter.unusedSimpArgs false
set_option maxRecDepth 100000
set_option maxHeartbeats 8000000
namespace Go.Proofs.Ytjpdljkjalnmhaa
open Go.RowKit
def bindP (p:Pl) (b:Bd):Bool:=protoB b.proto&&addrOk b.inn&&isW b.inPort&&inL p.addrs b.out&&isIn b.outPort p.low p.high
theorem bind_iff {p:Pl} {xs:List Bd}:(∀ i (h:i < xs.length),bindOne p (xs.take i) xs[i]=true)↔(∀ c∈xs,bindP p c=true)∧xs.Pairwise (fun c b=>clashB c b=false):=by
 have e:∀ ys b,bindOne p ys b=(bindP p b&&!ys.any fun c=>clashB c b):=fun ys b=>rfl
 rw [List.pairwise_iff_getElem];constructor
 ·intro h;refine ⟨fun c hc=>?_,fun i j hi hj hij=>?_⟩
  ·obtain ⟨i,hi,rfl⟩:=List.getElem_of_mem hc;have:=h i hi;rw [e] at this;simp only [Bool.and_eq_true] at this;exact this.1
  ·have:=h j hj;rw [e] at this;simp only [Bool.and_eq_true,Bool.not_eq_true'] at this;have:=List.any_eq_false.1 this.2 xs[i] (take_mem hi hij);simpa using this
 ·rintro ⟨h1,h2⟩ i hi;rw [e];simp only [Bool.and_eq_true,Bool.not_eq_true'];refine ⟨h1 _ (List.getElem_mem hi),?_⟩;rw [List.any_eq_false];intro c hc;obtain ⟨k,hk,hki,rfl⟩:=mem_take hc;rw [h2 k i hk hi hki]; decide
open Go.PlainAid
theorem out_find {p:Pl} {x:Bb} (h:BibR p x) {c:Bd} (hc:c∈x.binds):x.binds.find? (ofOut c.proto c.out c.outPort)=some c:=by
 have hp:=(bind_iff.1 h.bind).2;rw [List.find?_eq_some_iff_append];refine ⟨by unfold ofOut; simp,?_⟩;obtain ⟨us,vs,e⟩:=List.append_of_mem hc;refine ⟨us,vs,e,fun a ha=>?_⟩;rw [e,List.pairwise_append] at hp;have hcl:=hp.2.2 a ha c (List.mem_cons_self);unfold clashB at hcl;unfold ofOut
 cases h1:decide (a.proto=c.proto) with
 | false=>rfl
 | true =>
  rw [h1] at hcl;simp only [Bool.true_and,Bool.or_eq_false_iff] at hcl;simp only [Bool.true_and,hcl.2.2,Bool.not_false]
def outF (xs:List Bd) (inn:ByteArray):ByteArray:=xs.foldl (fun o c=>if ofHost inn c=true then c.out else o) ⟨#[]⟩
def useF (proto:Int) (out:ByteArray) (c:Bd):Bool:=decide (c.proto=proto)&&decide (c.out.toList=out.toList)
def usedF (xs:List Bd) (proto:Int) (out:ByteArray):Nat:=(xs.filter (useF proto out)).length
theorem outF_step {xs:List Bd} {inn:ByteArray} {k:Nat} (h:k < xs.length):outF (xs.take (k+1)) inn=if ofHost inn xs[k]=true then xs[k].out else outF (xs.take k) inn:=by
 unfold outF;rw [List.take_add_one,List.getElem?_eq_getElem h,List.foldl_append]; rfl
theorem usedF_step {xs:List Bd} {proto:Int} {out:ByteArray} {k:Nat} (h:k < xs.length):usedF (xs.take (k+1)) proto out=usedF (xs.take k) proto out+if useF proto out xs[k]=true then 1 else 0:=by
 unfold usedF;rw [List.take_add_one,List.getElem?_eq_getElem h,List.filter_append,List.length_append]
 cases hb:useF proto out xs[k]<;>simp [hb]
theorem ba_list {a b:ByteArray} (h:a.toList=b.toList):a=b:=by
 rw [ByteArray.toList_eq,ByteArray.toList_eq] at h
 cases a; cases b;congr
 exact Array.toList_inj.1 h
theorem foldl_host {inn o:ByteArray}:∀ (xs:List Bd) (z:ByteArray),(∀ c∈xs,ofHost inn c=true→c.out=o)→xs.foldl (fun u c=>if ofHost inn c=true then c.out else u) z=if xs.any (ofHost inn)=true then o else z
 | [],z,_=>rfl
 | c::xs,z,h=>by
  rw [List.foldl_cons,foldl_host xs _ (fun d hd=>h d (List.mem_cons_of_mem _ hd)),List.any_cons]
  cases hb:ofHost inn c with
  | false=>simp
  | true=>rw [h c List.mem_cons_self hb]; simp
theorem pair_any {α:Type} {R:α→α→Prop} {xs:List α} (h:xs.Pairwise R) {a b:α} (ha:a∈xs) (hb:b∈xs):a=b∨R a b∨R b a:=by
 obtain ⟨i,hi,rfl⟩:=List.getElem_of_mem ha;obtain ⟨j,hj,rfl⟩:=List.getElem_of_mem hb;rw [List.pairwise_iff_getElem] at h;rcases Nat.lt_trichotomy i j with e | e | e
 ·exact .inr (.inl (h i j hi hj e))
 ·subst e; exact .inl rfl
 ·exact .inr (.inr (h j i hj hi e))
theorem host_out {p:Pl} {x:Bb} (h:BibR p x) {inn d:ByteArray} {c:Bd} (hc:c∈x.binds) (hh:ofHost inn c=true):c.out=outIn x.binds d inn:=by
 unfold outIn
 cases hf:x.binds.find? (ofHost inn) with
 | none=>exact absurd hh (by simpa using List.find?_eq_none.1 hf c hc)
 | some c' =>
  have hc':=List.mem_of_find?_eq_some hf;have hh':=List.find?_some hf;unfold ofHost at hh hh';have e:c.inn.toList=c'.inn.toList:=(of_decide_eq_true hh).trans (of_decide_eq_true hh').symm;show c.out=c'.out;rcases pair_any (bind_iff.1 h.bind).2 hc hc' with e1 | e1 | e1
  ·rw [e1]
  ·exact ba_list (clash_host e e1)
  ·exact (ba_list (clash_host e.symm e1)).symm
theorem outF_eq {p:Pl} {x:Bb} (h:BibR p x) (inn d:ByteArray):outF x.binds inn=if x.binds.any (ofHost inn)=true then outIn x.binds d inn else ⟨#[]⟩:=by
 unfold outF;exact foldl_host x.binds _ (fun c hc hh=>host_out h hc hh)
theorem in_four {p:Pl} (h:poolOk p=true) {s:ByteArray} (hs:inL p.addrs s=true):s.size=4:=by
 unfold poolOk at h;simp only [Bool.and_eq_true] at h;have hu:=upN_iff.1 h.2;unfold inL at hs;obtain ⟨u,hu1,hu2⟩:=List.any_eq_true.1 hs;obtain ⟨i,hi,rfl⟩:=List.getElem_of_mem hu1;have h1:=hu i hi;unfold addrOne at h1;simp only [Bool.and_eq_true,decide_eq_true_iff] at h1 hu2;rw [← ba_list hu2]; exact h1.1
theorem leastN_none {f:Int→Bool}:∀ (c:Nat) (lo:Int),leastN f lo c=none→∀ n,lo≤n→n < lo+c→f n=false
 | 0,lo,_,n,h1,h2=>by omega
 | c+1,lo,h,n,h1,h2=>by
  unfold leastN at h;by_cases hf:f lo=true
  ·rw [if_pos hf] at h; cases h
  ·rw [if_neg hf] at h;by_cases e:n=lo
   ·subst e; simpa using hf
   ·exact leastN_none c (lo+1) h n (by omega) (by omega)
theorem used_all {p:Pl} {x:Bb} (h:BibR p x) {proto:Int} {out:ByteArray} (hN:∀ n,p.low≤n→n≤p.high→freeP x.binds proto out n=false) (hle:p.low≤p.high):((usedF x.binds proto out:Nat):Int)=p.high-p.low+1:=by
 have hb:=bind_iff.1 h.bind;have n1:((x.binds.filter (useF proto out)).map (fun c=>c.outPort)).Nodup:=by
  rw [List.nodup_iff_pairwise_ne,List.pairwise_map];refine (List.Pairwise.filter _ hb.2).imp_of_mem ?_;intro a b ha hb' hcl hne;have u1:=(List.mem_filter.1 ha).2;have u2:=(List.mem_filter.1 hb').2;unfold useF at u1 u2;simp only [Bool.and_eq_true,decide_eq_true_iff] at u1 u2;have:=clash_out (c:=a) (b:=b) (by unfold ofOut; simp [u1.1,u2.1,u1.2,u2.2,hne]);rw [this] at hcl; cases hcl
 have n2:((List.range (p.high-p.low+1).toNat).map (fun k:Nat=>p.low+(k:Int))).Nodup:=by
  rw [List.nodup_iff_pairwise_ne,List.pairwise_map];exact (List.nodup_iff_pairwise_ne.1 List.nodup_range).imp (fun hne=>by omega)
 have s1:∀ n∈(x.binds.filter (useF proto out)).map (fun c=>c.outPort),n∈(List.range (p.high-p.low+1).toNat).map (fun k:Nat=>p.low+(k:Int)):=by
  intro n hn;obtain ⟨c,hc,rfl⟩:=List.mem_map.1 hn;have:=hb.1 c (List.mem_filter.1 hc).1;unfold bindP at this;simp only [Bool.and_eq_true] at this;have h2:=isIn_parts this.2;exact List.mem_map.2 ⟨(c.outPort-p.low).toNat,List.mem_range.2 (by omega),by omega⟩
 have s2:∀ n∈(List.range (p.high-p.low+1).toNat).map (fun k:Nat=>p.low+(k:Int)),n∈(x.binds.filter (useF proto out)).map (fun c=>c.outPort):=by
  intro n hn;obtain ⟨k,hk,rfl⟩:=List.mem_map.1 hn;have hk:=List.mem_range.1 hk;have:=hN (p.low+k) (by omega) (by omega);unfold freeP at this;have h0:decide (0≤findI (ofOut proto out (p.low+k)) x.binds)=true:=by have:=of_decide_eq_false this; exact decide_eq_true (by omega)
  rw [findI_any] at h0;obtain ⟨c,hc,hc2⟩:=List.any_eq_true.1 h0;unfold ofOut at hc2;simp only [Bool.and_eq_true,decide_eq_true_iff] at hc2;exact List.mem_map.2 ⟨c,List.mem_filter.2 ⟨hc,by unfold useF; simp [hc2.1.1,hc2.1.2]⟩,hc2.2⟩
 have l1:=nodup_le n1 s1;have l2:=nodup_le n2 s2;simp only [List.length_map,List.length_range] at l1 l2;unfold usedF;omega
theorem none_free {xs:List Bd} {proto:Int} {out:ByteArray} {n:Int} (h:freeP xs proto out n=true):xs.find? (ofOut proto out n)=none:=by
 unfold freeP at h;have h0:decide (0≤findI (ofOut proto out n) xs)=false:=by have:=of_decide_eq_true h; exact decide_eq_false (by omega)
 rw [findI_any] at h0;rw [List.find?_eq_none];intro c hc;simpa using List.any_eq_false.1 h0 c hc
theorem port_ok {p:Pl} {x:Bb} {proto:Int} {inn:ByteArray} {port:Int} (h:(portForV p x proto inn port).code=0) :
  proto≠0∧(portForV p x proto inn port).bind.proto=proto∧(portForV p x proto inn port).bind.inn=inn∧(portForV p x proto inn port).bind.inPort=port∧p.low≤(portForV p x proto inn port).bind.outPort∧(portForV p x proto inn port).bind.outPort≤p.high∧(outF x.binds inn≠⟨#[]⟩→(portForV p x proto inn port).bind.out=outF x.binds inn)∧(bindV (ofOut proto (portForV p x proto inn port).bind.out (portForV p x proto inn port).bind.outPort) x.binds (portForV p x proto inn port).bind.out=(portForV p x proto inn port).bind∨bindV (ofOut proto (portForV p x proto inn port).bind.out (portForV p x proto inn port).bind.outPort) x.binds (portForV p x proto inn port).bind.out=bdZ∧bindV (ofIn proto inn port) x.binds inn=bdZ):=by
 unfold portForV at h ⊢;by_cases hs:20000 < inn.size
 ·rw [if_pos hs] at h; simp at h
 rw [if_neg hs] at h ⊢;by_cases hc:(bibOk p x&&protoB proto&&addrOk inn&&isW port)=true
 ·rw [if_pos hc] at h ⊢;simp only [Bool.and_eq_true] at hc;have hR:=bibR_iff.1 hc.1.1.1;have hb:=bind_iff.1 hR.bind;have hp0:proto≠0:=fun e=>by subst e; exact absurd hc.1.1.2 (by decide)
  unfold lendV at h ⊢
  cases hf:x.binds.find? (ofIn proto inn port) with
  | some c =>
   rw [hf] at h;dsimp only at h ⊢;have hm:=List.mem_of_find?_eq_some hf;have hq:=List.find?_some hf;unfold ofIn at hq;simp only [Bool.and_eq_true,decide_eq_true_iff] at hq;have hp:=hb.1 c hm;unfold bindP at hp;simp only [Bool.and_eq_true] at hp;have hr:=isIn_parts hp.2;have ei:=ba_list hq.1.2;refine ⟨hp0,hq.1.1,ei,hq.2,hr.1,hr.2,fun hne=>?_,.inl ?_⟩
   ·have hh:ofHost inn c=true:=by unfold ofHost; exact decide_eq_true hq.1.2
    rw [outF_eq hR inn ⟨#[]⟩,if_pos (List.any_eq_true.2 ⟨c,hm,hh⟩)];exact host_out hR hm hh
   ·unfold bindV;have hsz:=in_four hR.pool hp.1.2;have:=out_find hR hm;rw [hq.1.1] at this;rw [if_neg (by omega),this]; rfl
  | none =>
   rw [hf] at h;dsimp only at h ⊢
   cases hl:lendN p x.binds proto (outIn x.binds (outD p inn) inn) port with
   | none=>rw [hl] at h; simp at h
   | some n =>
    dsimp only;obtain ⟨h1,h2⟩:=lendN_in hl;have hr:=isIn_parts h1;refine ⟨hp0,rfl,rfl,rfl,hr.1,hr.2,fun hne=>?_,.inr ⟨?_,?_⟩⟩
    ·have:=outF_eq hR inn (outD p inn);rw [this] at hne ⊢;by_cases ha:x.binds.any (ofHost inn)=true
     ·rw [if_pos ha]
     ·rw [if_neg ha] at hne; exact absurd rfl hne
    ·unfold bindV;rw [none_free h2]; simp
    ·unfold bindV;rw [hf]; simp
 ·rw [if_neg hc] at h; simp at h
theorem port_full {p:Pl} {x:Bb} {proto:Int} {inn:ByteArray} {port:Int} (h:(portForV p x proto inn port).code=9) :
  1≤p.addrs.length∧p.addrs.length≤8∧inn.size≤20000∧1≤p.low∧p.low≤p.high∧p.high≤65535∧((usedF x.binds proto (if outF x.binds inn=⟨#[]⟩ then outD p inn else outF x.binds inn):Nat):Int)=p.high-p.low+1:=by
 unfold portForV at h;by_cases hs:20000 < inn.size
 ·rw [if_pos hs] at h; simp at h
 rw [if_neg hs] at h;by_cases hc:(bibOk p x&&protoB proto&&addrOk inn&&isW port)=true
 ·rw [if_pos hc] at h;simp only [Bool.and_eq_true] at hc;have hR:=bibR_iff.1 hc.1.1.1;have hp:=hR.pool;unfold poolOk at hp;simp only [Bool.and_eq_true,decide_eq_true_iff] at hp;have q1:1≤p.addrs.length:=hp.1.1.1.1.1.1.1.1;have q2:p.addrs.length≤8:=hp.1.1.1.1.1.1.1.2;have q3:1≤p.low:=hp.1.1.1.1.1.1.2;have q4:p.low≤p.high:=hp.1.1.1.1.1.2;have q5:p.high≤65535:=hp.1.1.1.1.2;refine ⟨q1,q2,by omega,q3,q4,q5,?_⟩;have eo:(if outF x.binds inn=⟨#[]⟩ then outD p inn else outF x.binds inn)=outIn x.binds (outD p inn) inn:=by
   rw [outF_eq hR inn (outD p inn)];by_cases ha:x.binds.any (ofHost inn)=true
   ·rw [if_pos ha];have hz:=in_four hR.pool (outIn_pool hR inn);rw [if_neg];intro e; rw [e] at hz; simp [ByteArray.size] at hz
   ·rw [if_neg ha,if_pos rfl];unfold outIn;have:x.binds.find? (ofHost inn)=none:=by
     rw [List.find?_eq_none];intro c hc hh;exact ha (List.any_eq_true.2 ⟨c,hc,hh⟩)
    rw [this]
  rw [eo];unfold lendV at h
  cases hf:x.binds.find? (ofIn proto inn port) with
  | some c=>rw [hf] at h; simp at h
  | none =>
   rw [hf] at h;dsimp only at h
   cases hl:lendN p x.binds proto (outIn x.binds (outD p inn) inn) port with
   | some n=>rw [hl] at h; simp at h
   | none =>
    refine used_all hR (fun n h1 h2=>?_) q4;unfold lendN at hl;split at hl
    ·cases hl
    ·split at hl
     ·cases hl
     ·exact leastN_none _ _ hl n h1 (by omega)
 ·rw [if_neg hc] at h; simp at h
end Go.Proofs.Ytjpdljkjalnmhaa
namespace Go.Proofs.Ytjpdljkjalnmhaa
open Go.RowKit
def sameBd (q p:Bd):Bool:=(q.proto==p.proto)&&((q.inn.toList==p.inn.toList)&&((q.inPort==p.inPort)&&((q.out.toList==p.out.toList)&&((q.outPort==p.outPort)))))
theorem sameBd_self (q:Bd):sameBd q q=true:=by unfold sameBd; simp
theorem eqBdW_run (D:Nat) (q p:Bd) (W:World):(Op.equalIn (D+2) 35 (.agg #[.int .i64 q.proto,.string q.inn,.int .i64 q.inPort,.string q.out,.int .i64 q.outPort]) (.agg #[.int .i64 p.proto,.string p.inn,.int .i64 p.inPort,.string p.out,.int .i64 p.outPort])).run Try.prog W=.ok (sameBd q p) W:=by
 have h1:Try.prog.underlying 35=some (.struct (Try.prog.fieldsOf 35)):=by kernel_rfl
 have h2:Try.prog.stoodInHeld 35=false:=by kernel_rfl
 rw [run_equalIn_agg _ _ _ _ _ h1 h2];have h3:(Try.prog.fieldsOf 35).toList.length=5:=by kernel_rfl
 have h4 : ((Try.prog.fieldsOf 35).toList.map fun f => (f.type, f.offset, f.name == "_")) = [(2, 0, false), (9, 1, false), (2, 2, false), (9, 3, false), (2, 4, false)] := by kernel_rfl
 generalize (Try.prog.fieldsOf 35).toList=fs at *;match fs,h3 with
 | [f0,f1,f2,f3,f4],_ =>
  simp only [List.map_cons,List.map_nil,List.cons.injEq,Prod.mk.injEq,and_true] at h4;obtain ⟨⟨a0,b0,c0⟩,⟨a1,b1,c1⟩,⟨a2,b2,c2⟩,⟨a3,b3,c3⟩,⟨a4,b4,c4⟩⟩:=h4
  have d0 : (f0.name ≠ "_") = True := by simpa using c0
  have q0:∀ W,(part 2 #[.int .i64 q.proto,.string q.inn,.int .i64 q.inPort,.string q.out,.int .i64 q.outPort] 0).run Try.prog W=.ok (.int .i64 q.proto) W:=fun W=>by kernel_rfl
  have p0:∀ W,(part 2 #[.int .i64 p.proto,.string p.inn,.int .i64 p.inPort,.string p.out,.int .i64 p.outPort] 0).run Try.prog W=.ok (.int .i64 p.proto) W:=fun W=>by kernel_rfl
  have d1 : (f1.name ≠ "_") = True := by simpa using c1
  have q1:∀ W,(part 9 #[.int .i64 q.proto,.string q.inn,.int .i64 q.inPort,.string q.out,.int .i64 q.outPort] 1).run Try.prog W=.ok (.string q.inn) W:=fun W=>by kernel_rfl
  have p1:∀ W,(part 9 #[.int .i64 p.proto,.string p.inn,.int .i64 p.inPort,.string p.out,.int .i64 p.outPort] 1).run Try.prog W=.ok (.string p.inn) W:=fun W=>by kernel_rfl
  have d2 : (f2.name ≠ "_") = True := by simpa using c2
  have q2:∀ W,(part 2 #[.int .i64 q.proto,.string q.inn,.int .i64 q.inPort,.string q.out,.int .i64 q.outPort] 2).run Try.prog W=.ok (.int .i64 q.inPort) W:=fun W=>by kernel_rfl
  have p2:∀ W,(part 2 #[.int .i64 p.proto,.string p.inn,.int .i64 p.inPort,.string p.out,.int .i64 p.outPort] 2).run Try.prog W=.ok (.int .i64 p.inPort) W:=fun W=>by kernel_rfl
  have d3 : (f3.name ≠ "_") = True := by simpa using c3
  have q3:∀ W,(part 9 #[.int .i64 q.proto,.string q.inn,.int .i64 q.inPort,.string q.out,.int .i64 q.outPort] 3).run Try.prog W=.ok (.string q.out) W:=fun W=>by kernel_rfl
  have p3:∀ W,(part 9 #[.int .i64 p.proto,.string p.inn,.int .i64 p.inPort,.string p.out,.int .i64 p.outPort] 3).run Try.prog W=.ok (.string p.out) W:=fun W=>by kernel_rfl
  have d4 : (f4.name ≠ "_") = True := by simpa using c4
  have q4:∀ W,(part 2 #[.int .i64 q.proto,.string q.inn,.int .i64 q.inPort,.string q.out,.int .i64 q.outPort] 4).run Try.prog W=.ok (.int .i64 q.outPort) W:=fun W=>by kernel_rfl
  have p4:∀ W,(part 2 #[.int .i64 p.proto,.string p.inn,.int .i64 p.inPort,.string p.out,.int .i64 p.outPort] 4).run Try.prog W=.ok (.int .i64 p.outPort) W:=fun W=>by kernel_rfl
  unfold sameBd;simp only [Op.eqFields,a0,b0,d0,q0,p0,a1,b1,d1,q1,p1,a2,b2,d2,q2,p2,a3,b3,d3,q3,p3,a4,b4,d4,q4,p4,if_true,Sem.run_bind,Sem.run_ite,Sem.run_pure,Result.andThen_ok,run_equalIn_string _ _ _ _ _ Try.underlying9,run_equalIn_int _ _ _ _ _ _ _ Try.underlying2];generalize (q.proto==p.proto)=g0;generalize (q.inn.toList==p.inn.toList)=g1;generalize (q.inPort==p.inPort)=g2;generalize (q.out.toList==p.out.toList)=g3;generalize (q.outPort==p.outPort)=g4
  cases g0
  ·simp
  simp only [Bool.not_true,Bool.false_eq_true,if_false,Bool.true_and]
  cases g1
  ·simp
  simp only [Bool.not_true,Bool.false_eq_true,if_false,Bool.true_and]
  cases g2
  ·simp
  simp only [Bool.not_true,Bool.false_eq_true,if_false,Bool.true_and]
  cases g3
  ·simp
  simp only [Bool.not_true,Bool.false_eq_true,if_false,Bool.true_and]
  cases g4<;>simp
theorem neBdW_bin (q p:Bd) (W:World):(binOp .neq 35 (.agg #[.int .i64 q.proto,.string q.inn,.int .i64 q.inPort,.string q.out,.int .i64 q.outPort]) (.agg #[.int .i64 p.proto,.string p.inn,.int .i64 p.inPort,.string p.out,.int .i64 p.outPort])).run Try.prog W=.ok (.bool (!sameBd q p)) W:=by
 rw [run_neq_struct,eqBdW_run 9998 q p W]; rfl
end Go.Proofs.Ytjpdljkjalnmhaa
