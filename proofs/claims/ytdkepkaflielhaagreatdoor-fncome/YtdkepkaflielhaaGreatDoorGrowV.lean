import Derived.Test.YtdkepkaflielhaaGreatDoorSz
import Derived.Test.YtdkepkaflielhaaGreatDoorAb
import Derived.Test.YtdkepkaflielhaaGreatDoorGrowH
set_option linter.unusedVariables false
set_option linter.unusedSimpArgs false
set_option maxRecDepth 100000
set_option maxHeartbeats 8000000
namespace Go.Proofs.YtdkepkaflielhaaGreatDoor
open Go.RowKit Go.ChangeShapes
section
variable {P:Program} {ops:Array Oper} {Q:Exit→Act→World→Prop} {ds:List Tmp} {R:Nat→Value→World→Prop} {a0:Act} {w0:World}
def wpSeq (P:Program) (Q:Exit→Act→World→Prop):List Oper→Act→World→Prop
 | [],a,w=>Q .normal a w
 | o::l,a,w=>∀ K':Act→World→Prop,(∀ a' w',wpSeq P Q l a' w'→K' a' w')→Oper.wp P o a w K' Q
structure GFormV (ops:Array Oper) (ds:List Tmp) (n:Nat):Prop where
 le:ds.length < ops.size
 dst:∀ i o,i < ds.length→ops[i]?=some o→o.dst=some (ds.getD i 0)
 nodup:ds.Nodup
 fits:∀ d∈ds,d < n
 topo:∀ i o,ops[i]?=some o→∀ e∈o.after,Region.binds .any e=true→e.on < i
 sguard:∀ i o,ds.length≤i→ops[i]?=some o→o.guard=none
 swait:∀ i o,ds.length < i→ops[i]?=some o→∃ e∈o.after,Region.binds .any e=true∧e.on=i-1
 lall:∀ j,j < ds.length→∃ i o,j < i∧i≤ds.length∧ops[i]?=some o∧∃ e∈o.after,Region.binds .any e=true∧e.on=j
def gformV (ops:Array Oper) (ds:List Tmp) (n:Nat):Bool :=
 decide (ds.length < ops.size)&&(List.range ops.size).all (fun i=>match ops[i]? with
  | some o=>o.after.all (fun e=>!Region.binds .any e||decide (e.on < i))&&(if i < ds.length then (match o.dst with | some d=>d==ds.getD i 0 | none=>false) else o.guard.isNone)&&(if ds.length < i then o.after.any (fun e=>Region.binds .any e&&e.on==i-1) else true)
  | none=>true)&&decide ds.Nodup&&ds.all (fun d=>decide (d < n)) &&
 (List.range ds.length).all (fun j=>(List.range (ds.length+1)).any (fun i=>decide (j < i)&&match ops[i]? with | some o=>o.after.any (fun e=>Region.binds .any e&&e.on==j) | none=>false))
theorem GFormV.of {n:Nat} (h:gformV ops ds n=true):GFormV ops ds n:=by
 unfold gformV at h;simp only [Bool.and_eq_true,decide_eq_true_iff,List.all_eq_true,List.mem_range] at h;obtain ⟨⟨⟨⟨h1,h2⟩,h3⟩,h4⟩,h5⟩:=h;have hb:∀ i o,ops[i]?=some o→i < ops.size:=fun i o ho=>(Array.getElem?_eq_some_iff.1 ho).1
 refine ⟨h1,fun i o hi ho=>?_,h3,h4,fun i o ho e he hbd=>?_,fun i o hi ho=>?_,fun i o hi ho=>?_,fun j hj=>?_⟩
 ·have:=h2 i (hb i o ho);rw [ho] at this;simp only [Bool.and_eq_true,if_pos hi] at this;have t1:=this.1.2
  cases hd:o.dst with
  | none=>rw [hd] at t1; simp at t1
  | some d=>rw [hd] at t1; simp at t1; rw [t1]; simp
 ·have:=h2 i (hb i o ho);rw [ho] at this;simp only [Bool.and_eq_true] at this;have:=Array.all_eq_true_iff_forall_mem.1 this.1.1 e he;simp [hbd] at this;exact this
 ·have:=h2 i (hb i o ho);rw [ho] at this;simp only [Bool.and_eq_true,if_neg (show ¬ i < ds.length by omega)] at this;simpa using this.1.2
 ·have:=h2 i (hb i o ho);rw [ho] at this;simp only [Bool.and_eq_true,if_pos hi] at this;obtain ⟨e,he,hbd⟩:=Array.any_eq_true'.1 this.2;simp only [Bool.and_eq_true,beq_iff_eq] at hbd;exact ⟨e,he,hbd.1,hbd.2⟩
 ·obtain ⟨i,hi,hh⟩:=List.any_eq_true.1 (h5 j hj);simp only [Bool.and_eq_true,decide_eq_true_iff] at hh
  cases ho:ops[i]? with
  | none=>rw [ho] at hh; simp at hh
  | some o =>
   rw [ho] at hh;obtain ⟨e,he,hbd⟩:=Array.any_eq_true'.1 hh.2;simp only [Bool.and_eq_true,beq_iff_eq] at hbd;exact ⟨i,o,hh.1,by have:=List.mem_range.1 hi; omega,ho,e,he,hbd.1,hbd.2⟩
theorem wpAny_seq (hF:GFormV ops ds a0.tmps.size):∀ (fuel m:Nat) (listed:Array Bool) (a:Act) (w:World),ds.length≤m→m≤ops.size→listed.size=ops.size→(∀ j,j < ops.size→(listed.getD j false=true↔j < m))→ops.size-m≤fuel→wpSeq P Q (ops.toList.drop m) a w→wpAny P .any ops Q fuel listed a w:=by
 have nil:∀ (m:Nat) (listed:Array Bool),listed.size=ops.size→(∀ j,j < ops.size→(listed.getD j false=true↔j < m))→ops.size≤m→Region.ready .any ops listed=[]:=by
  intro m listed hsz hl hm;rw [List.eq_nil_iff_forall_not_mem];intro i hi;rw [mem_ready] at hi;obtain ⟨h0,o,ho,_⟩:=hi;have hio:=(Array.getElem?_eq_some_iff.1 ho).1;have:=(hl i hio).2 (by omega);have hs:i < listed.size:=by omega
  simp [hs] at h0 this;rw [h0] at this;simp at this
 intro fuel;induction fuel with
 | zero =>
  intro m listed a w hn hm hsz hl hf hq;have hme:m=ops.size:=by omega
  subst hme;rw [List.drop_of_length_le (by simp)] at hq;exact ⟨nil _ _ hsz hl lR,hq⟩
 | succ fuel ih =>
  intro m listed a w hn hm hsz hl hf hq;by_cases hme:m=ops.size
  ·subst hme;rw [List.drop_of_length_le (by simp)] at hq;exact wpAny_done (nil _ _ hsz hl lR) hq (fuel+1)
  ·have hmo:m < ops.size:=by omega
   have hom:ops[m]?=some ops[m]:=by simp [hmo]
   have hunl:∀ j,j < ops.size→m≤j→listed.getD j true=false:=fun j hj hmj=>by
    have hs:j < listed.size:=by omega
    have:=mt (hl j hj).1 (by omega);simp [hs] at this ⊢;exact this
   refine ⟨fun hr=>?_,fun i hi=>?_⟩
   ·exfalso
    have hmem:m∈Region.ready .any ops listed:=by
     rw [mem_ready];exact ⟨hunl m hmo lR,ops[m],hom,fun e he hb=>(hl _ (by have:=hF.topo m _ hom e he hb; omega)).2 (hF.topo m _ hom e he hb)⟩
    rw [hr] at hmem;simp at hmem
   ·rw [mem_ready] at hi;obtain ⟨h0,o,ho,hdeps⟩:=hi;have hio:=(Array.getElem?_eq_some_iff.1 ho).1;have him:m≤i:=by
     by_cases e:i < m
     ·exfalso
      have:=(hl i hio).2 e;have hs:i < listed.size:=by omega
      simp [hs] at h0 this;rw [h0] at this;simp at this
     ·omega
    have hie:i=m:=by
     by_cases e:i=m
     ·exact e
     ·exfalso
      obtain ⟨e1,he,hb,hon⟩:=hF.swait i o (by omega) ho;have:=(hl e1.on (by omega)).1 (hdeps e1 he hb);omega
    subst hie;obtain rfl:ops[i]=o:=by rw [hom] at ho; exact Option.some.inj ho
    refine wpOp_step ho (fun K' hK=>?_);rw [if_pos (by unfold Region.wanted; rw [hF.sguard i _ hn ho])];rw [List.drop_eq_getElem_cons (by simpa using hmo)] at hq;refine hq K' (fun a' w' h'=>hK _ _ ?_);refine ih (i+1) _ a' w' (by omega) (by omega) (by simp [hsz]) (fun j hj=>?_) (by omega) h';by_cases e:i=j
    ·subst e;have hs:i < listed.size:=by omega
     simp [hs]
    ·rw [getD_set_ne false e,hl j hj];omega
theorem wpAny_growV (hF:GFormV ops ds a0.tmps.size) (hst:∀ i v w w',R i v w→Below w.heap.size w w'→R i v w')
  (hstep:∀ i o,i < ds.length→ops[i]?=some o→GStepG P ops Q ds R a0 w0 i o)
  (hdone:∀ a w,a.tmps.size=a0.tmps.size→a.defers=a0.defers→(∀ t,t ∉ ds→slot a t=slot a0 t)→(∀ i,i < ds.length→R i (slot a (ds.getD i 0)) w)→Below w0.heap.size w0 w→wpSeq P Q (ops.toList.drop ds.length) a w) :
  ∀ (fuel:Nat) (listed:Array Bool) (a:Act) (w:World),unl listed ops.size≤fuel→GInv ops ds R a0 w0 listed a w→(∀ j,j < ops.size→ds.length≤j→listed.getD j false=false)→(∀ i o,ops[i]?=some o→listed.getD i false=true→∀ e∈o.after,Region.binds .any e=true→listed.getD e.on false=true)→wpAny P .any ops Q fuel listed a w:=by
 have ft:∀ (listed:Array Bool) (j:Nat),j < listed.size→(listed.getD j true=listed.getD j false):=fun listed j hj=>by simp [hj]
 intro fuel;induction fuel with
 | zero =>
  intro listed a w hu hI hs hcl;exfalso
  have:=unl_zero (listed:=listed) ops.size (by omega) ds.length hF.le;rw [ft listed _ (by rw [hI.size]; exact hF.le),hs _ hF.le lR] at this;simp at this
 | succ fuel ih =>
  intro listed a w hu hI hs hcl;by_cases hall:∀ j,j < ds.length→listed.getD j false=true
  ·refine wpAny_seq hF (fuel+1) ds.length listed a w lR (Nat.le_of_lt hF.le) hI.size (fun j hj=>⟨fun h=>?_,fun h=>hall j h⟩) ?_ (hdone a w hI.tsize hI.defers hI.outer (fun j hj=>hI.inner j (hall j hj)) hI.below)
   ·by_cases e:j < ds.length
    ·exact e
    ·rw [hs j hj (by omega)] at h; simp at h
   ·refine Nat.le_trans ?_ hu;have key:∀ n,n≤ops.size→n-ds.length≤unl listed n:=by
     intro n;induction n with
     | zero=>intro _; omega
     | succ n ihn =>
      intro hn;have h1:=ihn (by omega);unfold unl;by_cases e:n < ds.length
      ·omega
      ·rw [if_neg (by rw [ft listed n (by rw [hI.size]; omega),hs n (by omega) (by omega)]; simp)];omega
    exact key ops.size lR
  ·refine ⟨fun hr=>?_,fun i hi=>?_⟩
   ·exfalso
    refine hall (fun i=>?_);induction i using Nat.strongRecOn with
    | ind i ih2 =>
     intro hil;have hio:i < ops.size:=Nat.lt_trans hil hF.le;by_cases hh:listed.getD i true=true
     ·rw [ft listed i (by rw [hI.size]; exact hio)] at hh; exact hh
     ·exfalso
      have hmem:i∈Region.ready .any ops listed:=by
       rw [mem_ready];refine ⟨by simpa using hh,ops[i],by simp [hio],fun e he hb=>?_⟩;have hlt:=hF.topo i ops[i] (by simp [hio]) e he hb;exact ih2 _ hlt (by omega)
      rw [hr] at hmem;simp at hmem
   ·rw [mem_ready] at hi;obtain ⟨h0,o,ho,hdeps⟩:=hi;have hio:i < ops.size:=(Array.getElem?_eq_some_iff.1 ho).1;have hil:i < ds.length:=by
     by_cases e:i < ds.length
     ·exact e
     ·exfalso
      by_cases e2:ds.length < i
      ·obtain ⟨e1,he,hb,hon⟩:=hF.swait i o e2 ho;have h1:=hdeps e1 he hb;rw [hs e1.on (by omega) (by omega)] at h1;simp at h1
      ·have hin:i=ds.length:=by omega
       refine hall ?_;have key:∀ d j,ds.length-j≤d→j < ds.length→listed.getD j false=true:=by
        intro d;induction d with
        | zero=>intro j h1 h2; omega
        | succ d ihd =>
         intro j h1 h2;obtain ⟨q,oq,hq1,hq2,hoq,ed,he,hb,hon⟩:=hF.lall j h2;by_cases e3:q=ds.length
         ·subst hin;subst e3;obtain rfl:o=oq:=by rw [ho] at hoq; exact Option.some.inj hoq
          rw [← hon]; exact hdeps ed he hb
         ·rw [← hon]; exact hcl q oq hoq (ihd q (by omega) (by omega)) ed he hb
       exact fun j hj=>key ds.length j (by omega) hj
    have hd:=hF.dst i o hil ho;have hmem:ds.getD i 0∈ds:=by rw [getD_at hil]; exact List.getElem_mem hil
    refine wpOp_step ho (fun K' hK=>?_);refine hstep i o hil ho K' a w hI.outer (fun e he hb=>hI.inner _ (hdeps e he hb)) hI.below (fun v w' hR hB=>hK _ _ ?_);refine ih _ _ _ (by have:=unl_set h0 ops.size hio; omega) ⟨by simp [hI.size],?_,?_,fun t ht=>?_,fun j hj=>?_,hI.below.trans (hB.mono hI.below.size)⟩ (fun j hj hn=>by rw [getD_set_ne false (by omega)]; exact hs j hj hn) ?_
    ·rw [hd]; simp [Act.put,hI.tsize]
    ·rw [hd]; simp [Act.put,hI.defers]
    ·rw [hd,slot_put_ne (show ds.getD i 0≠t from fun e=>ht (e ▸ hmem))]; exact hI.outer t ht
    ·rw [hd];by_cases e:i=j
     ·subst e;rw [slot_put_eq (by rw [hI.tsize]; exact hF.fits _ hmem)];exact hR
     ·rw [getD_set_ne false e] at hj;have hjo:j < ops.size:=by
       rw [← hI.size];rcases Nat.lt_or_ge j listed.size with h' | h'
       ·exact h'
       ·simp [Array.getElem?_eq_none h'] at hj
      have hjl:j < ds.length:=by
       by_cases e2:j < ds.length
       ·exact e2
       ·rw [hs j hjo (by omega)] at hj; simp at hj
      rw [slot_put_ne (nodup_ne hF.nodup hil hjl e)];exact hst _ _ _ _ (hI.inner j hj) hB
    ·have hset:∀ j,listed.getD j false=true→(listed.setIfInBounds i true).getD j false=true:=fun j hj=>by
      by_cases e:i=j
      ·subst e; have hsz:i < listed.size:=by rw [hI.size]; exact hio
       simp [hsz]
      ·rw [getD_set_ne false e]; exact hj
     intro j o' ho' hj e he hb;by_cases hij:i=j
     ·subst hij;obtain rfl:o=o':=by rw [ho] at ho'; exact Option.some.inj ho'
      exact hset _ (hdeps e he hb)
     ·rw [getD_set_ne false hij] at hj;exact hset _ (hcl j o' ho' hj e he hb)
def GChV (P:Program) (ops:Array Oper) (Q:Exit→Act→World→Prop) (ds:List Tmp) (a0:Act) (w0:World) (suf:List Oper):List (Value→World→Prop)→List Oper→Prop
 | Rs,[]=>∀ (X:Nat→Value) w,RAll X w 0 Rs→Below w0.heap.size w0 w→wpSeq P Q suf (putsFrom X a0 0 ds) w
 | Rs,o::l=>∃ r,Stable r∧GStepG P ops Q ds (rAt (Rs++[r])) a0 w0 Rs.length o∧GChV P ops Q ds a0 w0 suf (Rs++[r]) l
theorem GChV.all {suf:List Oper}:∀ (l:List Oper) (Rs:List (Value→World→Prop)),(∀ i o,l[i]?=some o→∀ e∈o.after,Region.binds .any e=true→e.on < Rs.length+i)→(∀ r∈Rs,Stable r)→GChV P ops Q ds a0 w0 suf Rs l →
  ∃ Ss,(Rs++Ss).length=Rs.length+l.length∧(∀ r∈Rs++Ss,Stable r)∧(∀ i o,l[i]?=some o→GStepG P ops Q ds (rAt (Rs++Ss)) a0 w0 (Rs.length+i) o)∧(∀ (X:Nat→Value) w,RAll X w 0 (Rs++Ss)→Below w0.heap.size w0 w→wpSeq P Q suf (putsFrom X a0 0 ds) w)
 | [],Rs,_,hst,h=>⟨[],by simp,by simpa using hst,fun i o ho=>by simp at ho,by rw [List.append_nil]; exact h⟩
 | o::l,Rs,ht,hst,⟨r,hr,hs,hc⟩=>by
  obtain ⟨Ss,h1,h2,h3,h4⟩:=GChV.all l (Rs++[r]) (fun i o' ho e he hb=>by
   have:=ht (i+1) o' (by simpa using ho) e he hb;simp; omega) (fun x hx=>by
   rcases List.mem_append.1 hx with hx | hx
   ·exact hst x hx
   ·simp at hx; subst hx; exact hr) hc
  refine ⟨r::Ss,by simp at h1 ⊢; omega,by simpa using h2,fun i o' ho=>?_,by simpa using h4⟩;have e:Rs++r::Ss=Rs++[r]++Ss:=by simp
  rw [e]
  cases i with
  | zero =>
   simp at ho;subst ho;refine GStepG.congr (ht 0 o rfl) (fun j hj=>?_) hs;exact (rAt_left (by simp; omega)).symm
  | succ i =>
   have:=h3 i o' (by simpa using ho);rwa [show (Rs++[r]).length+i=Rs.length+(i+1) by simp; omega] at this
theorem wp_region_growV {id:Nat} (ds:List Tmp) (hm:P.follows .mixedOrders=true) (hF:gformV ops ds a0.tmps.size=true) (h:GChV P ops Q ds a0 w0.drew (ops.toList.drop ds.length) [] (ops.toList.take ds.length)) :
  (Code.region id ops true).wp P Q a0 w0:=by
 have hG:=GFormV.of hF;have hle:=hG.le;obtain ⟨Ss,h1,h2,h3,h4⟩:=GChV.all (ops.toList.take ds.length) [] (fun i o ho e he hb=>by
  have hi:i < ds.length:=by
   by_cases e2:i < ds.length
   ·exact e2
   ·rw [List.getElem?_eq_none (by simp; omega)] at ho; simp at ho
  rw [List.getElem?_take,if_pos hi] at ho;have:=hG.topo i o (by simpa using ho) e he hb;simpa using this) (fun r hr=>by simp at hr) h
 simp only [List.nil_append,List.length_nil,Nat.zero_add] at h1 h2 h3 h4;have hlen:Ss.length=ds.length:=by rw [h1]; simp; omega
 refine wp_region_any hm (wpAny_growV (w0:=w0.drew) (R:=rAt Ss) hG (fun i v w w' h hb=>?_) (fun i o hi ho=>?_) (fun a w g1 g2 g3 g4 g5=>?_) ops.size _ a0 w0.drew (unl_le _ _) ⟨by simp,rfl,rfl,fun _ _=>rfl,fun i hi=>?_,Below.refl _ _⟩ (fun j hj _=>by simp [hj]) (fun i o ho hi=>?_))
 ·unfold rAt at *;by_cases hi:i < Ss.length
  ·have e:Ss.getD i (fun _ _=>True)=Ss[i]:=by simp [hi]
   rw [e] at h ⊢;exact h2 _ (List.getElem_mem hi) v w w' h hb
  ·have e:Ss.getD i (fun _ _=>True)=fun _ _=>True:=by simp [Nat.le_of_not_lt hi]
   rw [e]; trivial
 ·exact h3 i o (by rw [List.getElem?_take,if_pos hi]; simpa using ho)
 ·have hp:putsFrom (fun i=>slot a (ds.getD i 0)) a0 0 ds=a:=puts_eq ds a0 0 g1.symm g2.symm (fun i _=>by rw [Nat.zero_add]) (fun t ht=>(g3 t ht).symm) (fun d hd=>by rw [g1]; exact hG.fits d hd);rw [← hp];exact h4 (fun i=>slot a (ds.getD i 0)) w (RAll.mk Ss 0 (fun i hi=>by rw [Nat.zero_add]; exact g4 i (by omega))) g5
 ·exfalso
  by_cases h:i < ops.size
  ·simp [h] at hi
  ·simp [h] at hi
 ·exfalso
  by_cases h:i < ops.size
  ·simp [h] at hi
  ·simp [h] at hi
theorem GChV.val {suf:List Oper} {Rs:List (Value→World→Prop)} {n:Nat} {o:Oper} {l:List Oper} (Rs':Value→List (Value→World→Prop)) (hR:∀ v,Rs' v=Rs++[IsV v]) (hn:Rs.length=n) (h:∃ v,GStepG P ops Q ds (rAt (Rs' v)) a0 w0 n o∧GChV P ops Q ds a0 w0 suf (Rs' v) l):GChV P ops Q ds a0 w0 suf Rs (o::l):=by
 obtain ⟨v,h1,h2⟩:=h;rw [hR] at h1 h2;subst hn;exact ⟨IsV v,stable_isV v,h1,h2⟩
theorem GChV.rel {suf:List Oper} {Rs:List (Value→World→Prop)} {n:Nat} {o:Oper} {l:List Oper} (r:Value→World→Prop) (hr:Stable r) (Rs':List (Value→World→Prop)) (hR:Rs'=Rs++[r]) (hn:Rs.length=n) (h1:GStepG P ops Q ds (rAt Rs') a0 w0 n o) (h2:GChV P ops Q ds a0 w0 suf Rs' l):GChV P ops Q ds a0 w0 suf Rs (o::l):=by
 subst hR hn;exact ⟨r,hr,h1,h2⟩
theorem GChV.vv {suf:List Oper} {Rs Rs':List (Value→World→Prop)} {n:Nat} {o:Oper} {l:List Oper} {v:Value} (hR:Rs'=Rs++[IsV v]) (hn:Rs.length=n) (hg:o.guard=none) (h1:GW P Q ds Rs' a0 w0 n o) (h2:GChV P ops Q ds a0 w0 suf Rs' l):GChV P ops Q ds a0 w0 suf Rs (o::l):=by
 subst hR hn;exact ⟨IsV v,stable_isV v,h1.step hg,h2⟩
variable {R0 R1 R2 R3 R4 R5 R6 R7 R8 R9 R10 R11 R12 R13 R14 R15 R16 R17 R18 R19 R20 R21 R22 R23 R24 R25 R26 R27 R28 R29 R30 R31 R32 R33 R34 R35 R36 R37 R38 R39 R40 R41 R42 R43 R44 R45:Value→World→Prop} {o:Oper} {l suf:List Oper} {v:Value}
theorem GChV.v0 (hg:o.guard=none) (h1:GW P Q ds [IsV v] a0 w0 0 o) (h2:GChV P ops Q ds a0 w0 suf [IsV v] l):GChV P ops Q ds a0 w0 suf [] (o::l):=.vv rfl rfl hg h1 h2
theorem GChV.v1 (hg:o.guard=none) (h1:GW P Q ds [R0,IsV v] a0 w0 1 o) (h2:GChV P ops Q ds a0 w0 suf [R0,IsV v] l):GChV P ops Q ds a0 w0 suf [R0] (o::l):=.vv rfl rfl hg h1 h2
theorem GChV.v2 (hg:o.guard=none) (h1:GW P Q ds [R0,R1,IsV v] a0 w0 2 o) (h2:GChV P ops Q ds a0 w0 suf [R0,R1,IsV v] l):GChV P ops Q ds a0 w0 suf [R0,R1] (o::l):=.vv rfl rfl hg h1 h2
theorem GChV.v3 (hg:o.guard=none) (h1:GW P Q ds [R0,R1,R2,IsV v] a0 w0 3 o) (h2:GChV P ops Q ds a0 w0 suf [R0,R1,R2,IsV v] l):GChV P ops Q ds a0 w0 suf [R0,R1,R2] (o::l):=.vv rfl rfl hg h1 h2
theorem GChV.v4 (hg:o.guard=none) (h1:GW P Q ds [R0,R1,R2,R3,IsV v] a0 w0 4 o) (h2:GChV P ops Q ds a0 w0 suf [R0,R1,R2,R3,IsV v] l):GChV P ops Q ds a0 w0 suf [R0,R1,R2,R3] (o::l):=.vv rfl rfl hg h1 h2
theorem GChV.v5 (hg:o.guard=none) (h1:GW P Q ds [R0,R1,R2,R3,R4,IsV v] a0 w0 5 o) (h2:GChV P ops Q ds a0 w0 suf [R0,R1,R2,R3,R4,IsV v] l):GChV P ops Q ds a0 w0 suf [R0,R1,R2,R3,R4] (o::l):=.vv rfl rfl hg h1 h2
theorem GChV.v6 (hg:o.guard=none) (h1:GW P Q ds [R0,R1,R2,R3,R4,R5,IsV v] a0 w0 6 o) (h2:GChV P ops Q ds a0 w0 suf [R0,R1,R2,R3,R4,R5,IsV v] l):GChV P ops Q ds a0 w0 suf [R0,R1,R2,R3,R4,R5] (o::l):=.vv rfl rfl hg h1 h2
theorem GChV.v7 (hg:o.guard=none) (h1:GW P Q ds [R0,R1,R2,R3,R4,R5,R6,IsV v] a0 w0 7 o) (h2:GChV P ops Q ds a0 w0 suf [R0,R1,R2,R3,R4,R5,R6,IsV v] l):GChV P ops Q ds a0 w0 suf [R0,R1,R2,R3,R4,R5,R6] (o::l):=.vv rfl rfl hg h1 h2
theorem GChV.v8 (hg:o.guard=none) (h1:GW P Q ds [R0,R1,R2,R3,R4,R5,R6,R7,IsV v] a0 w0 8 o) (h2:GChV P ops Q ds a0 w0 suf [R0,R1,R2,R3,R4,R5,R6,R7,IsV v] l):GChV P ops Q ds a0 w0 suf [R0,R1,R2,R3,R4,R5,R6,R7] (o::l):=.vv rfl rfl hg h1 h2
theorem GChV.v9 (hg:o.guard=none) (h1:GW P Q ds [R0,R1,R2,R3,R4,R5,R6,R7,R8,IsV v] a0 w0 9 o) (h2:GChV P ops Q ds a0 w0 suf [R0,R1,R2,R3,R4,R5,R6,R7,R8,IsV v] l):GChV P ops Q ds a0 w0 suf [R0,R1,R2,R3,R4,R5,R6,R7,R8] (o::l):=.vv rfl rfl hg h1 h2
end
end Go.Proofs.YtdkepkaflielhaaGreatDoor
