import Derived.Test.YtdkepkaflielhaaGreatDoorSz
import Derived.Test.YtdkepkaflielhaaGreatDoorAb
import Derived.Test.YtdkepkaflielhaaGreatDoorGrow
set_option linter.unusedVariables false
set_option linter.unusedSimpArgs false
set_option maxRecDepth 100000
set_option maxHeartbeats 8000000
namespace Go.Proofs.YtdkepkaflielhaaGreatDoor
open Go.RowKit Go.ChangeShapes
section
variable {P:Program} {ops:Array Oper} {Q:Exit→Act→World→Prop} {ds:List Tmp} {R:Nat→Value→World→Prop} {a0:Act} {w0:World}
def GStepG (P:Program) (ops:Array Oper) (Q:Exit→Act→World→Prop) (ds:List Tmp) (R:Nat→Value→World→Prop) (a0:Act) (w0:World) (i:Nat) (o:Oper):Prop :=
 ∀ (K':Act→World→Prop) (a:Act) (w:World),(∀ t,t ∉ ds→slot a t=slot a0 t)→(∀ e∈o.after,Region.binds .any e=true→R e.on (slot a (ds.getD e.on 0)) w) →
  Below w0.heap.size w0 w→(∀ v w',R i v w'→Below w.z w w'→K' (a.put o.dst v) w')→if Region.wanted o (yielded ops a.tmps)=true then Oper.wp P o a w K' Q else K' (a.put o.dst undef) w
structure GFormG (ops:Array Oper) (ds:List Tmp) (n:Nat):Prop where
 len:ds.length=ops.size
 dst:∀ i o,ops[i]?=some o→o.dst=some (ds.getD i 0)
 nodup:ds.Nodup
 fits:∀ d∈ds,d < n
 topo:∀ i o,ops[i]?=some o→∀ e∈o.after,Region.binds .any e=true→e.on < i
def gformG (ops:Array Oper) (ds:List Tmp) (n:Nat):Bool :=
 decide (ds.length=ops.size)&&(List.range ops.size).all (fun i=>match ops[i]? with
  | some o=>(match o.dst with | some d=>d==ds.getD i 0 | none=>false)&&o.after.all (fun e=>!Region.binds .any e||decide (e.on < i))
  | none=>true)&&decide ds.Nodup&&ds.all (fun d=>decide (d < n))
theorem GFormG.of {n:Nat} (h:gformG ops ds n=true):GFormG ops ds n:=by
 unfold gformG at h;simp only [Bool.and_eq_true,decide_eq_true_iff,List.all_eq_true,List.mem_range] at h;obtain ⟨⟨⟨h1,h2⟩,h3⟩,h4⟩:=h;have hb:∀ i o,ops[i]?=some o→i < ops.size:=fun i o ho=>(Array.getElem?_eq_some_iff.1 ho).1
 refine ⟨h1,fun i o ho=>?_,h3,h4,fun i o ho e he hbd=>?_⟩
 ·have:=h2 i (hb i o ho);rw [ho] at this;simp only [Bool.and_eq_true] at this;obtain ⟨t1,_⟩:=this
  cases hd:o.dst with
  | none=>rw [hd] at t1; simp at t1
  | some d=>rw [hd] at t1; simp at t1; rw [t1]; simp
 ·have:=h2 i (hb i o ho);rw [ho] at this;simp only [Bool.and_eq_true] at this;obtain ⟨_,t3⟩:=this;have:=Array.all_eq_true_iff_forall_mem.1 t3 e he;simp [hbd] at this;exact this
theorem wpAny_growG (hF:GFormG ops ds a0.tmps.size) (hst:∀ i v w w',R i v w→Below w.heap.size w w'→R i v w')
  (hstep:∀ i o,ops[i]?=some o→GStepG P ops Q ds R a0 w0 i o)
  (hdone:∀ a w,a.tmps.size=a0.tmps.size→a.defers=a0.defers→(∀ t,t ∉ ds→slot a t=slot a0 t)→(∀ i,i < ops.size→R i (slot a (ds.getD i 0)) w)→Below w0.heap.size w0 w→Q .normal a w) :
  ∀ (fuel:Nat) (listed:Array Bool) (a:Act) (w:World),unl listed ops.size≤fuel→GInv ops ds R a0 w0 listed a w→wpAny P .any ops Q fuel listed a w:=by
 have hall:∀ (listed:Array Bool) (a:Act) (w:World),GInv ops ds R a0 w0 listed a w→Region.ready .any ops listed=[]→Q .normal a w:=by
  intro listed a w hI hr;refine hdone a w hI.tsize hI.defers hI.outer (fun i hi=>hI.inner i ?_) hI.below;have key:∀ i,i < ops.size→listed.getD i false=true:=by
   intro i;induction i using Nat.strongRecOn with
   | ind i ih =>
    intro hi;have hsz:=hI.size;by_cases hh:listed.getD i true=true
    ·have hlt:i < listed.size:=by omega
     simpa [hlt] using hh
    ·exfalso
     have hmem:i∈Region.ready .any ops listed:=by
      rw [mem_ready];refine ⟨by simpa using hh,ops[i],by simp [hi],fun e he hb=>?_⟩;have hlt:=hF.topo i ops[i] (by simp [hi]) e he hb;exact ih _ hlt (by omega)
     rw [hr] at hmem;simp at hmem
  exact key i hi
 intro fuel;induction fuel with
 | zero =>
  intro listed a w hu hI;have hr:Region.ready .any ops listed=[]:=by
   rw [List.eq_nil_iff_forall_not_mem];intro i hi;rw [mem_ready] at hi;obtain ⟨h0,o,ho,_⟩:=hi;have:=unl_zero (listed:=listed) ops.size (by omega) i (Array.getElem?_eq_some_iff.1 ho).1;rw [h0] at this;simp at this
  exact ⟨hr,hall listed a w hI hr⟩
 | succ fuel ih =>
  intro listed a w hu hI;refine ⟨fun hr=>hall listed a w hI hr,fun i hi=>?_⟩;rw [mem_ready] at hi;obtain ⟨h0,o,ho,hdeps⟩:=hi;have hi:i < ops.size:=(Array.getElem?_eq_some_iff.1 ho).1;have hd:=hF.dst i o ho;have hil:i < ds.length:=by rw [hF.len]; exact hi
  have hmem:ds.getD i 0∈ds:=by rw [getD_at hil]; exact List.getElem_mem hil
  refine wpOp_step ho (fun K' hK=>?_);refine hstep i o ho K' a w hI.outer (fun e he hb=>hI.inner _ (hdeps e he hb)) hI.below (fun v w' hR hB=>hK _ _ ?_);refine ih _ _ _ (by have:=unl_set h0 ops.size hi; omega) ⟨by simp [hI.size],?_,?_,fun t ht=>?_,fun j hj=>?_,hI.below.trans (hB.mono hI.below.size)⟩
  ·rw [hd]; simp [Act.put,hI.tsize]
  ·rw [hd]; simp [Act.put,hI.defers]
  ·rw [hd,slot_put_ne (show ds.getD i 0≠t from fun e=>ht (e ▸ hmem))]; exact hI.outer t ht
  ·rw [hd];by_cases e:i=j
   ·subst e;rw [slot_put_eq (by rw [hI.tsize]; exact hF.fits _ hmem)];exact hR
   ·rw [getD_set_ne false e] at hj;have hjl:j < ds.length:=by
     rw [hF.len,← hI.size];rcases Nat.lt_or_ge j listed.size with h' | h'
     ·exact h'
     ·simp [Array.getElem?_eq_none h'] at hj
    rw [slot_put_ne (nodup_ne hF.nodup hil hjl e)];exact hst _ _ _ _ (hI.inner j hj) hB
theorem wp_region_growG0 {id:Nat} (hm:P.follows .mixedOrders=true) (hF:GFormG ops ds a0.tmps.size) (hst:∀ i v w w',R i v w→Below w.heap.size w w'→R i v w')
  (hstep:∀ i o,ops[i]?=some o→GStepG P ops Q ds R a0 w0.drew i o)
  (hdone:∀ a w,a.tmps.size=a0.tmps.size→a.defers=a0.defers→(∀ t,t ∉ ds→slot a t=slot a0 t)→(∀ i,i < ops.size→R i (slot a (ds.getD i 0)) w)→Below w0.drew.heap.size w0.drew w→Q .normal a w) :
  (Code.region id ops true).wp P Q a0 w0:=by
 refine wp_region_any hm (wpAny_growG (w0:=w0.drew) hF hst hstep hdone ops.size _ a0 w0.drew (unl_le _ _) ⟨by simp,rfl,rfl,fun _ _=>rfl,fun i hi=>?_,Below.refl _ _⟩);exfalso
 by_cases h:i < ops.size
 ·simp [h] at hi
 ·simp [h] at hi
end
theorem yielded_of {ops:Array Oper} {a:Act} {j d:Nat} {o:Oper} {b:Bool} (ho:ops[j]?=some o) (hd:o.dst=some d) (hs:slot a d=.bool b):yielded ops a.tmps j=some b:=by
 unfold yielded;rw [ho];simp only [Option.bind_some,hd];unfold slot at hs;by_cases h:d < a.tmps.size
 ·simp [h] at hs ⊢; rw [hs]
 ·simp [h,undef] at hs
theorem wanted_of {ops:Array Oper} {a:Act} {o:Oper} {j d:Nat} {oj:Oper} {b want:Bool} (hg:o.guard=some (j,want)) (ho:ops[j]?=some oj) (hd:oj.dst=some d) (hs:slot a d=.bool b):Region.wanted o (yielded ops a.tmps)=(b==want):=by
 unfold Region.wanted;rw [hg];show (yielded ops a.tmps j==some want)=_;rw [yielded_of ho hd hs]
 cases b<;>cases want<;>rfl
theorem wanted_undef {ops:Array Oper} {a:Act} {o:Oper} {j d:Nat} {oj:Oper} {want:Bool} (hg:o.guard=some (j,want)) (ho:ops[j]?=some oj) (hd:oj.dst=some d) (hs:slot a d=undef):Region.wanted o (yielded ops a.tmps)=false:=by
 unfold Region.wanted;rw [hg];show (yielded ops a.tmps j==some want)=_;unfold yielded;rw [ho];simp only [Option.bind_some,hd];unfold slot at hs;by_cases h:d < a.tmps.size
 ·simp [h,undef] at hs ⊢; rw [hs]; simp
 ·simp [h]
theorem wants {ops:Array Oper} {a:Act} {o:Oper} (j d:Nat) {oj:Oper} (b want:Bool) {A B:Prop} (hg:o.guard=some (j,want)) (ho:ops[j]?=some oj) (hd:oj.dst=some d) (hs:slot a d=.bool b) (hb:(b==want)=true) (h:A):if Region.wanted o (yielded ops a.tmps)=true then A else B:=by
 rw [wanted_of hg ho hd hs,if_pos hb]; exact h
theorem wantsN {ops:Array Oper} {a:Act} {o:Oper} (j d:Nat) {oj:Oper} (b want:Bool) {A B:Prop} (hg:o.guard=some (j,want)) (ho:ops[j]?=some oj) (hd:oj.dst=some d) (hs:slot a d=.bool b) (hb:(b==want)=false) (h:B):if Region.wanted o (yielded ops a.tmps)=true then A else B:=by
 rw [wanted_of hg ho hd hs,if_neg (by rw [hb]; decide)]; exact h
theorem wantsU {ops:Array Oper} {a:Act} {o:Oper} (j d:Nat) {oj:Oper} {want:Bool} {A B:Prop} (hg:o.guard=some (j,want)) (ho:ops[j]?=some oj) (hd:oj.dst=some d) (hs:slot a d=undef) (h:B):if Region.wanted o (yielded ops a.tmps)=true then A else B:=by
 rw [wanted_undef hg ho hd hs,if_neg (by decide)]; exact h
theorem wanted_none {ops:Array Oper} {a:Act} {o:Oper} (hg:o.guard=none):Region.wanted o (yielded ops a.tmps)=true:=by unfold Region.wanted; rw [hg]
end Go.Proofs.YtdkepkaflielhaaGreatDoor
