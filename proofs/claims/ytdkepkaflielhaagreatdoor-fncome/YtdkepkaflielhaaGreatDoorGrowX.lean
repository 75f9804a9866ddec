import Derived.Test.YtdkepkaflielhaaGreatDoorAb
import Derived.Test.YtdkepkaflielhaaGreatDoorGrowU
set_option linter.unusedVariables false
set_option linter.unusedSimpArgs false
set_option maxRecDepth 100000
set_option maxHeartbeats 8000000
namespace Go.Proofs.YtdkepkaflielhaaGreatDoor
open Go.RowKit
section
variable {P:Program} {ops:Array Oper} {Q:Exit→Act→World→Prop} {ds:List Tmp} {R:Nat→Value→World→Prop} {a0:Act} {w0:World} {last:Oper} {E:World→World→Prop} {I:World→Prop}
structure XInv (E:World→World→Prop) (I:World→Prop) (ops:Array Oper) (ds:List Tmp) (R:Nat→Value→World→Prop) (a0:Act) (w0:World) (listed:Array Bool) (a:Act) (w:World):Prop where
 size:listed.size=ops.size
 tsize:a.tmps.size=a0.tmps.size
 defers:a.defers=a0.defers
 outer:∀ t,t ∉ ds→slot a t=slot a0 t
 inner:∀ i,listed.getD i false=true→R i (slot a (ds.getD i 0)) w
 inv:I w
def XStep (E:World→World→Prop) (I:World→Prop) (P:Program) (Q:Exit→Act→World→Prop) (ds:List Tmp) (R:Nat→Value→World→Prop) (a0:Act) (i:Nat) (o:Oper):Prop :=
 ∀ (K':Act→World→Prop) (a:Act) (w:World),(∀ t,t ∉ ds→slot a t=slot a0 t)→(∀ e∈o.after,Region.binds .any e=true→R e.on (slot a (ds.getD e.on 0)) w) →
  I w→(∀ v w',R i v w'→E w w'→I w'→K' (a.put o.dst v) w')→Oper.wp P o a w K' Q
theorem wpAny_growXU (hF:GFormU ops ds a0.tmps.size last) (hst:∀ i v w w',R i v w→E w w'→R i v w')
  (hstep:∀ i o,i < ds.length→ops[i]?=some o→XStep E I P Q ds R a0 i o)
  (hlast:∀ (K':Act→World→Prop) a w,a.tmps.size=a0.tmps.size→a.defers=a0.defers→(∀ t,t ∉ ds→slot a t=slot a0 t)→(∀ i,i < ds.length→R i (slot a (ds.getD i 0)) w)→I w→(∀ a' w',Q .normal a' w'→K' a' w')→Oper.wp P last a w K' Q) :
  ∀ (fuel:Nat) (listed:Array Bool) (a:Act) (w:World),unl listed ops.size≤fuel→XInv E I ops ds R a0 w0 listed a w→listed.getD ds.length true=false→(∀ i o,ops[i]?=some o→listed.getD i false=true→∀ e∈o.after,Region.binds .any e=true→listed.getD e.on false=true)→wpAny P .any ops Q fuel listed a w:=by
 have hne:∀ (listed:Array Bool),listed.size=ops.size→listed.getD ds.length true=false→Region.ready .any ops listed=[]→False:=by
  intro listed hsz hl hr;have key:∀ i,i < ds.length→listed.getD i false=true:=by
   intro i;induction i using Nat.strongRecOn with
   | ind i ih =>
    intro hi;have hio:i < ops.size:=by rw [hF.len]; omega
    by_cases hh:listed.getD i true=true
    ·have hlt:i < listed.size:=by omega
     simpa [hlt] using hh
    ·exfalso
     have hmem:i∈Region.ready .any ops listed:=by
      rw [mem_ready];refine ⟨by simpa using hh,ops[i],by simp [hio],fun e he hb=>?_⟩;have hlt:=hF.topo i ops[i] hi (by simp [hio]) e he hb;exact ih _ hlt (by omega)
     rw [hr] at hmem;simp at hmem
  have hmem:ds.length∈Region.ready .any ops listed:=by
   rw [mem_ready];exact ⟨hl,last,hF.isLast,fun e he hb=>key _ (hF.ledge e he hb)⟩
  rw [hr] at hmem;simp at hmem
 intro fuel;induction fuel with
 | zero =>
  intro listed a w hu hI hl hcl;exfalso
  have:=unl_zero (listed:=listed) ops.size (by omega) ds.length (by rw [hF.len]; omega);rw [hl] at this;simp at this
 | succ fuel ih =>
  intro listed a w hu hI hl hcl;refine ⟨fun hr=>(hne listed hI.size hl hr).elim,fun i hi=>?_⟩;rw [mem_ready] at hi;obtain ⟨h0,o,ho,hdeps⟩:=hi;have hi:i < ops.size:=(Array.getElem?_eq_some_iff.1 ho).1;by_cases hil:i < ds.length
  ·obtain ⟨hd,hg⟩:=hF.dst i o hil ho;have hmem:ds.getD i 0∈ds:=by rw [getD_at hil]; exact List.getElem_mem hil
   refine wpOp_step ho (fun K' hK=>?_);rw [if_pos (by unfold Region.wanted; rw [hg])];refine hstep i o hil ho K' a w hI.outer (fun e he hb=>hI.inner _ (hdeps e he hb)) hI.inv (fun v w' hR hB hI'=>hK _ _ ?_);refine ih _ _ _ (by have:=unl_set h0 ops.size hi; omega) ⟨by simp [hI.size],?_,?_,fun t ht=>?_,fun j hj=>?_,hI'⟩ (by rw [getD_set_ne true (by omega)]; exact hl) ?_;rotate_right
   ·have hset:∀ j,listed.getD j false=true→(listed.setIfInBounds i true).getD j false=true:=fun j hj=>by
     by_cases e:i=j
     ·subst e; have hs:i < listed.size:=by rw [hI.size]; exact hi
      simp [hs]
     ·rw [getD_set_ne false e]; exact hj
    intro j o' ho' hj e he hb;by_cases hij:i=j
    ·subst hij;obtain rfl:o=o':=by rw [ho] at ho'; exact Option.some.inj ho'
     exact hset _ (hdeps e he hb)
    ·rw [getD_set_ne false hij] at hj;exact hset _ (hcl j o' ho' hj e he hb)
   ·rw [hd]; simp [Act.put,hI.tsize]
   ·rw [hd]; simp [Act.put,hI.defers]
   ·rw [hd,slot_put_ne (show ds.getD i 0≠t from fun e=>ht (e ▸ hmem))]; exact hI.outer t ht
   ·rw [hd];by_cases e:i=j
    ·subst e;rw [slot_put_eq (by rw [hI.tsize]; exact hF.fits _ hmem)];exact hR
    ·rw [getD_set_ne false e] at hj;have hjo:j < ops.size:=by
      rw [← hI.size];rcases Nat.lt_or_ge j listed.size with h' | h'
      ·exact h'
      ·simp [Array.getElem?_eq_none h'] at hj
     have hjl:j < ds.length:=by
      rcases Nat.lt_or_ge j ds.length with h' | h'
      ·exact h'
      ·exfalso
       have hjn:j=ds.length:=by have:=hF.len; omega
       have hjs:j < listed.size:=by rw [hI.size]; exact hjo
       rw [← hjn] at hl;simp [hjs] at hl hj;rw [hl] at hj;simp at hj
     rw [slot_put_ne (nodup_ne hF.nodup hil hjl e)];exact hst _ _ _ _ (hI.inner j hj) hB
  ·have hin:i=ds.length:=by have:=hF.len; omega
   subst hin;obtain rfl:last=o:=by have:=hF.isLast; rw [this] at ho; exact Option.some.inj ho
   refine wpOp_step ho (fun K' hK=>?_);rw [if_pos (by unfold Region.wanted; rw [hF.lguard])];have hall:∀ i,i < ds.length→listed.getD i false=true:=by
    have key:∀ d j,ds.length-j≤d→j < ds.length→listed.getD j false=true:=by
     intro d;induction d with
     | zero=>intro j h1 h2; omega
     | succ d ihd =>
      intro j h1 h2;rcases hF.lall j h2 with ⟨e,he,hb,hon⟩ | ⟨q,oq,hq1,hq2,hoq,e,he,hb,hon⟩
      ·rw [← hon]; exact hdeps e he hb
      ·rw [← hon]; exact hcl q oq hoq (ihd q (by omega) hq2) e he hb
    exact fun j hj=>key ds.length j (by omega) hj
   refine hlast K' a w hI.tsize hI.defers hI.outer (fun j hj=>hI.inner j (hall j hj)) hI.inv (fun a' w' hQ=>hK _ _ (wpAny_done ?_ hQ fuel));rw [List.eq_nil_iff_forall_not_mem];intro j hj;rw [mem_ready] at hj;obtain ⟨g0,o',ho',_⟩:=hj;have hjo:j < ops.size:=(Array.getElem?_eq_some_iff.1 ho').1;by_cases e:ds.length=j
   ·subst e;have hs:ds.length < listed.size:=by rw [hI.size]; exact hi
    simp [hs] at g0
   ·rw [getD_set_ne true e] at g0;have hjl:j < ds.length:=by have:=hF.len; omega
    have:=hall j hjl;have hs:j < listed.size:=by rw [hI.size]; exact hjo
    simp [hs] at g0 this;rw [g0] at this;simp at this
def XSteps (E:World→World→Prop) (I:World→Prop) (P:Program) (Q:Exit→Act→World→Prop) (ds:List Tmp) (R:Nat→Value→World→Prop) (a0:Act):Nat→List Oper→Prop
 | _,[]=>True
 | n,o::l=>XStep E I P Q ds R a0 n o∧XSteps E I P Q ds R a0 (n+1) l
theorem XSteps.at':∀ (l:List Oper) (n:Nat),XSteps E I P Q ds R a0 n l→∀ i o,l[i]?=some o→XStep E I P Q ds R a0 (n+i) o
 | [],_,_,i,o,h=>by simp at h
 | p::l,n,hs,0,o,h=>by simp at h; subst h; exact hs.1
 | p::l,n,hs,i+1,o,h=>by
  have:=XSteps.at' l (n+1) hs.2 i o (by simpa using h);rwa [show n+1+i=n+(i+1) by omega] at this
def StableX (E:World→World→Prop) (r:Value→World→Prop):Prop:=∀ v w w',r v w→E w w'→r v w'
theorem stX {Rs:List (Value→World→Prop)} (hst:∀ r∈Rs,StableX E r) (i:Nat) (v:Value) (w w':World) (h:rAt Rs i v w) (hb:E w w'):rAt Rs i v w':=by
 unfold rAt at *;by_cases hi:i < Rs.length
 ·have e:Rs.getD i (fun _ _=>True)=Rs[i]:=by simp [hi]
  rw [e] at h ⊢;exact hst _ (List.getElem_mem hi) v w w' h hb
 ·have e:Rs.getD i (fun _ _=>True)=fun _ _=>True:=by simp [Nat.le_of_not_lt hi]
  rw [e]; trivial
theorem wp_region_growXU {id:Nat} {Rs:List (Value→World→Prop)} (E:World→World→Prop) (I:World→Prop) (ds:List Tmp) (last:Oper) (hm:P.follows .mixedOrders=true) (hlst:ops[ds.length]?=some last) (hF:gformU ops ds a0.tmps.size last=true) (hl:Rs.length=ds.length) (hI0:I w0.drew) (hst:∀ r∈Rs,StableX E r)
  (hstep:XSteps E I P Q ds (rAt Rs) a0 0 (ops.toList.take ds.length))
  (hlast:∀ (X:Nat→Value) (a:Act) (K':Act→World→Prop) w,a=putsFrom X a0 0 ds→(∀ i,i < ds.length→slot a (ds.getD i 0)=X i)→RAll X w 0 Rs→I w→(∀ a' w',Q .normal a' w'→K' a' w')→Oper.wp P last a w K' Q) :
  (Code.region id ops true).wp P Q a0 w0:=by
 have hG:=GFormU.of hlst hF;have hlen:=hG.len;refine wp_region_any hm (wpAny_growXU (E:=E) (I:=I) (w0:=w0.drew) (R:=rAt Rs) hG (stX hst) (fun i o hi ho=>?_) (fun K' a w h1 h2 h3 h4 h5 h6=>?_) ops.size _ a0 w0.drew (unl_le _ _) ⟨by simp,rfl,rfl,fun _ _=>rfl,fun i hi=>?_,hI0⟩ ?_ (fun i o _ hi=>?_))
 ·have:=XSteps.at' (ops.toList.take ds.length) 0 hstep i o (by rw [List.getElem?_take_of_lt hi]; simpa using ho);rwa [Nat.zero_add] at this
 ·have hp:putsFrom (fun i=>slot a (ds.getD i 0)) a0 0 ds=a:=puts_eq ds a0 0 h1.symm h2.symm (fun i _=>by rw [Nat.zero_add]) (fun t ht=>(h3 t ht).symm) (fun d hd=>by rw [h1]; exact hG.fits d hd);exact hlast (fun i=>slot a (ds.getD i 0)) a K' w hp.symm (fun i _=>rfl) (RAll.mk Rs 0 (fun i hi=>by rw [Nat.zero_add]; exact h4 i (by omega))) h5 h6
 ·exfalso
  by_cases h:i < ops.size
  ·simp [h] at hi
  ·simp [h] at hi
 ·simp [show ds.length < ops.size by omega]
 ·exfalso
  by_cases h:i < ops.size
  ·simp [h] at hi
  ·simp [h] at hi
end
end Go.Proofs.YtdkepkaflielhaaGreatDoor
