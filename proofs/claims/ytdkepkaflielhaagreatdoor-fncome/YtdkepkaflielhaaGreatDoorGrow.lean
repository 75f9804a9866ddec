import Derived.Test.YtdkepkaflielhaaGreatDoorSz
import Derived.Test.YtdkepkaflielhaaGreatDoorAb
import Derived.Test.YtdkepkaflielhaaGreatDoorBase
import Derived.Orders
import Derived.RegionTactic
set_option linter.unusedVariables false
set_option linter.unusedSimpArgs false
set_option maxRecDepth 100000
set_option maxHeartbeats 8000000
namespace Go.Proofs.YtdkepkaflielhaaGreatDoor
open Go.RowKit Go.ChangeShapes
def slot (a:Act) (t:Tmp):Value:=a.tmps.getD t undef
theorem slot_put_ne {a:Act} {d t:Tmp} {v:Value} (h:d≠t):slot (a.put (some d) v) t=slot a t:=by
 simp [slot,Act.put,Array.getElem?_setIfInBounds_ne h]
theorem slot_put_eq {a:Act} {d:Tmp} {v:Value} (h:d < a.tmps.size):slot (a.put (some d) v) d=v:=by
 simp [slot,Act.put,h]
def unl (listed:Array Bool):Nat→Nat
 | 0=>0
 | n+1=>unl listed n+(if listed.getD n true=true then 0 else 1)
theorem unl_le (listed:Array Bool):∀ n,unl listed n≤n
 | 0=>Nat.le_refl _
 | n+1=>by have:=unl_le listed n; unfold unl; split<;>omega
theorem unl_ge {listed:Array Bool} {i:Nat}:∀ n,n≤i→unl (listed.setIfInBounds i true) n=unl listed n
 | 0,_=>rfl
 | n+1,h=>by unfold unl; rw [unl_ge n (by omega),getD_set_ne true (by omega)]
theorem unl_set {listed:Array Bool} {i:Nat} (hf:listed.getD i true=false):∀ n,i < n→unl (listed.setIfInBounds i true) n+1=unl listed n
 | 0,h=>by omega
 | n+1,h=>by
  unfold unl;by_cases e:i=n
  ·subst e;have hlt:i < listed.size:=by
    rcases Nat.lt_or_ge i listed.size with h' | h'
    ·exact h'
    ·simp [Array.getElem?_eq_none h'] at hf
   have hs:(listed.setIfInBounds i true).getD i true=true:=by simp [hlt]
   rw [unl_ge i lR,hs,hf,if_pos rfl,if_neg (by simp)]
  ·rw [getD_set_ne true e,← unl_set hf n (by omega)]; omega
theorem unl_zero {listed:Array Bool}:∀ n,unl listed n=0→∀ i,i < n→listed.getD i true=true
 | 0,_,i,h=>by omega
 | n+1,h0,i,h=>by
  unfold unl at h0;by_cases e:i=n
  ·subst e;by_cases hh:listed.getD i true=true
   ·exact hh
   ·rw [if_neg hh] at h0; omega
  ·exact unl_zero n (by omega) i (by omega)
section
variable {P:Program} {ops:Array Oper} {Q:Exit→Act→World→Prop} {ds:List Tmp} {R:Nat→Value→World→Prop} {a0:Act} {w0:World}
structure GInv (ops:Array Oper) (ds:List Tmp) (R:Nat→Value→World→Prop) (a0:Act) (w0:World) (listed:Array Bool) (a:Act) (w:World):Prop where
 size:listed.size=ops.size
 tsize:a.tmps.size=a0.tmps.size
 defers:a.defers=a0.defers
 outer:∀ t,t ∉ ds→slot a t=slot a0 t
 inner:∀ i,listed.getD i false=true→R i (slot a (ds.getD i 0)) w
 below:Below w0.heap.size w0 w
def GStep (P:Program) (Q:Exit→Act→World→Prop) (ds:List Tmp) (R:Nat→Value→World→Prop) (a0:Act) (w0:World) (i:Nat) (o:Oper):Prop :=
 ∀ (K':Act→World→Prop) (a:Act) (w:World),(∀ t,t ∉ ds→slot a t=slot a0 t)→(∀ e∈o.after,Region.binds .any e=true→R e.on (slot a (ds.getD e.on 0)) w) →
  Below w0.heap.size w0 w→(∀ v w',R i v w'→Below w.z w w'→K' (a.put o.dst v) w')→Oper.wp P o a w K' Q
structure GForm (ops:Array Oper) (ds:List Tmp) (n:Nat):Prop where
 len:ds.length=ops.size
 dst:∀ i o,ops[i]?=some o→o.dst=some (ds.getD i 0)∧o.guard=none
 nodup:ds.Nodup
 fits:∀ d∈ds,d < n
 topo:∀ i o,ops[i]?=some o→∀ e∈o.after,Region.binds .any e=true→e.on < i
def gform (ops:Array Oper) (ds:List Tmp) (n:Nat):Bool :=
 decide (ds.length=ops.size)&&(List.range ops.size).all (fun i=>match ops[i]? with
  | some o=>(match o.dst with | some d=>d==ds.getD i 0 | none=>false)&&o.guard.isNone&&o.after.all (fun e=>!Region.binds .any e||decide (e.on < i))
  | none=>true)&&decide ds.Nodup&&ds.all (fun d=>decide (d < n))
theorem GForm.of {n:Nat} (h:gform ops ds n=true):GForm ops ds n:=by
 unfold gform at h;simp only [Bool.and_eq_true,decide_eq_true_iff,List.all_eq_true,List.mem_range] at h;obtain ⟨⟨⟨h1,h2⟩,h3⟩,h4⟩:=h;refine ⟨h1,fun i o ho=>?_,h3,h4,fun i o ho e he hb=>?_⟩
 ·have:=h2 i (Array.getElem?_eq_some_iff.1 ho).1;rw [ho] at this;simp only [Bool.and_eq_true] at this;obtain ⟨⟨t1,t2⟩,_⟩:=this;refine ⟨?_,by simpa using t2⟩
  cases hd:o.dst with
  | none=>rw [hd] at t1; simp at t1
  | some d=>rw [hd] at t1; simp at t1; rw [t1]; simp
 ·have:=h2 i (Array.getElem?_eq_some_iff.1 ho).1;rw [ho] at this;simp only [Bool.and_eq_true] at this;obtain ⟨_,t3⟩:=this;have:=Array.all_eq_true_iff_forall_mem.1 t3 e he;simp [hb] at this;exact this
theorem getD_at {ds:List Tmp} {i:Nat} (h:i < ds.length):ds.getD i 0=ds[i]:=by simp [h]
theorem nodup_ne {ds:List Tmp} (h:ds.Nodup) {i j:Nat} (hi:i < ds.length) (hj:j < ds.length) (hne:i≠j):ds.getD i 0≠ds.getD j 0:=by
 intro e;rw [getD_at hi,getD_at hj] at e;have hp:=List.pairwise_iff_getElem.1 h;rcases Nat.lt_or_gt_of_ne hne with hlt | hlt
 ·exact hp i j hi hj hlt e
 ·exact hp j i hj hi hlt e.symm
theorem wpAny_grow (hF:GForm ops ds a0.tmps.size) (hst:∀ i v w w',R i v w→Below w.heap.size w w'→R i v w')
  (hstep:∀ i o,ops[i]?=some o→GStep P Q ds R a0 w0 i o)
  (hdone:∀ a w,a.tmps.size=a0.tmps.size→a.defers=a0.defers→(∀ t,t ∉ ds→slot a t=slot a0 t)→(∀ i,i < ops.size→R i (slot a (ds.getD i 0)) w)→Below w0.heap.size w0 w→Q .normal a w) :
  ∀ (fuel:Nat) (listed:Array Bool) (a:Act) (w:World),unl listed ops.size≤fuel→GInv ops ds R a0 w0 listed a w→wpAny P .any ops Q fuel listed a w:=by
 have hall:∀ (listed:Array Bool) (a:Act) (w:World),GInv ops ds R a0 w0 listed a w→Region.ready .any ops listed=[]→Q .normal a w:=by
  intro listed a w hI hr;refine hdone a w hI.tsize hI.defers hI.outer (fun i hi=>hI.inner i ?_) hI.below;have key:∀ i,i < ops.size→listed.getD i false=true:=by
   intro i;induction i using Nat.strongRecOn with
   | ind i ih =>
    intro hi;have hsz:=hI.size;by_cases hh:listed.getD i true=true
    ·have hlt:i < listed.size:=by omega
     simpa [hlt] using hh
    ·exfalso
     have hmem:i∈Region.ready .any ops listed:=by
      rw [mem_ready];refine ⟨by simpa using hh,ops[i],by simp [hi],fun e he hb=>?_⟩;have hlt:=hF.topo i ops[i] (by simp [hi]) e he hb;exact ih _ hlt (by omega)
     rw [hr] at hmem;simp at hmem
  exact key i hi
 intro fuel;induction fuel with
 | zero =>
  intro listed a w hu hI;have hr:Region.ready .any ops listed=[]:=by
   rw [List.eq_nil_iff_forall_not_mem];intro i hi;rw [mem_ready] at hi;obtain ⟨h0,o,ho,_⟩:=hi;have:=unl_zero (listed:=listed) ops.size (by omega) i (Array.getElem?_eq_some_iff.1 ho).1;rw [h0] at this;simp at this
  exact ⟨hr,hall listed a w hI hr⟩
 | succ fuel ih =>
  intro listed a w hu hI;refine ⟨fun hr=>hall listed a w hI hr,fun i hi=>?_⟩;rw [mem_ready] at hi;obtain ⟨h0,o,ho,hdeps⟩:=hi;have hi:i < ops.size:=(Array.getElem?_eq_some_iff.1 ho).1;obtain ⟨hd,hg⟩:=hF.dst i o ho;have hil:i < ds.length:=by rw [hF.len]; exact hi
  have hmem:ds.getD i 0∈ds:=by rw [getD_at hil]; exact List.getElem_mem hil
  refine wpOp_step ho (fun K' hK=>?_);rw [if_pos (by unfold Region.wanted; rw [hg])];refine hstep i o ho K' a w hI.outer (fun e he hb=>hI.inner _ (hdeps e he hb)) hI.below (fun v w' hR hB=>hK _ _ ?_);refine ih _ _ _ (by have:=unl_set h0 ops.size hi; omega) ⟨by simp [hI.size],?_,?_,fun t ht=>?_,fun j hj=>?_,hI.below.trans (hB.mono hI.below.size)⟩
  ·rw [hd]; simp [Act.put,hI.tsize]
  ·rw [hd]; simp [Act.put,hI.defers]
  ·rw [hd,slot_put_ne (show ds.getD i 0≠t from fun e=>ht (e ▸ hmem))]; exact hI.outer t ht
  ·rw [hd];by_cases e:i=j
   ·subst e;rw [slot_put_eq (by rw [hI.tsize]; exact hF.fits _ hmem)];exact hR
   ·rw [getD_set_ne false e] at hj;have hjl:j < ds.length:=by
     rw [hF.len,← hI.size];rcases Nat.lt_or_ge j listed.size with h' | h'
     ·exact h'
     ·simp [Array.getElem?_eq_none h'] at hj
    rw [slot_put_ne (nodup_ne hF.nodup hil hjl e)];exact hst _ _ _ _ (hI.inner j hj) hB
theorem wp_region_grow {id:Nat} (hm:P.follows .mixedOrders=true) (hF:GForm ops ds a0.tmps.size) (hst:∀ i v w w',R i v w→Below w.heap.size w w'→R i v w')
  (hstep:∀ i o,ops[i]?=some o→GStep P Q ds R a0 w0.drew i o)
  (hdone:∀ a w,a.tmps.size=a0.tmps.size→a.defers=a0.defers→(∀ t,t ∉ ds→slot a t=slot a0 t)→(∀ i,i < ops.size→R i (slot a (ds.getD i 0)) w)→Below w0.drew.heap.size w0.drew w→Q .normal a w) :
  (Code.region id ops true).wp P Q a0 w0:=by
 refine wp_region_any hm (wpAny_grow (w0:=w0.drew) hF hst hstep hdone ops.size _ a0 w0.drew (unl_le _ _) ⟨by simp,rfl,rfl,fun _ _=>rfl,fun i hi=>?_,Below.refl _ _⟩);exfalso
 by_cases h:i < ops.size
 ·simp [h] at hi
 ·simp [h] at hi
def rAt (Rs:List (Value→World→Prop)) (i:Nat) (v:Value) (w:World):Prop:=Rs.getD i (fun _ _=>True) v w
def GSteps (P:Program) (Q:Exit→Act→World→Prop) (ds:List Tmp) (R:Nat→Value→World→Prop) (a0:Act) (w0:World):Nat→List Oper→Prop
 | _,[]=>True
 | n,o::l=>GStep P Q ds R a0 w0 n o∧GSteps P Q ds R a0 w0 (n+1) l
theorem GSteps.at':∀ (l:List Oper) (n:Nat),GSteps P Q ds R a0 w0 n l→∀ i o,l[i]?=some o→GStep P Q ds R a0 w0 (n+i) o
 | [],_,_,i,o,h=>by simp at h
 | p::l,n,hs,0,o,h=>by simp at h; subst h; exact hs.1
 | p::l,n,hs,i+1,o,h=>by
  have:=GSteps.at' l (n+1) hs.2 i o (by simpa using h);rwa [show n+1+i=n+(i+1) by omega] at this
def RAll (X:Nat→Value) (w:World):Nat→List (Value→World→Prop)→Prop
 | _,[]=>True
 | n,r::l=>r (X n) w∧RAll X w (n+1) l
theorem RAll.mk {X:Nat→Value} {w:World}:∀ (l:List (Value→World→Prop)) (n:Nat),(∀ i,i < l.length→rAt l i (X (n+i)) w)→RAll X w n l
 | [],_,_=>trivial
 | r::l,n,h=>⟨h 0 (by simp),RAll.mk l (n+1) (fun i hi=>by have:=h (i+1) (by simp; omega); rw [show n+1+i=n+(i+1) by omega]; exact this)⟩
def Stable (r:Value→World→Prop):Prop:=∀ v w w',r v w→Below w.heap.size w w'→r v w'
def putsFrom (X:Nat→Value):Act→Nat→List Tmp→Act
 | a,_,[]=>a
 | a,k,d::l=>putsFrom X (a.put (some d) (X k)) (k+1) l
theorem act_ext {a b:Act} (h1:a.tmps.size=b.tmps.size) (h2:a.defers=b.defers) (h:∀ t,slot a t=slot b t):a=b:=by
 obtain ⟨ta,da⟩:=a;obtain ⟨tb,db⟩:=b;simp only at h1 h2;subst h2;congr 1
 refine Array.ext h1 (fun i hi hj=>?_);have:=h i;simpa [slot,hi,hj] using this
theorem puts_eq {X:Nat→Value} {a:Act}:∀ (l:List Tmp) (b:Act) (k:Nat),b.tmps.size=a.tmps.size→b.defers=a.defers→(∀ i,i < l.length→X (k+i)=slot a (l.getD i 0))→(∀ t,t ∉ l→slot b t=slot a t)→(∀ d∈l,d < a.tmps.size)→putsFrom X b k l=a
 | [],b,k,h1,h2,_,h4,_=>act_ext h1 h2 (fun t=>h4 t (by simp))
 | d::l,b,k,h1,h2,h3,h4,h5=>by
  refine puts_eq l _ (k+1) (by simp [Act.put,h1]) (by simp [Act.put,h2]) (fun i hi=>?_) (fun t ht=>?_) (fun e he=>h5 e (by simp [he]))
  ·have:=h3 (i+1) (by simp; omega);rw [show k+1+i=k+(i+1) by omega,this];simp
  ·by_cases e:d=t
   ·subst e;rw [slot_put_eq (by rw [h1]; exact h5 d (by simp))];have:=h3 0 (by simp);simpa using this
   ·rw [slot_put_ne e];exact h4 t (by simp; exact ⟨fun h=>e h.symm,ht⟩)
theorem wp_region_growL {id:Nat} {Rs:List (Value→World→Prop)} (ds:List Tmp) (hm:P.follows .mixedOrders=true) (hF:gform ops ds a0.tmps.size=true) (hl:Rs.length=ops.size) (hst:∀ r∈Rs,Stable r)
  (hstep:GSteps P Q ds (rAt Rs) a0 w0.drew 0 ops.toList)
  (hdone:∀ (X:Nat→Value) w,RAll X w 0 Rs→Below w0.drew.heap.size w0.drew w→Q .normal (putsFrom X a0 0 ds) w) :
  (Code.region id ops true).wp P Q a0 w0:=by
 have hG:=GForm.of hF;refine wp_region_grow (ds:=ds) (R:=rAt Rs) hm hG (fun i v w w' h hb=>?_) (fun i o ho=>?_) (fun a w h1 h2 h3 h4 h5=>?_)
 ·unfold rAt at *;by_cases hi:i < Rs.length
  ·have e:Rs.getD i (fun _ _=>True)=Rs[i]:=by simp [hi]
   rw [e] at h ⊢;exact hst _ (List.getElem_mem hi) v w w' h hb
  ·have e:Rs.getD i (fun _ _=>True)=fun _ _=>True:=by simp [Nat.le_of_not_lt hi]
   rw [e]; trivial
 ·have:=GSteps.at' ops.toList 0 hstep i o (by simpa using ho);rwa [Nat.zero_add] at this
 ·have hp:putsFrom (fun i=>slot a (ds.getD i 0)) a0 0 ds=a:=puts_eq ds a0 0 h1.symm h2.symm (fun i _=>by rw [Nat.zero_add]) (fun t ht=>(h3 t ht).symm) (fun d hd=>by rw [h1]; exact hG.fits d hd);rw [← hp];exact hdone (fun i=>slot a (ds.getD i 0)) w (RAll.mk Rs 0 (fun i hi=>by rw [Nat.zero_add]; exact h4 i (by omega))) h5
def IsV (x:Value):Value→World→Prop:=fun v _=>v=x
theorem stable_isV (x:Value):Stable (IsV x):=fun _ _ _ h _=>h
def IsRow (x y:Int):Value→World→Prop:=fun v w=>∃ b,v=.slice (some ⟨b,0,none⟩) 2 2∧w.cell? ⟨b,0,none⟩=some (.int .u8 x)∧w.cell? ⟨b,1,none⟩=some (.int .u8 y)
theorem stable_isRow (x y:Int):Stable (IsRow x y):=fun v w w' ⟨b,h1,h2,h3⟩ hb=>by
 have hlt:=World.block_lt_of_cell? w _ h2;exact ⟨b,h1,((bcell hb).1 b 0 hlt).trans h2,((bcell hb).1 b 1 hlt).trans h3⟩
end
end Go.Proofs.YtdkepkaflielhaaGreatDoor
