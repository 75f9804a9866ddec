import Derived.Test.YtdkepkaflielhaaGreatDoorSz
import Derived.Test.YtdkepkaflielhaaGreatDoorAb
import Derived.Test.YtdkepkaflielhaaGreatDoorGrowX
import Derived.Test.YtdkepkaflielhaaGreatDoorGrowV
set_option linter.unusedVariables false
set_option linter.unusedSimpArgs false
set_option maxRecDepth 100000
set_option maxHeartbeats 8000000
namespace Go.Proofs.YtdkepkaflielhaaGreatDoor
open Go.RowKit Go.ChangeShapes
section
variable {P:Program} {ops:Array Oper} {Q:Exit→Act→World→Prop} {ds:List Tmp} {R:Nat→Value→World→Prop} {a0:Act} {w0:World} {E:World→World→Prop} {I:World→Prop}
def GStepX (E:World→World→Prop) (I:World→Prop) (P:Program) (ops:Array Oper) (Q:Exit→Act→World→Prop) (ds:List Tmp) (R:Nat→Value→World→Prop) (a0:Act) (i:Nat) (o:Oper):Prop :=
 ∀ (K':Act→World→Prop) (a:Act) (w:World),(∀ t,t ∉ ds→slot a t=slot a0 t)→(∀ e∈o.after,Region.binds .any e=true→R e.on (slot a (ds.getD e.on 0)) w) →
  I w→(∀ v w',R i v w'→E w w'→I w'→K' (a.put o.dst v) w')→if Region.wanted o (yielded ops a.tmps)=true then Oper.wp P o a w K' Q else K' (a.put o.dst undef) w
theorem GStepX.congr {R R':Nat→Value→World→Prop} {i:Nat} {o:Oper} (ht:∀ e∈o.after,Region.binds .any e=true→e.on < i) (h:∀ j,j≤i→R j=R' j) (hs:GStepX E I P ops Q ds R a0 i o):GStepX E I P ops Q ds R' a0 i o:=by
 intro K' a w ho hd hb hK;refine hs K' a w ho (fun e he hbd=>?_) hb (fun v w' hr=>?_)
 ·rw [h e.on (Nat.le_of_lt (ht e he hbd))]; exact hd e he hbd
 ·rw [h i lR] at hr; exact hK v w' hr
theorem wpAny_growXV (hF:GFormV ops ds a0.tmps.size) (hst:∀ i v w w',R i v w→E w w'→R i v w')
  (hstep:∀ i o,i < ds.length→ops[i]?=some o→GStepX E I P ops Q ds R a0 i o)
  (hdone:∀ a w,a.tmps.size=a0.tmps.size→a.defers=a0.defers→(∀ t,t ∉ ds→slot a t=slot a0 t)→(∀ i,i < ds.length→R i (slot a (ds.getD i 0)) w)→I w→wpSeq P Q (ops.toList.drop ds.length) a w) :
  ∀ (fuel:Nat) (listed:Array Bool) (a:Act) (w:World),unl listed ops.size≤fuel→XInv E I ops ds R a0 w0 listed a w→(∀ j,j < ops.size→ds.length≤j→listed.getD j false=false)→(∀ i o,ops[i]?=some o→listed.getD i false=true→∀ e∈o.after,Region.binds .any e=true→listed.getD e.on false=true)→wpAny P .any ops Q fuel listed a w:=by
 have ft:∀ (listed:Array Bool) (j:Nat),j < listed.size→(listed.getD j true=listed.getD j false):=fun listed j hj=>by simp [hj]
 intro fuel;induction fuel with
 | zero =>
  intro listed a w hu hI hs hcl;exfalso
  have:=unl_zero (listed:=listed) ops.size (by omega) ds.length hF.le;rw [ft listed _ (by rw [hI.size]; exact hF.le),hs _ hF.le lR] at this;simp at this
 | succ fuel ih =>
  intro listed a w hu hI hs hcl;by_cases hall:∀ j,j < ds.length→listed.getD j false=true
  ·refine wpAny_seq hF (fuel+1) ds.length listed a w lR (Nat.le_of_lt hF.le) hI.size (fun j hj=>⟨fun h=>?_,fun h=>hall j h⟩) ?_ (hdone a w hI.tsize hI.defers hI.outer (fun j hj=>hI.inner j (hall j hj)) hI.inv)
   ·by_cases e:j < ds.length
    ·exact e
    ·rw [hs j hj (by omega)] at h; simp at h
   ·refine Nat.le_trans ?_ hu;have key:∀ n,n≤ops.size→n-ds.length≤unl listed n:=by
     intro n;induction n with
     | zero=>intro _; omega
     | succ n ihn =>
      intro hn;have h1:=ihn (by omega);unfold unl;by_cases e:n < ds.length
      ·omega
      ·rw [if_neg (by rw [ft listed n (by rw [hI.size]; omega),hs n (by omega) (by omega)]; simp)];omega
    exact key ops.size lR
  ·refine ⟨fun hr=>?_,fun i hi=>?_⟩
   ·exfalso
    refine hall (fun i=>?_);induction i using Nat.strongRecOn with
    | ind i ih2 =>
     intro hil;have hio:i < ops.size:=Nat.lt_trans hil hF.le;by_cases hh:listed.getD i true=true
     ·rw [ft listed i (by rw [hI.size]; exact hio)] at hh; exact hh
     ·exfalso
      have hmem:i∈Region.ready .any ops listed:=by
       rw [mem_ready];refine ⟨by simpa using hh,ops[i],by simp [hio],fun e he hb=>?_⟩;have hlt:=hF.topo i ops[i] (by simp [hio]) e he hb;exact ih2 _ hlt (by omega)
      rw [hr] at hmem;simp at hmem
   ·rw [mem_ready] at hi;obtain ⟨h0,o,ho,hdeps⟩:=hi;have hio:i < ops.size:=(Array.getElem?_eq_some_iff.1 ho).1;have hil:i < ds.length:=by
     by_cases e:i < ds.length
     ·exact e
     ·exfalso
      by_cases e2:ds.length < i
      ·obtain ⟨e1,he,hb,hon⟩:=hF.swait i o e2 ho;have h1:=hdeps e1 he hb;rw [hs e1.on (by omega) (by omega)] at h1;simp at h1
      ·have hin:i=ds.length:=by omega
       refine hall ?_;have key:∀ d j,ds.length-j≤d→j < ds.length→listed.getD j false=true:=by
        intro d;induction d with
        | zero=>intro j h1 h2; omega
        | succ d ihd =>
         intro j h1 h2;obtain ⟨q,oq,hq1,hq2,hoq,ed,he,hb,hon⟩:=hF.lall j h2;by_cases e3:q=ds.length
         ·subst hin;subst e3;obtain rfl:o=oq:=by rw [ho] at hoq; exact Option.some.inj hoq
          rw [← hon]; exact hdeps ed he hb
         ·rw [← hon]; exact hcl q oq hoq (ihd q (by omega) (by omega)) ed he hb
       exact fun j hj=>key ds.length j (by omega) hj
    have hd:=hF.dst i o hil ho;have hmem:ds.getD i 0∈ds:=by rw [getD_at hil]; exact List.getElem_mem hil
    refine wpOp_step ho (fun K' hK=>?_);refine hstep i o hil ho K' a w hI.outer (fun e he hb=>hI.inner _ (hdeps e he hb)) hI.inv (fun v w' hR hB hI'=>hK _ _ ?_);refine ih _ _ _ (by have:=unl_set h0 ops.size hio; omega) ⟨by simp [hI.size],?_,?_,fun t ht=>?_,fun j hj=>?_,hI'⟩ (fun j hj hn=>by rw [getD_set_ne false (by omega)]; exact hs j hj hn) ?_
    ·rw [hd]; simp [Act.put,hI.tsize]
    ·rw [hd]; simp [Act.put,hI.defers]
    ·rw [hd,slot_put_ne (show ds.getD i 0≠t from fun e=>ht (e ▸ hmem))]; exact hI.outer t ht
    ·rw [hd];by_cases e:i=j
     ·subst e;rw [slot_put_eq (by rw [hI.tsize]; exact hF.fits _ hmem)];exact hR
     ·rw [getD_set_ne false e] at hj;have hjo:j < ops.size:=by
       rw [← hI.size];rcases Nat.lt_or_ge j listed.size with h' | h'
       ·exact h'
       ·simp [Array.getElem?_eq_none h'] at hj
      have hjl:j < ds.length:=by
       by_cases e2:j < ds.length
       ·exact e2
       ·rw [hs j hjo (by omega)] at hj; simp at hj
      rw [slot_put_ne (nodup_ne hF.nodup hil hjl e)];exact hst _ _ _ _ (hI.inner j hj) hB
    ·have hset:∀ j,listed.getD j false=true→(listed.setIfInBounds i true).getD j false=true:=fun j hj=>by
      by_cases e:i=j
      ·subst e; have hsz:i < listed.size:=by rw [hI.size]; exact hio
       simp [hsz]
      ·rw [getD_set_ne false e]; exact hj
     intro j o' ho' hj e he hb;by_cases hij:i=j
     ·subst hij;obtain rfl:o=o':=by rw [ho] at ho'; exact Option.some.inj ho'
      exact hset _ (hdeps e he hb)
     ·rw [getD_set_ne false hij] at hj;exact hset _ (hcl j o' ho' hj e he hb)
def XChV (E:World→World→Prop) (I:World→Prop) (P:Program) (ops:Array Oper) (Q:Exit→Act→World→Prop) (ds:List Tmp) (a0:Act) (suf:List Oper):List (Value→World→Prop)→List Oper→Prop
 | Rs,[]=>∀ (X:Nat→Value) w,RAll X w 0 Rs→I w→wpSeq P Q suf (putsFrom X a0 0 ds) w
 | Rs,o::l=>∃ r,StableX E r∧GStepX E I P ops Q ds (rAt (Rs++[r])) a0 Rs.length o∧XChV E I P ops Q ds a0 suf (Rs++[r]) l
theorem XChV.all {suf:List Oper}:∀ (l:List Oper) (Rs:List (Value→World→Prop)),(∀ i o,l[i]?=some o→∀ e∈o.after,Region.binds .any e=true→e.on < Rs.length+i)→(∀ r∈Rs,StableX E r)→XChV E I P ops Q ds a0 suf Rs l →
  ∃ Ss,(Rs++Ss).length=Rs.length+l.length∧(∀ r∈Rs++Ss,StableX E r)∧(∀ i o,l[i]?=some o→GStepX E I P ops Q ds (rAt (Rs++Ss)) a0 (Rs.length+i) o)∧(∀ (X:Nat→Value) w,RAll X w 0 (Rs++Ss)→I w→wpSeq P Q suf (putsFrom X a0 0 ds) w)
 | [],Rs,_,hst,h=>⟨[],by simp,by simpa using hst,fun i o ho=>by simp at ho,by rw [List.append_nil]; exact h⟩
 | o::l,Rs,ht,hst,⟨r,hr,hs,hc⟩=>by
  obtain ⟨Ss,h1,h2,h3,h4⟩:=XChV.all l (Rs++[r]) (fun i o' ho e he hb=>by
   have:=ht (i+1) o' (by simpa using ho) e he hb;simp; omega) (fun x hx=>by
   rcases List.mem_append.1 hx with hx | hx
   ·exact hst x hx
   ·simp at hx; subst hx; exact hr) hc
  refine ⟨r::Ss,by simp at h1 ⊢; omega,by simpa using h2,fun i o' ho=>?_,by simpa using h4⟩;have e:Rs++r::Ss=Rs++[r]++Ss:=by simp
  rw [e]
  cases i with
  | zero =>
   simp at ho;subst ho;refine GStepX.congr (ht 0 o rfl) (fun j hj=>?_) hs;exact (rAt_left (by simp; omega)).symm
  | succ i =>
   have:=h3 i o' (by simpa using ho);rwa [show (Rs++[r]).length+i=Rs.length+(i+1) by simp; omega] at this
theorem wp_region_growXV {id:Nat} (E:World→World→Prop) (I:World→Prop) (ds:List Tmp) (hm:P.follows .mixedOrders=true) (hF:gformV ops ds a0.tmps.size=true) (hI0:I w0.drew) (h:XChV E I P ops Q ds a0 (ops.toList.drop ds.length) [] (ops.toList.take ds.length)) :
  (Code.region id ops true).wp P Q a0 w0:=by
 have hG:=GFormV.of hF;have hle:=hG.le;obtain ⟨Ss,h1,h2,h3,h4⟩:=XChV.all (ops.toList.take ds.length) [] (fun i o ho e he hb=>by
  have hi:i < ds.length:=by
   by_cases e2:i < ds.length
   ·exact e2
   ·rw [List.getElem?_eq_none (by simp; omega)] at ho; simp at ho
  rw [List.getElem?_take,if_pos hi] at ho;have:=hG.topo i o (by simpa using ho) e he hb;simpa using this) (fun r hr=>by simp at hr) h
 simp only [List.nil_append,List.length_nil,Nat.zero_add] at h1 h2 h3 h4;have hlen:Ss.length=ds.length:=by rw [h1]; simp; omega
 refine wp_region_any hm (wpAny_growXV (E:=E) (I:=I) (w0:=w0.drew) (R:=rAt Ss) hG (fun i v w w' h hb=>?_) (fun i o hi ho=>?_) (fun a w g1 g2 g3 g4 g5=>?_) ops.size _ a0 w0.drew (unl_le _ _) ⟨by simp,rfl,rfl,fun _ _=>rfl,fun i hi=>?_,hI0⟩ (fun j hj _=>by simp [hj]) (fun i o ho hi=>?_))
 ·unfold rAt at *;by_cases hi:i < Ss.length
  ·have e:Ss.getD i (fun _ _=>True)=Ss[i]:=by simp [hi]
   rw [e] at h ⊢;exact h2 _ (List.getElem_mem hi) v w w' h hb
  ·have e:Ss.getD i (fun _ _=>True)=fun _ _=>True:=by simp [Nat.le_of_not_lt hi]
   rw [e]; trivial
 ·exact h3 i o (by rw [List.getElem?_take,if_pos hi]; simpa using ho)
 ·have hp:putsFrom (fun i=>slot a (ds.getD i 0)) a0 0 ds=a:=puts_eq ds a0 0 g1.symm g2.symm (fun i _=>by rw [Nat.zero_add]) (fun t ht=>(g3 t ht).symm) (fun d hd=>by rw [g1]; exact hG.fits d hd);rw [← hp];exact h4 (fun i=>slot a (ds.getD i 0)) w (RAll.mk Ss 0 (fun i hi=>by rw [Nat.zero_add]; exact g4 i (by omega))) g5
 ·exfalso
  by_cases h:i < ops.size
  ·simp [h] at hi
  ·simp [h] at hi
 ·exfalso
  by_cases h:i < ops.size
  ·simp [h] at hi
  ·simp [h] at hi
theorem XChV.val {suf:List Oper} {Rs:List (Value→World→Prop)} {n:Nat} {o:Oper} {l:List Oper} (Rs':Value→List (Value→World→Prop)) (hR:∀ v,Rs' v=Rs++[IsV v]) (hn:Rs.length=n) (h:∃ v,GStepX E I P ops Q ds (rAt (Rs' v)) a0 n o∧XChV E I P ops Q ds a0 suf (Rs' v) l):XChV E I P ops Q ds a0 suf Rs (o::l):=by
 obtain ⟨v,h1,h2⟩:=h;rw [hR] at h1 h2;subst hn;exact ⟨IsV v,fun _ _ _ h _=>h,h1,h2⟩
theorem XChV.rel {suf:List Oper} {Rs:List (Value→World→Prop)} {n:Nat} {o:Oper} {l:List Oper} (r:Value→World→Prop) (hr:StableX E r) (Rs':List (Value→World→Prop)) (hR:Rs'=Rs++[r]) (hn:Rs.length=n) (h1:GStepX E I P ops Q ds (rAt Rs') a0 n o) (h2:XChV E I P ops Q ds a0 suf Rs' l):XChV E I P ops Q ds a0 suf Rs (o::l):=by
 subst hR hn;exact ⟨r,hr,h1,h2⟩
end
end Go.Proofs.YtdkepkaflielhaaGreatDoor
