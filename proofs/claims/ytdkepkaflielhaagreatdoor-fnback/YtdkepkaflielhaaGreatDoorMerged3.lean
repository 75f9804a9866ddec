import Derived.Test.YtdkepkaflielhaaGreatDoorMerged2
set_option linter.unusedVariables false
set_option linter.unusedSimpArgs false
set_option maxRecDepth 100000
set_option maxHeartbeats 8000000
namespace Go.Proofs.YtdkepkaflielhaaGreatDoor
open Go.RowKit Go.ChangeShapes
section
variable {P:Program} {ops:Array Oper} {Q:Exit→Act→World→Prop} {ds:List Tmp} {a0:Act} {w0:World}
theorem qC{Rs Ss:List (Value→World→Prop)}{i:Nat}(h:i < Rs.length):aU (Rs++Ss) i=aU Rs i:=by
 unfold aU;simp[List.getElem?_append_left h]
theorem fO.congr{R R':Nat→Value→World→Prop}{i:Nat}{o:Oper}(ht:∀e∈o.after,Region.binds .any e=true→e.on < i)(h:∀j,j≤i→R j=R' j)(hs:fO P ops Q ds R a0 w0 i o):fO P ops Q ds R' a0 w0 i o:=by
 intro K' a w ho hd hb hK;refine hs K' a w ho (fun e he hbd=>?_) hb (fun v w' hr=>?_)
 ·rw[h e.on (Nat.le_of_lt (ht e he hbd))];exact hd e he hbd
 ·rw[h i lR]at hr;exact hK v w' hr
def fI(P:Program)(ops:Array Oper)(Q:Exit→Act→World→Prop)(ds:List Tmp)(a0:Act)(w0:World):List (Value→World→Prop)→List Oper→Prop
 | Rs,[]=>∀(X:Nat→Value) w,eY X w 0 Rs→Below w0.heap.size w0 w→Q .normal (aE X a0 0 ds) w
 | Rs,o::l=>∃r,eZ r∧fO P ops Q ds (aU (Rs++[r])) a0 w0 Rs.length o∧fI P ops Q ds a0 w0 (Rs++[r]) l
theorem fI.all:∀(l:List Oper) (Rs:List (Value→World→Prop)),(∀i o,l[i]?=some o→∀e∈o.after,Region.binds .any e=true→e.on < Rs.length+i)→(∀r∈Rs,eZ r)→fI P ops Q ds a0 w0 Rs l →
  ∃Ss,(Rs++Ss).length=Rs.length+l.length∧(∀r∈Rs++Ss,eZ r)∧(∀i o,l[i]?=some o→fO P ops Q ds (aU (Rs++Ss)) a0 w0 (Rs.length+i) o)∧(∀(X:Nat→Value) w,eY X w 0 (Rs++Ss)→Below w0.heap.size w0 w→Q .normal (aE X a0 0 ds) w)
 | [],Rs,_,hst,h=>⟨[],by simp,by simpa using hst,fun i o ho=>by simp at ho,by rw[List.append_nil];exact h⟩
 | o::l,Rs,ht,hst,⟨r,hr,hs,hc⟩=>by
  obtain⟨Ss,h1,h2,h3,h4⟩:=fI.all l (Rs++[r]) (fun i o' ho e he hb=>by
   have:=ht (i+1) o' (by simpa using ho) e he hb;simp;omega) (fun x hx=>by
   rcases List.mem_append.1 hx with hx|hx
   ·exact hst x hx
   ·simp at hx;subst hx;exact hr) hc
  refine⟨r::Ss,by simp at h1 ⊢;omega,by simpa using h2,fun i o' ho=>?_,by simpa using h4⟩;have e:Rs++r::Ss=Rs++[r]++Ss:=by simp
  rw[e]
  cases i with
  | zero=>
   simp at ho;subst ho;refine fO.congr (ht 0 o rfl) (fun j hj=>?_) hs;exact(qC (by simp;omega)).symm
  | succ i=>
   have:=h3 i o' (by simpa using ho);rwa [show (Rs++[r]).length+i=Rs.length+(i+1) by simp;omega]at this
theorem bJ{id:Nat}(ds:List Tmp)(hm:P.follows .mixedOrders=true)(hF:FZ ops ds a0.tmps.size=true)(h:fI P ops Q ds a0 w0.drew [] ops.toList) :
  (Code.region id ops true).wp P Q a0 w0:=by
 have hG:=vV.of hF;obtain⟨Ss,h1,h2,h3,h4⟩:=fI.all ops.toList [] (fun i o ho e he hb=>by
  have:=hG.topo i o (by simpa using ho) e he hb;simpa using this) (fun r hr=>by simp at hr) h
 simp only[UM,List.length_nil,UI]at h1 h2 h3 h4;refine tV (ds:=ds) (R:=aU Ss) hm hG (fun i v w w' h hb=>?_) (fun i o ho=>?_) (fun a w g1 g2 g3 g4 g5=>?_)
 ·unfold aU at *;by_cases hi:i < Ss.length
  ·have e:Ss.getD i (fun _ _=>True)=Ss[i]:=by simp[hi]
   rw[e]at h ⊢;exact h2 _ (UJ hi) v w w' h hb
  ·have e:Ss.getD i (fun _ _=>True)=fun _ _=>True:=by simp[Nat.le_of_not_lt hi]
   rw[e];trivial
 ·exact h3 i o (by simpa using ho)
 ·have hp:aE (fun i=>aD a (ds.getD i 0)) a0 0 ds=a:=oR ds a0 0 g1.symm g2.symm (fun i _=>by rw[UI]) (fun t ht=>(g3 t ht).symm) (fun d hd=>by rw[g1];exact hG.fits d hd);rw[←hp];exact h4 (fun i=>aD a (ds.getD i 0)) w (eY.mk Ss 0 (fun i hi=>by rw[UI];exact g4 i (by rw[←Array.length_toList,←h1];exact hi))) g5
theorem fI.val{Rs:List (Value→World→Prop)}{n:Nat}{o:Oper}{l:List Oper}(Rs':Value→List (Value→World→Prop))(hR:∀v,Rs' v=Rs++[aG v])(hn:Rs.length=n)(h:∃v,fO P ops Q ds (aU (Rs' v)) a0 w0 n o∧fI P ops Q ds a0 w0 (Rs' v) l):fI P ops Q ds a0 w0 Rs (o::l):=by
 obtain⟨v,h1,h2⟩:=h;rw[hR]at h1 h2;subst hn;exact⟨aG v,cF v,h1,h2⟩
theorem fI.rel{Rs:List (Value→World→Prop)}{n:Nat}{o:Oper}{l:List Oper}(r:Value→World→Prop)(hr:eZ r)(Rs':List (Value→World→Prop))(hR:Rs'=Rs++[r])(hn:Rs.length=n)(h1:fO P ops Q ds (aU Rs') a0 w0 n o)(h2:fI P ops Q ds a0 w0 Rs' l):fI P ops Q ds a0 w0 Rs (o::l):=by
 subst hR hn;exact⟨r,hr,h1,h2⟩
def GW(P:Program)(Q:Exit→Act→World→Prop)(ds:List Tmp)(Rs:List (Value→World→Prop))(a0:Act)(w0:World)(i:Nat)(o:Oper):Prop :=
 ∀(K':Act→World→Prop) (a:Act) (w:World),(∀t,t ∉ ds→aD a t=aD a0 t)→(∀e∈o.after,Region.binds .any e=true→aU Rs e.on (aD a (ds.getD e.on 0)) w) →
  Below w0.heap.size w0 w→(∀v w',aU Rs i v w'→Below w.heap.size w w'→K' (a.put o.dst v) w')→(∀v,aU Rs i v w→K' (a.put o.dst v) w)→Oper.wp P o a w K' Q
theorem GW.step{Rs:List (Value→World→Prop)}{i:Nat}{o:Oper}(hg:o.guard=none)(h:GW P Q ds Rs a0 w0 i o):fO P ops Q ds (aU Rs) a0 w0 i o:=fun K' a w ho hd hb hK=>by
 rw[if_pos (uV hg)];exact h K' a w ho hd hb hK (fun v hv=>hK v w hv bR)
theorem fI.vv{Rs Rs':List (Value→World→Prop)}{n:Nat}{o:Oper}{l:List Oper}{v:Value}(hR:Rs'=Rs++[aG v])(hn:Rs.length=n)(hg:o.guard=none)(h1:GW P Q ds Rs' a0 w0 n o)(h2:fI P ops Q ds a0 w0 Rs' l):fI P ops Q ds a0 w0 Rs (o::l):=by
 subst hR hn;exact⟨aG v,cF v,h1.step hg,h2⟩
variable {R0 R1 R2 R3 R4 R5 R6 R7 R8 R9 R10 R11 R12 R13 R14 R15 R16 R17 R18 R19 R20 R21 R22 R23 R24 R25 R26 R27 R28 R29 R30 R31 R32 R33 R34 R35 R36 R37 R38 R39 R40 R41 R42 R43 R44 R45:Value→World→Prop} {o:Oper} {l:List Oper} {v:Value}
theorem fI.v2(hg:o.guard=none)(h1:GW P Q ds [R0,R1,aG v] a0 w0 2 o)(h2:fI P ops Q ds a0 w0 [R0,R1,aG v] l):fI P ops Q ds a0 w0 [R0,R1] (o::l):=.vv rfl rfl hg h1 h2
theorem fI.v3(hg:o.guard=none)(h1:GW P Q ds [R0,R1,R2,aG v] a0 w0 3 o)(h2:fI P ops Q ds a0 w0 [R0,R1,R2,aG v] l):fI P ops Q ds a0 w0 [R0,R1,R2] (o::l):=.vv rfl rfl hg h1 h2
theorem fI.v4(hg:o.guard=none)(h1:GW P Q ds [R0,R1,R2,R3,aG v] a0 w0 4 o)(h2:fI P ops Q ds a0 w0 [R0,R1,R2,R3,aG v] l):fI P ops Q ds a0 w0 [R0,R1,R2,R3] (o::l):=.vv rfl rfl hg h1 h2
theorem fI.v8(hg:o.guard=none)(h1:GW P Q ds [R0,R1,R2,R3,R4,R5,R6,R7,aG v] a0 w0 8 o)(h2:fI P ops Q ds a0 w0 [R0,R1,R2,R3,R4,R5,R6,R7,aG v] l):fI P ops Q ds a0 w0 [R0,R1,R2,R3,R4,R5,R6,R7] (o::l):=.vv rfl rfl hg h1 h2
theorem fI.v10(hg:o.guard=none)(h1:GW P Q ds [R0,R1,R2,R3,R4,R5,R6,R7,R8,R9,aG v] a0 w0 10 o)(h2:fI P ops Q ds a0 w0 [R0,R1,R2,R3,R4,R5,R6,R7,R8,R9,aG v] l):fI P ops Q ds a0 w0 [R0,R1,R2,R3,R4,R5,R6,R7,R8,R9] (o::l):=.vv rfl rfl hg h1 h2
theorem fI.v12(hg:o.guard=none)(h1:GW P Q ds [R0,R1,R2,R3,R4,R5,R6,R7,R8,R9,R10,R11,aG v] a0 w0 12 o)(h2:fI P ops Q ds a0 w0 [R0,R1,R2,R3,R4,R5,R6,R7,R8,R9,R10,R11,aG v] l):fI P ops Q ds a0 w0 [R0,R1,R2,R3,R4,R5,R6,R7,R8,R9,R10,R11] (o::l):=.vv rfl rfl hg h1 h2
end
section
variable {P:Program} {ops:Array Oper} {Q:Exit→Act→World→Prop} {ds:List Tmp} {R:Nat→Value→World→Prop} {a0:Act} {w0:World}
def fN(P:Program)(Q:Exit→Act→World→Prop):List Oper→Act→World→Prop
 | [],a,w=>Q .normal a w
 | o::l,a,w=>∀K':Act→World→Prop,(∀a' w',fN P Q l a' w'→K' a' w')→Oper.wp P o a w K' Q
structure rH(ops:Array Oper)(ds:List Tmp)(n:Nat):Prop where
 le:ds.length < ops.size
 dst:∀i o,i < ds.length→ops[i]?=some o→o.dst=some (ds.getD i 0)
 nodup:ds.Nodup
 fits:∀d∈ds,d < n
 topo:∀i o,ops[i]?=some o→∀e∈o.after,Region.binds .any e=true→e.on < i
 sguard:∀i o,ds.length≤i→ops[i]?=some o→o.guard=none
 swait:∀i o,ds.length < i→ops[i]?=some o→∃e∈o.after,Region.binds .any e=true∧e.on=i-1
 lall:∀j,j < ds.length→∃i o,j < i∧i≤ds.length∧ops[i]?=some o∧∃e∈o.after,Region.binds .any e=true∧e.on=j
def AK(ops:Array Oper)(ds:List Tmp)(n:Nat):Bool :=
 decide (ds.length < ops.size)&&(List.range ops.size).all (fun i=>match ops[i]? with
  | some o=>o.after.all (fun e=>!Region.binds .any e||decide (e.on < i))&&(if i < ds.length then (match o.dst with | some d=>d==ds.getD i 0 | none=>false) else o.guard.isNone)&&(if ds.length < i then o.after.any (fun e=>Region.binds .any e&&e.on==i-1) else true)
  | none=>true)&&decide ds.Nodup&&ds.all (fun d=>decide (d < n)) &&
 (List.range ds.length).all (fun j=>(List.range (ds.length+1)).any (fun i=>decide (j < i)&&match ops[i]? with | some o=>o.after.any (fun e=>Region.binds .any e&&e.on==j) | none=>false))
theorem rH.of{n:Nat}(h:AK ops ds n=true):rH ops ds n:=by
 unfold AK at h;simp only[UB,UF,List.all_eq_true,List.mem_range]at h;obtain⟨⟨⟨⟨h1,h2⟩,h3⟩,h4⟩,h5⟩:=h;have hb:∀i o,ops[i]?=some o→i < ops.size:=fun i o ho=>(UT.1 ho).1
 refine⟨h1,fun i o hi ho=>?_,h3,h4,fun i o ho e he hbd=>?_,fun i o hi ho=>?_,fun i o hi ho=>?_,fun j hj=>?_⟩
 ·have:=h2 i (hb i o ho);rw[ho]at this;simp only[UB,if_pos hi]at this;have t1:=this.1.2
  cases hd:o.dst with
  | none=>rw[hd]at t1;simp at t1
  | some d=>rw[hd]at t1;simp at t1;rw[t1];simp
 ·have:=h2 i (hb i o ho);rw[ho]at this;simp only[UB]at this;have:=Array.all_eq_true_iff_forall_mem.1 this.1.1 e he;simp[hbd]at this;exact this
 ·have:=h2 i (hb i o ho);rw[ho]at this;simp only[UB,if_neg (show ¬i < ds.length by omega)]at this;simpa using this.1.2
 ·have:=h2 i (hb i o ho);rw[ho]at this;simp only[UB,if_pos hi]at this;obtain⟨e,he,hbd⟩:=Array.any_eq_true'.1 this.2;simp only[UB,beq_iff_eq]at hbd;exact⟨e,he,hbd.1,hbd.2⟩
 ·obtain⟨i,hi,hh⟩:=List.any_eq_true.1 (h5 j hj);simp only[UB,UF]at hh
  cases ho:ops[i]? with
  | none=>rw[ho]at hh;simp at hh
  | some o=>
   rw[ho]at hh;obtain⟨e,he,hbd⟩:=Array.any_eq_true'.1 hh.2;simp only[UB,beq_iff_eq]at hbd;exact⟨i,o,hh.1,by have:=List.mem_range.1 hi;omega,ho,e,he,hbd.1,hbd.2⟩
theorem zO(hF:rH ops ds a0.tmps.size):∀(fuel m:Nat) (listed:Array Bool) (a:Act) (w:World),ds.length≤m→m≤ops.size→listed.size=ops.size→(∀j,j < ops.size→(listed.getD j false=true↔j < m))→ops.size-m≤fuel→fN P Q (ops.toList.drop m) a w→wpAny P .any ops Q fuel listed a w:=by
 have nil:∀(m:Nat) (listed:Array Bool),listed.size=ops.size→(∀j,j < ops.size→(listed.getD j false=true↔j < m))→ops.size≤m→Region.ready .any ops listed=[]:=by
  intro m listed hsz hl hm;rw[List.eq_nil_iff_forall_not_mem];intro i hi;rw[mem_ready]at hi;obtain⟨h0,o,ho,_⟩:=hi;have hio:=(UT.1 ho).1;have:=(hl i hio).2 (by omega);have hs:i < listed.size:=by omega
  simp[hs]at h0 this;rw[h0]at this;simp at this
 intro fuel;induction fuel with
 | zero=>
  intro m listed a w hn hm hsz hl hf hq;have hme:m=ops.size:=by omega
  subst hme;rw[List.drop_of_length_le (by simp)]at hq;exact⟨nil _ _ hsz hl lR,hq⟩
 | succ fuel ih=>
  intro m listed a w hn hm hsz hl hf hq;by_cases hme:m=ops.size
  ·subst hme;rw[List.drop_of_length_le (by simp)]at hq;exact wpAny_done (nil _ _ hsz hl lR) hq (fuel+1)
  ·have hmo:m < ops.size:=by omega
   have hom:ops[m]?=some ops[m]:=by simp[hmo]
   have hunl:∀j,j < ops.size→m≤j→listed.getD j true=false:=fun j hj hmj=>by
    have hs:j < listed.size:=by omega
    have:=mt (hl j hj).1 (by omega);simp[hs]at this ⊢;exact this
   refine⟨fun hr=>?_,fun i hi=>?_⟩
   ·exfalso
    have hmem:m∈Region.ready .any ops listed:=by
     rw[mem_ready];exact⟨hunl m hmo lR,ops[m],hom,fun e he hb=>(hl _ (by have:=hF.topo m _ hom e he hb;omega)).2 (hF.topo m _ hom e he hb)⟩
    rw[hr]at hmem;simp at hmem
   ·rw[mem_ready]at hi;obtain⟨h0,o,ho,hdeps⟩:=hi;have hio:=(UT.1 ho).1;have him:m≤i:=by
     by_cases e:i < m
     ·exfalso
      have:=(hl i hio).2 e;have hs:i < listed.size:=by omega
      simp[hs]at h0 this;rw[h0]at this;simp at this
     ·omega
    have hie:i=m:=by
     by_cases e:i=m
     ·exact e
     ·exfalso
      obtain⟨e1,he,hb,hon⟩:=hF.swait i o (by omega) ho;have:=(hl e1.on (by omega)).1 (hdeps e1 he hb);omega
    subst hie;obtain rfl:ops[i]=o:=by rw[hom]at ho;exact Option.some.inj ho
    refine wpOp_step ho (fun K' hK=>?_);rw[if_pos (by unfold Region.wanted;rw[hF.sguard i _ hn ho])];rw[List.drop_eq_getElem_cons (by simpa using hmo)]at hq;refine hq K' (fun a' w' h'=>hK _ _ ?_);refine ih (i+1) _ a' w' (by omega) (by omega) (by simp[hsz]) (fun j hj=>?_) (by omega) h';by_cases e:i=j
    ·subst e;have hs:i < listed.size:=by omega
     simp[hs]
    ·rw[getD_set_ne false e,hl j hj];omega
theorem EW(hF:rH ops ds a0.tmps.size)(hst:∀i v w w',R i v w→Below w.heap.size w w'→R i v w')
  (hstep:∀i o,i < ds.length→ops[i]?=some o→fO P ops Q ds R a0 w0 i o)
  (hdone:∀a w,a.tmps.size=a0.tmps.size→a.defers=a0.defers→(∀t,t ∉ ds→aD a t=aD a0 t)→(∀i,i < ds.length→R i (aD a (ds.getD i 0)) w)→Below w0.heap.size w0 w→fN P Q (ops.toList.drop ds.length) a w) :
  ∀(fuel:Nat) (listed:Array Bool) (a:Act) (w:World),vT listed ops.size≤fuel→JM ops ds R a0 w0 listed a w→(∀j,j < ops.size→ds.length≤j→listed.getD j false=false)→(∀i o,ops[i]?=some o→listed.getD i false=true→∀e∈o.after,Region.binds .any e=true→listed.getD e.on false=true)→wpAny P .any ops Q fuel listed a w:=by
 have ft:∀(listed:Array Bool) (j:Nat),j < listed.size→(listed.getD j true=listed.getD j false):=fun listed j hj=>by simp[hj]
 intro fuel;induction fuel with
 | zero=>
  intro listed a w hu hI hs hcl;exfalso
  have:=oC (listed:=listed) ops.size (by omega) ds.length hF.le;rw[ft listed _ (by rw[hI.size];exact hF.le),hs _ hF.le lR]at this;simp at this
 | succ fuel ih=>
  intro listed a w hu hI hs hcl;by_cases hall:∀j,j < ds.length→listed.getD j false=true
  ·refine zO hF (fuel+1) ds.length listed a w lR (Nat.le_of_lt hF.le) hI.size (fun j hj=>⟨fun h=>?_,fun h=>hall j h⟩) ?_ (hdone a w hI.tsize hI.defers hI.outer (fun j hj=>hI.inner j (hall j hj)) hI.below)
   ·by_cases e:j < ds.length
    ·exact e
    ·rw[hs j hj (by omega)]at h;simp at h
   ·refine UL ?_ hu;have key:∀n,n≤ops.size→n-ds.length≤vT listed n:=by
     intro n;induction n with
     | zero=>intro _;omega
     | succ n ihn=>
      intro hn;have h1:=ihn (by omega);unfold vT;by_cases e:n < ds.length
      ·omega
      ·rw[if_neg (by rw[ft listed n (by rw[hI.size];omega),hs n (by omega) (by omega)];simp)];omega
    exact key ops.size lR
  ·refine⟨fun hr=>?_,fun i hi=>?_⟩
   ·exfalso
    refine hall (fun i=>?_);induction i using Nat.strongRecOn with
    | ind i ih2=>
     intro hil;have hio:i < ops.size:=Nat.lt_trans hil hF.le;by_cases hh:listed.getD i true=true
     ·rw[ft listed i (by rw[hI.size];exact hio)]at hh;exact hh
     ·exfalso
      have hmem:i∈Region.ready .any ops listed:=by
       rw[mem_ready];refine⟨by simpa using hh,ops[i],by simp[hio],fun e he hb=>?_⟩;have hlt:=hF.topo i ops[i] (by simp[hio]) e he hb;exact ih2 _ hlt (by omega)
      rw[hr]at hmem;simp at hmem
   ·rw[mem_ready]at hi;obtain⟨h0,o,ho,hdeps⟩:=hi;have hio:i < ops.size:=(UT.1 ho).1;have hil:i < ds.length:=by
     by_cases e:i < ds.length
     ·exact e
     ·exfalso
      by_cases e2:ds.length < i
      ·obtain⟨e1,he,hb,hon⟩:=hF.swait i o e2 ho;have h1:=hdeps e1 he hb;rw[hs e1.on (by omega) (by omega)]at h1;simp at h1
      ·have hin:i=ds.length:=by omega
       refine hall ?_;have key:∀d j,ds.length-j≤d→j < ds.length→listed.getD j false=true:=by
        intro d;induction d with
        | zero=>intro j h1 h2;omega
        | succ d ihd=>
         intro j h1 h2;obtain⟨q,oq,hq1,hq2,hoq,ed,he,hb,hon⟩:=hF.lall j h2;by_cases e3:q=ds.length
         ·subst hin;subst e3;obtain rfl:o=oq:=by rw[ho]at hoq;exact Option.some.inj hoq
          rw[←hon];exact hdeps ed he hb
         ·rw[←hon];exact hcl q oq hoq (ihd q (by omega) (by omega)) ed he hb
       exact fun j hj=>key ds.length j (by omega) hj
    have hd:=hF.dst i o hil ho;have hmem:ds.getD i 0∈ds:=by rw[nD hil];exact UJ hil
    refine wpOp_step ho (fun K' hK=>?_);refine hstep i o hil ho K' a w hI.outer (fun e he hb=>hI.inner _ (hdeps e he hb)) hI.below (fun v w' hR hB=>hK _ _ ?_);refine ih _ _ _ (by have:=oX h0 ops.size hio;omega) ⟨by simp[hI.size],?_,?_,fun t ht=>?_,fun j hj=>?_,hI.below.trans (hB.mono hI.below.size)⟩ (fun j hj hn=>by rw[getD_set_ne false (by omega)];exact hs j hj hn) ?_
    ·rw[hd];simp[Act.put,hI.tsize]
    ·rw[hd];simp[Act.put,hI.defers]
    ·rw[hd,eF (show ds.getD i 0≠t from fun e=>ht (e ▸ hmem))];exact hI.outer t ht
    ·rw[hd];by_cases e:i=j
     ·subst e;rw[jJ (by rw[hI.tsize];exact hF.fits _ hmem)];exact hR
     ·rw[getD_set_ne false e]at hj;have hjo:j < ops.size:=by
       rw[←hI.size];rcases Nat.lt_or_ge j listed.size with h'|h'
       ·exact h'
       ·simp[Array.getElem?_eq_none h']at hj
      have hjl:j < ds.length:=by
       by_cases e2:j < ds.length
       ·exact e2
       ·rw[hs j hjo (by omega)]at hj;simp at hj
      rw[eF (mY hF.nodup hil hjl e)];exact hst _ _ _ _ (hI.inner j hj) hB
    ·have hset:∀j,listed.getD j false=true→(listed.setIfInBounds i true).getD j false=true:=fun j hj=>by
      by_cases e:i=j
      ·subst e;have hsz:i < listed.size:=by rw[hI.size];exact hio
       simp[hsz]
      ·rw[getD_set_ne false e];exact hj
     intro j o' ho' hj e he hb;by_cases hij:i=j
     ·subst hij;obtain rfl:o=o':=by rw[ho]at ho';exact Option.some.inj ho'
      exact hset _ (hdeps e he hb)
     ·rw[getD_set_ne false hij]at hj;exact hset _ (hcl j o' ho' hj e he hb)
def bC(P:Program)(ops:Array Oper)(Q:Exit→Act→World→Prop)(ds:List Tmp)(a0:Act)(w0:World)(suf:List Oper):List (Value→World→Prop)→List Oper→Prop
 | Rs,[]=>∀(X:Nat→Value) w,eY X w 0 Rs→Below w0.heap.size w0 w→fN P Q suf (aE X a0 0 ds) w
 | Rs,o::l=>∃r,eZ r∧fO P ops Q ds (aU (Rs++[r])) a0 w0 Rs.length o∧bC P ops Q ds a0 w0 suf (Rs++[r]) l
theorem bC.all{suf:List Oper}:∀(l:List Oper) (Rs:List (Value→World→Prop)),(∀i o,l[i]?=some o→∀e∈o.after,Region.binds .any e=true→e.on < Rs.length+i)→(∀r∈Rs,eZ r)→bC P ops Q ds a0 w0 suf Rs l →
  ∃Ss,(Rs++Ss).length=Rs.length+l.length∧(∀r∈Rs++Ss,eZ r)∧(∀i o,l[i]?=some o→fO P ops Q ds (aU (Rs++Ss)) a0 w0 (Rs.length+i) o)∧(∀(X:Nat→Value) w,eY X w 0 (Rs++Ss)→Below w0.heap.size w0 w→fN P Q suf (aE X a0 0 ds) w)
 | [],Rs,_,hst,h=>⟨[],by simp,by simpa using hst,fun i o ho=>by simp at ho,by rw[List.append_nil];exact h⟩
 | o::l,Rs,ht,hst,⟨r,hr,hs,hc⟩=>by
  obtain⟨Ss,h1,h2,h3,h4⟩:=bC.all l (Rs++[r]) (fun i o' ho e he hb=>by
   have:=ht (i+1) o' (by simpa using ho) e he hb;simp;omega) (fun x hx=>by
   rcases List.mem_append.1 hx with hx|hx
   ·exact hst x hx
   ·simp at hx;subst hx;exact hr) hc
  refine⟨r::Ss,by simp at h1 ⊢;omega,by simpa using h2,fun i o' ho=>?_,by simpa using h4⟩;have e:Rs++r::Ss=Rs++[r]++Ss:=by simp
  rw[e]
  cases i with
  | zero=>
   simp at ho;subst ho;refine fO.congr (ht 0 o rfl) (fun j hj=>?_) hs;exact(qC (by simp;omega)).symm
  | succ i=>
   have:=h3 i o' (by simpa using ho);rwa [show (Rs++[r]).length+i=Rs.length+(i+1) by simp;omega]at this
theorem aN{id:Nat}(ds:List Tmp)(hm:P.follows .mixedOrders=true)(hF:AK ops ds a0.tmps.size=true)(h:bC P ops Q ds a0 w0.drew (ops.toList.drop ds.length) [] (ops.toList.take ds.length)) :
  (Code.region id ops true).wp P Q a0 w0:=by
 have hG:=rH.of hF;have hle:=hG.le;obtain⟨Ss,h1,h2,h3,h4⟩:=bC.all (ops.toList.take ds.length) [] (fun i o ho e he hb=>by
  have hi:i < ds.length:=by
   by_cases e2:i < ds.length
   ·exact e2
   ·rw[List.getElem?_eq_none (by simp;omega)]at ho;simp at ho
  rw[List.getElem?_take,if_pos hi]at ho;have:=hG.topo i o (by simpa using ho) e he hb;simpa using this) (fun r hr=>by simp at hr) h
 simp only[UM,List.length_nil,UI]at h1 h2 h3 h4;have jD:Ss.length=ds.length:=by rw[h1];simp;omega
 refine wp_region_any hm (EW (w0:=w0.drew) (R:=aU Ss) hG (fun i v w w' h hb=>?_) (fun i o hi ho=>?_) (fun a w g1 g2 g3 g4 g5=>?_) ops.size _ a0 w0.drew (rX _ _) ⟨by simp,rfl,rfl,fun _ _=>rfl,fun i hi=>?_,Below.refl _ _⟩ (fun j hj _=>by simp[hj]) (fun i o ho hi=>?_))
 ·unfold aU at *;by_cases hi:i < Ss.length
  ·have e:Ss.getD i (fun _ _=>True)=Ss[i]:=by simp[hi]
   rw[e]at h ⊢;exact h2 _ (UJ hi) v w w' h hb
  ·have e:Ss.getD i (fun _ _=>True)=fun _ _=>True:=by simp[Nat.le_of_not_lt hi]
   rw[e];trivial
 ·exact h3 i o (by rw[List.getElem?_take,if_pos hi];simpa using ho)
 ·have hp:aE (fun i=>aD a (ds.getD i 0)) a0 0 ds=a:=oR ds a0 0 g1.symm g2.symm (fun i _=>by rw[UI]) (fun t ht=>(g3 t ht).symm) (fun d hd=>by rw[g1];exact hG.fits d hd);rw[←hp];exact h4 (fun i=>aD a (ds.getD i 0)) w (eY.mk Ss 0 (fun i hi=>by rw[UI];exact g4 i (by omega))) g5
 ·exfalso
  by_cases h:i < ops.size
  ·simp[h]at hi
  ·simp[h]at hi
 ·exfalso
  by_cases h:i < ops.size
  ·simp[h]at hi
  ·simp[h]at hi
theorem bC.val{suf:List Oper}{Rs:List (Value→World→Prop)}{n:Nat}{o:Oper}{l:List Oper}(Rs':Value→List (Value→World→Prop))(hR:∀v,Rs' v=Rs++[aG v])(hn:Rs.length=n)(h:∃v,fO P ops Q ds (aU (Rs' v)) a0 w0 n o∧bC P ops Q ds a0 w0 suf (Rs' v) l):bC P ops Q ds a0 w0 suf Rs (o::l):=by
 obtain⟨v,h1,h2⟩:=h;rw[hR]at h1 h2;subst hn;exact⟨aG v,cF v,h1,h2⟩
theorem bC.rel{suf:List Oper}{Rs:List (Value→World→Prop)}{n:Nat}{o:Oper}{l:List Oper}(r:Value→World→Prop)(hr:eZ r)(Rs':List (Value→World→Prop))(hR:Rs'=Rs++[r])(hn:Rs.length=n)(h1:fO P ops Q ds (aU Rs') a0 w0 n o)(h2:bC P ops Q ds a0 w0 suf Rs' l):bC P ops Q ds a0 w0 suf Rs (o::l):=by
 subst hR hn;exact⟨r,hr,h1,h2⟩
theorem bC.vv{suf:List Oper}{Rs Rs':List (Value→World→Prop)}{n:Nat}{o:Oper}{l:List Oper}{v:Value}(hR:Rs'=Rs++[aG v])(hn:Rs.length=n)(hg:o.guard=none)(h1:GW P Q ds Rs' a0 w0 n o)(h2:bC P ops Q ds a0 w0 suf Rs' l):bC P ops Q ds a0 w0 suf Rs (o::l):=by
 subst hR hn;exact⟨aG v,cF v,h1.step hg,h2⟩
variable {R0 R1 R2 R3 R4 R5 R6 R7 R8 R9 R10 R11 R12 R13 R14 R15 R16 R17 R18 R19 R20 R21 R22 R23 R24 R25 R26 R27 R28 R29 R30 R31 R32 R33 R34 R35 R36 R37 R38 R39 R40 R41 R42 R43 R44 R45:Value→World→Prop} {o:Oper} {l suf:List Oper} {v:Value}
theorem bC.v0(hg:o.guard=none)(h1:GW P Q ds [aG v] a0 w0 0 o)(h2:bC P ops Q ds a0 w0 suf [aG v] l):bC P ops Q ds a0 w0 suf [] (o::l):=.vv rfl rfl hg h1 h2
theorem bC.v1(hg:o.guard=none)(h1:GW P Q ds [R0,aG v] a0 w0 1 o)(h2:bC P ops Q ds a0 w0 suf [R0,aG v] l):bC P ops Q ds a0 w0 suf [R0] (o::l):=.vv rfl rfl hg h1 h2
theorem bC.v2(hg:o.guard=none)(h1:GW P Q ds [R0,R1,aG v] a0 w0 2 o)(h2:bC P ops Q ds a0 w0 suf [R0,R1,aG v] l):bC P ops Q ds a0 w0 suf [R0,R1] (o::l):=.vv rfl rfl hg h1 h2
theorem bC.v3(hg:o.guard=none)(h1:GW P Q ds [R0,R1,R2,aG v] a0 w0 3 o)(h2:bC P ops Q ds a0 w0 suf [R0,R1,R2,aG v] l):bC P ops Q ds a0 w0 suf [R0,R1,R2] (o::l):=.vv rfl rfl hg h1 h2
theorem bC.v4(hg:o.guard=none)(h1:GW P Q ds [R0,R1,R2,R3,aG v] a0 w0 4 o)(h2:bC P ops Q ds a0 w0 suf [R0,R1,R2,R3,aG v] l):bC P ops Q ds a0 w0 suf [R0,R1,R2,R3] (o::l):=.vv rfl rfl hg h1 h2
theorem bC.v5(hg:o.guard=none)(h1:GW P Q ds [R0,R1,R2,R3,R4,aG v] a0 w0 5 o)(h2:bC P ops Q ds a0 w0 suf [R0,R1,R2,R3,R4,aG v] l):bC P ops Q ds a0 w0 suf [R0,R1,R2,R3,R4] (o::l):=.vv rfl rfl hg h1 h2
theorem bC.v6(hg:o.guard=none)(h1:GW P Q ds [R0,R1,R2,R3,R4,R5,aG v] a0 w0 6 o)(h2:bC P ops Q ds a0 w0 suf [R0,R1,R2,R3,R4,R5,aG v] l):bC P ops Q ds a0 w0 suf [R0,R1,R2,R3,R4,R5] (o::l):=.vv rfl rfl hg h1 h2
theorem bC.v7(hg:o.guard=none)(h1:GW P Q ds [R0,R1,R2,R3,R4,R5,R6,aG v] a0 w0 7 o)(h2:bC P ops Q ds a0 w0 suf [R0,R1,R2,R3,R4,R5,R6,aG v] l):bC P ops Q ds a0 w0 suf [R0,R1,R2,R3,R4,R5,R6] (o::l):=.vv rfl rfl hg h1 h2
theorem bC.v8(hg:o.guard=none)(h1:GW P Q ds [R0,R1,R2,R3,R4,R5,R6,R7,aG v] a0 w0 8 o)(h2:bC P ops Q ds a0 w0 suf [R0,R1,R2,R3,R4,R5,R6,R7,aG v] l):bC P ops Q ds a0 w0 suf [R0,R1,R2,R3,R4,R5,R6,R7] (o::l):=.vv rfl rfl hg h1 h2
theorem bC.v9(hg:o.guard=none)(h1:GW P Q ds [R0,R1,R2,R3,R4,R5,R6,R7,R8,aG v] a0 w0 9 o)(h2:bC P ops Q ds a0 w0 suf [R0,R1,R2,R3,R4,R5,R6,R7,R8,aG v] l):bC P ops Q ds a0 w0 suf [R0,R1,R2,R3,R4,R5,R6,R7,R8] (o::l):=.vv rfl rfl hg h1 h2
end
theorem nA{α:Type}(l:List α):[]++l=l:=rfl
theorem cA{α:Type}(a:α)(l m:List α):a::l++m=a::(l++m):=rfl
theorem bQ{w:World}{n:Nat}:Below n w w:=Below.refl _ _
section
variable {P:Program} {ops:Array Oper} {Q:Exit→Act→World→Prop} {ds:List Tmp} {a0:Act} {w0:World}
def GU(P:Program)(Q:Exit→Act→World→Prop)(ds:List Tmp)(Rs:List (Value→World→Prop))(a0:Act)(w0:World)(v:Value)(o:Oper):Prop :=
 ∀(K':Act→World→Prop) (a:Act) (wy:World),(∀t,t ∉ ds→aD a t=aD a0 t)→(∀e∈o.after,Region.binds .any e=true→aU (Rs++[aG v]) e.on (aD a (ds.getD e.on 0)) wy) →
  Below w0.heap.size w0 wy→(∀x wz,x=v→Below wy.heap.size wy wz→K' (a.put o.dst x) wz)→Oper.wp P o a wy K' Q
theorem GU.k{Rs:List (Value→World→Prop)}{v:Value}{o:Oper}{K':Act→World→Prop}{a:Act}{wy:World}(hK:∀x w',aU (Rs++[aG v]) Rs.length x w'→Below wy.heap.size wy w'→K' (a.put o.dst x) w'):∀x wz,x=v→Below wy.heap.size wy wz→K' (a.put o.dst x) wz :=
 fun x wz hx hz=>hK x wz (by simp[aU,aG,hx]) hz
theorem GU.step{Rs:List (Value→World→Prop)}{v:Value}{o:Oper}(hg:o.guard=none)(h:GU P Q ds Rs a0 w0 v o):fO P ops Q ds (aU (Rs++[aG v])) a0 w0 Rs.length o :=
 GW.step hg fun K' a w ho hd hb hk _=>h K' a w ho hd hb (GU.k hk)
theorem IA{Rs:List (Value→World→Prop)}{r s:Value→World→Prop}{k:Nat}(h:Rs[k]?=some r)(v:Value)(w:World):aU (Rs++[s]) k v w=r v w:=by
 obtain⟨hk,_⟩:=List.getElem?_eq_some_iff.1 h;rw[qC hk];unfold aU;rw[List.getD_eq_getElem?_getD,h];rfl
theorem GU.stepG{Rs:List (Value→World→Prop)}{v:Value}{o oj:Oper}{k:Nat}{b want:Bool}(hg:o.guard=some (k,want))(hk:ops[k]?=some oj)(hj:oj.dst=some (ds.getD k 0))(hR:Rs[k]?=some (aG (.bool b)))(hb:(b==want)=true)(hm:⟨k,.guard⟩∈o.after)(h:GU P Q ds Rs a0 w0 v o):fO P ops Q ds (aU (Rs++[aG v])) a0 w0 Rs.length o:=fun K' a w ho hd hB hK=>by
 have hs:=hd _ hm rfl;rw[IA hR]at hs;exact RZ k _ b want hg hk hj hs hb (h K' a w ho hd hB (GU.k hK))
theorem PV{Rs:List (Value→World→Prop)}{o oj:Oper}{k:Nat}{b want:Bool}(hg:o.guard=some (k,want))(hk:ops[k]?=some oj)(hj:oj.dst=some (ds.getD k 0))(hR:Rs[k]?=some (aG (.bool b)))(hb:(b==want)=false)(hm:⟨k,.guard⟩∈o.after):fO P ops Q ds (aU (Rs++[aG undef])) a0 w0 Rs.length o:=fun K' a w ho hd hB hK=>by
 have hs:=hd _ hm rfl;rw[IA hR]at hs;exact RI k _ b want hg hk hj hs hb (GU.k hK _ _ rfl bQ)
theorem PU{Rs:List (Value→World→Prop)}{o oj:Oper}{k:Nat}{want:Bool}(hg:o.guard=some (k,want))(hk:ops[k]?=some oj)(hj:oj.dst=some (ds.getD k 0))(hR:Rs[k]?=some (aG undef))(hm:⟨k,.guard⟩∈o.after):fO P ops Q ds (aU (Rs++[aG undef])) a0 w0 Rs.length o:=fun K' a w ho hd hB hK=>by
 have hs:=hd _ hm rfl;rw[IA hR]at hs;exact RJ k _ hg hk hj hs (GU.k hK _ _ rfl bQ)
variable {suf:List Oper} {Rs:List (Value→World→Prop)} {o oj:Oper} {l:List Oper} {v:Value} {k:Nat} {b want:Bool}
theorem bC.u(hg:o.guard=none)(h1:GU P Q ds Rs a0 w0 v o)(h2:bC P ops Q ds a0 w0 suf (Rs++[aG v]) l):bC P ops Q ds a0 w0 suf Rs (o::l):=⟨aG v,cF v,h1.step hg,h2⟩
theorem bC.g(hg:o.guard=some (k,want))(hk:ops[k]?=some oj)(hj:oj.dst=some (ds.getD k 0))(hR:Rs[k]?=some (aG (.bool b)))(hb:(b==want)=true)(hm:⟨k,.guard⟩∈o.after)(h1:GU P Q ds Rs a0 w0 v o)(h2:bC P ops Q ds a0 w0 suf (Rs++[aG v]) l):bC P ops Q ds a0 w0 suf Rs (o::l):=⟨aG v,cF v,h1.stepG hg hk hj hR hb hm,h2⟩
theorem bC.n(hg:o.guard=some (k,want))(hk:ops[k]?=some oj)(hj:oj.dst=some (ds.getD k 0))(hR:Rs[k]?=some (aG (.bool b)))(hb:(b==want)=false)(hm:⟨k,.guard⟩∈o.after)(h2:bC P ops Q ds a0 w0 suf (Rs++[aG undef]) l):bC P ops Q ds a0 w0 suf Rs (o::l):=⟨aG undef,cF _,PV hg hk hj hR hb hm,h2⟩
theorem bC.m(hg:o.guard=some (k,want))(hk:ops[k]?=some oj)(hj:oj.dst=some (ds.getD k 0))(hR:Rs[k]?=some (aG undef))(hm:⟨k,.guard⟩∈o.after)(h2:bC P ops Q ds a0 w0 suf (Rs++[aG undef]) l):bC P ops Q ds a0 w0 suf Rs (o::l):=⟨aG undef,cF _,PU hg hk hj hR hm,h2⟩
theorem fI.u(hg:o.guard=none)(h1:GU P Q ds Rs a0 w0 v o)(h2:fI P ops Q ds a0 w0 (Rs++[aG v]) l):fI P ops Q ds a0 w0 Rs (o::l):=⟨aG v,cF v,h1.step hg,h2⟩
theorem fI.g(hg:o.guard=some (k,want))(hk:ops[k]?=some oj)(hj:oj.dst=some (ds.getD k 0))(hR:Rs[k]?=some (aG (.bool b)))(hb:(b==want)=true)(hm:⟨k,.guard⟩∈o.after)(h1:GU P Q ds Rs a0 w0 v o)(h2:fI P ops Q ds a0 w0 (Rs++[aG v]) l):fI P ops Q ds a0 w0 Rs (o::l):=⟨aG v,cF v,h1.stepG hg hk hj hR hb hm,h2⟩
theorem fI.n(hg:o.guard=some (k,want))(hk:ops[k]?=some oj)(hj:oj.dst=some (ds.getD k 0))(hR:Rs[k]?=some (aG (.bool b)))(hb:(b==want)=false)(hm:⟨k,.guard⟩∈o.after)(h2:fI P ops Q ds a0 w0 (Rs++[aG undef]) l):fI P ops Q ds a0 w0 Rs (o::l):=⟨aG undef,cF _,PV hg hk hj hR hb hm,h2⟩
theorem fI.m(hg:o.guard=some (k,want))(hk:ops[k]?=some oj)(hj:oj.dst=some (ds.getD k 0))(hR:Rs[k]?=some (aG undef))(hm:⟨k,.guard⟩∈o.after)(h2:fI P ops Q ds a0 w0 (Rs++[aG undef]) l):fI P ops Q ds a0 w0 Rs (o::l):=⟨aG undef,cF _,PU hg hk hj hR hm,h2⟩
end
end Go.Proofs.YtdkepkaflielhaaGreatDoor
/- GrowW: as GrowV, for regions whose last two operations wait for one another, the first of them for all the others but one, which may be late: the last one waits for it. -/
namespace Go.Proofs.YtdkepkaflielhaaGreatDoor
open Go.RowKit Go.ChangeShapes
set_option linter.unusedVariables false
set_option linter.unusedSimpArgs false

section
variable {P:Program} {ops:Array Oper} {Q:Exit → Act → World → Prop} {ds:List Tmp} {R:Nat → Value → World → Prop} {a0:Act} {w0:World} {f:Nat} {fo s0 s1:Oper}

structure zQ(ops:Array Oper)(ds:List Tmp)(n f:Nat):Prop where
 le:ops.size = ds.length + 2
 fl:f < ds.length
 dst:∀i o,i < ds.length → ops[i]? = some o → o.dst = some (ds.getD i 0)
 nodup:ds.Nodup
 fits:∀d ∈ ds,d < n
 topo:∀i o,ops[i]? = some o → ∀e ∈ o.after,Region.binds .any e = true → e.on < i
 nof:∀i o,i ≤ ds.length → ops[i]? = some o → ∀e ∈ o.after,Region.binds .any e = true → e.on ≠ f
 sguard:∀i o,(ds.length ≤ i ∨ i = f) → ops[i]? = some o → o.guard = none
 all0:∀o,ops[ds.length]? = some o → ∀j,j < ds.length → j ≠ f → ∃e ∈ o.after,Region.binds .any e = true ∧ e.on = j
 all1:∀o,ops[ds.length + 1]? = some o → (∃e ∈ o.after,Region.binds .any e = true ∧ e.on = f) ∧ ∃e ∈ o.after,Region.binds .any e = true ∧ e.on = ds.length

def GC(ops:Array Oper)(ds:List Tmp)(n f:Nat):Bool :=
 decide (ops.size = ds.length + 2) && decide (f < ds.length) && (List.range ops.size).all (fun i=>match ops[i]? with
  | some o=>o.after.all (fun e=> !Region.binds .any e || decide (e.on < i)) && (if i < ds.length then (match o.dst with | some d=>d == ds.getD i 0 | none=>false) else true) && (if ds.length ≤ i ∨ i = f then o.guard.isNone else true) && (if i ≤ ds.length then o.after.all (fun e=> !Region.binds .any e || decide (e.on ≠ f)) else true)
  | none=>true) && decide ds.Nodup && ds.all (fun d=>decide (d < n)) &&
 (match ops[ds.length]? with | some o=>(List.range ds.length).all (fun j=>decide (j = f) || o.after.any (fun e=>Region.binds .any e && e.on == j)) | none=>true) &&
 (match ops[ds.length + 1]? with | some o=>o.after.any (fun e=>Region.binds .any e && e.on == f) && o.after.any (fun e=>Region.binds .any e && e.on == ds.length) | none=>true)
theorem zQ.of{n:Nat}(h:GC ops ds n f = true):zQ ops ds n f := by
 unfold GC at h
 simp only[UB,UF,List.all_eq_true,List.mem_range]at h
 obtain⟨⟨⟨⟨⟨⟨h1,h2⟩,h3⟩,h4⟩,h5⟩,h6⟩,h7⟩:= h
 have hb:∀i o,ops[i]? = some o → i < ops.size := fun i o ho=>(UT.1 ho).1
 have h3':∀i o,ops[i]? = some o → (o.after.all (fun e=> !Region.binds .any e || decide (e.on < i)) = true ∧ (if i < ds.length then (match o.dst with | some d=>d == ds.getD i 0 | none=>false) else true) = true ∧ (if ds.length ≤ i ∨ i = f then o.guard.isNone else true) = true ∧ (if i ≤ ds.length then o.after.all (fun e=> !Region.binds .any e || decide (e.on ≠ f)) else true) = true) := fun i o ho=>by
  have := h3 i (hb i o ho)
  rw[ho]at this
  simp only[UB]at this
  exact⟨this.1.1.1,this.1.1.2,this.1.2,this.2⟩
 refine⟨h1,h2,fun i o hi ho=> ?_,h4,h5,fun i o ho e he hbd=> ?_,fun i o hi ho e he hbd=> ?_,fun i o hi ho=> ?_,fun o ho j hj hjf=> ?_,fun o ho=> ?_⟩
 ·have t1 := (h3' i o ho).2.1
  rw[if_pos hi]at t1
  cases hd:o.dst with
  | none=>rw[hd]at t1;simp at t1
  | some d=>rw[hd]at t1;simp at t1;rw[t1];simp
 ·have := Array.all_eq_true_iff_forall_mem.1 (h3' i o ho).1 e he
  simp[hbd]at this
  exact this
 ·have t1 := (h3' i o ho).2.2.2
  rw[if_pos hi]at t1
  have := Array.all_eq_true_iff_forall_mem.1 t1 e he
  simp[hbd]at this
  exact this
 ·have t1 := (h3' i o ho).2.2.1
  rw[if_pos hi]at t1
  simpa using t1
 ·rw[ho]at h6
  simp only[List.all_eq_true,List.mem_range]at h6
  have := h6 j hj
  simp only[UV,UF]at this
  rcases this with this|this
  ·exact absurd this hjf
  ·obtain⟨e,he,hbd⟩:= Array.any_eq_true'.1 this
   simp only[UB,beq_iff_eq]at hbd
   exact⟨e,he,hbd.1,hbd.2⟩
 ·rw[ho]at h7
  simp only[UB]at h7
  obtain⟨e,he,hbd⟩:= Array.any_eq_true'.1 h7.1
  obtain⟨e2,he2,hbd2⟩:= Array.any_eq_true'.1 h7.2
  simp only[UB,beq_iff_eq]at hbd hbd2
  exact⟨⟨e,he,hbd.1,hbd.2⟩,⟨e2,he2,hbd2.1,hbd2.2⟩⟩

/-- All but those of us are listed,the first of which alone is ready:they go one behind the other. -/
theorem oY:∀(us:List Nat) (fuel:Nat) (listed:Array Bool) (a:Act) (w:World) (os:List Oper),listed.size = ops.size → us.length = os.length → us.length ≤ fuel → us.Nodup →
  (∀(k u:Nat) (o:Oper),us[k]? = some u → os[k]? = some o → ops[u]? = some o ∧ o.guard = none) →
  (∀j,j < ops.size → (listed.getD j false = false ↔ j ∈ us)) →
  (∀(k u:Nat) (o:Oper),us[k]? = some u → ops[u]? = some o → ∀e ∈ o.after,Region.binds .any e = true → e.on < ops.size ∧ e.on ∉ us.drop k) →
  (∀(k u:Nat) (o:Oper),us[k + 1]? = some u → ops[u]? = some o → ∃e ∈ o.after,Region.binds .any e = true ∧ ∃k',us[k]? = some k' ∧ e.on = k') →
  fN P Q os a w → wpAny P .any ops Q fuel listed a w
 | [],fuel,listed,a,w,os,hsz,hl,hf,hnd,ho,hu,hd,hw,hq=>by
  have:os = [] := List.length_eq_zero_iff.1 (by simpa using hl.symm)
  subst this
  refine wpAny_done ?_ hq fuel
  rw[List.eq_nil_iff_forall_not_mem]
  intro i hi
  rw[mem_ready]at hi
  obtain⟨h0,o,ho,_⟩:= hi
  have hio := (UT.1 ho).1
  have hs:i < listed.size := by omega
  have := (hu i hio).1 (by simpa[hs] using h0)
  simp at this
 | u :: us,0,listed,a,w,os,hsz,hl,hf,_,_,_,_,_,_=>by simp at hf
 | u :: us,fuel + 1,listed,a,w,os,hsz,hl,hf,hnd,ho,hu,hd,hw,hq=>by
  obtain⟨o,os',rfl⟩: ∃o os',os = o :: os' := by
   cases os with
   | nil=>simp at hl
   | cons o os' =>exact⟨o,os',rfl⟩
  obtain⟨hou,hog⟩:= ho 0 u o rfl rfl
  have huo:u < ops.size := (UT.1 hou).1
  have ft:∀j,j < ops.size → listed.getD j true = listed.getD j false := fun j hj=>by simp[show j < listed.size by omega]
  refine⟨fun hr=> ?_,fun i hi=> ?_⟩
  ·exfalso
   have hmem:u ∈ Region.ready .any ops listed := by
    rw[mem_ready]
    refine⟨by rw[ft u huo];exact(hu u huo).2 (by simp),o,hou,fun e he hb=> ?_⟩
    obtain⟨h1,h2⟩:= hd 0 u o rfl hou e he hb
    have:¬listed.getD e.on false = false := fun h=>h2 (by simpa using (hu _ h1).1 h)
    simpa using this
   rw[hr]at hmem
   simp at hmem
  ·rw[mem_ready]at hi
   obtain⟨h0,oi,hoi,hdeps⟩:= hi
   have hio := (UT.1 hoi).1
   have hin:i ∈ u :: us := (hu i hio).1 (by rw[←ft i hio];exact h0)
   have hiu:i = u := by
    obtain⟨k,hk⟩:= List.getElem?_of_mem hin
    cases k with
    | zero=>simp at hk;exact hk.symm
    | succ k=>
     exfalso
     obtain⟨e,he,hb,k',hk',hon⟩:= hw k i oi hk hoi
     have h1 := hdeps e he hb
     have h2:e.on ∈ u :: us := by rw[hon];exact List.mem_of_getElem? hk'
     have h3 := (hu e.on (hd (k + 1) i oi hk hoi e he hb).1).2 h2
     rw[h3]at h1;simp at h1
   subst hiu
   obtain rfl:o = oi := by rw[hou]at hoi;exact Option.some.inj hoi
   refine wpOp_step hou (fun K' hK=> ?_)
   rw[if_pos (by unfold Region.wanted;rw[hog])]
   refine hq K' (fun a' w' h' =>hK _ _ ?_)
   refine oY us fuel _ a' w' os' (by simp[hsz]) (by simpa using hl) (by simpa using hf) (List.nodup_cons.1 hnd).2 (fun k u' o' h1 h2=>ho (k + 1) u' o' (by simpa using h1) (by simpa using h2)) (fun j hj=> ?_) (fun k u' o' h1 h2 e he hb=>by have := hd (k + 1) u' o' (by simpa using h1) h2 e he hb;simpa using this) (fun k u' o' h1 h2=>by
    obtain⟨e,he,hb,k',hk',hon⟩:= hw (k + 1) u' o' (by simpa using h1) h2
    exact⟨e,he,hb,k',by simpa using hk',hon⟩) h'
   by_cases e:i = j
   ·subst e
    have hs:i < listed.size := by omega
    simp[hs]
    exact(List.nodup_cons.1 hnd).1
   ·rw[getD_set_ne false e,hu j hj]
    simp[Ne.symm e]

theorem EX(hF:zQ ops ds a0.tmps.size f)(hof:ops[f]? = some fo)(h0:ops[ds.length]? = some s0)(h1:ops[ds.length + 1]? = some s1)(hst:∀i v w w',R i v w → Below w.heap.size w w' → R i v w')
  (hstep:∀i o,i < ds.length → ops[i]? = some o → fO P ops Q ds R a0 w0 i o)
  (hdone:∀a w,a.tmps.size = a0.tmps.size → a.defers = a0.defers → (∀t,t ∉ ds → aD a t = aD a0 t) → (∀i,i < ds.length → R i (aD a (ds.getD i 0)) w) → Below w0.heap.size w0 w → fN P Q [s0,s1] a w)
  (hlate:∀a w,a.tmps.size = a0.tmps.size → a.defers = a0.defers → (∀t,t ∉ ds → aD a t = aD a0 t) → (∀i,i < ds.length → i ≠ f → R i (aD a (ds.getD i 0)) w) → aD a (ds.getD f 0) = aD a0 (ds.getD f 0) → Below w0.heap.size w0 w → fN P Q [s0,fo,s1] a w) :
  ∀(fuel:Nat) (listed:Array Bool) (a:Act) (w:World),vT listed ops.size ≤ fuel → JM ops ds R a0 w0 listed a w → (∀j,j < ops.size → ds.length ≤ j → listed.getD j false = false) → (listed.getD f false = false → aD a (ds.getD f 0) = aD a0 (ds.getD f 0)) → wpAny P .any ops Q fuel listed a w := by
 have ft:∀(listed:Array Bool) (j:Nat),j < listed.size → (listed.getD j true = listed.getD j false) := fun listed j hj=>by simp[hj]
 have hle := hF.le
 have hfl := hF.fl
 have cnt:∀(listed:Array Bool) (us:List Nat),listed.size = ops.size → us.Nodup → (∀u ∈ us,u < ops.size ∧ listed.getD u false = false) → us.length ≤ vT listed ops.size := by
  intro listed us hsz hnd hu
  have key:∀n (us:List Nat),n ≤ ops.size → us.Nodup → (∀u ∈ us,u < n ∧ listed.getD u false = false) → us.length ≤ vT listed n := by
   intro n
   induction n with
   | zero=>intro us _ _ h;cases us with | nil=>simp | cons u us=>have := (h u (by simp)).1;omega
   | succ n ihn=>
    intro us hn hnd h
    unfold vT
    by_cases hm:n ∈ us
    ·have e1 := ihn (us.erase n) (by omega) (hnd.erase n) (fun u hu=>by
      have h2 := List.mem_of_mem_erase hu
      have h3:u ≠ n := fun e=>by subst e;exact(List.Nodup.not_mem_erase hnd) hu
      have := h u h2
      exact⟨by omega,this.2⟩)
     rw[List.length_erase_of_mem hm]at e1
     rw[if_neg (by rw[ft listed n (by omega),(h n hm).2];simp)]
     omega
    ·have e1 := ihn us (by omega) hnd (fun u hu=>by
      have := h u hu
      have h3:u ≠ n := fun e=>by subst e;exact hm hu
      exact⟨by omega,this.2⟩)
     split <;> omega
  exact key _ us lR hnd hu
 intro fuel
 induction fuel with
 | zero=>
  intro listed a w hu hI hs hlt
  exfalso
  have := cnt listed [ds.length] hI.size (by simp) (fun u hu=>by simp at hu;subst hu;exact⟨by omega,hs _ (by omega) lR⟩)
  simp at this;omega
 | succ fuel ih=>
  intro listed a w hu hI hs hlt
  have late:(∀j,j < ds.length → j ≠ f → listed.getD j false = true) → wpAny P .any ops Q (fuel + 1) listed a w ∨ listed.getD f false = false := fun hall=>by
   cases hff:listed.getD f false with
   | false=>exact .inr rfl
   | true=>
    refine .inl ?_
    refine oY [ds.length,ds.length + 1] (fuel + 1) listed a w [s0,s1] hI.size rfl ?_ (by simp) ?_ ?_ ?_ ?_ (hdone a w hI.tsize hI.defers hI.outer (fun j hj=>hI.inner j (if e:j = f then (by rw[e];exact hff) else hall j hj e)) hI.below)
    ·exact UL (cnt listed [ds.length,ds.length + 1] hI.size (by simp) (fun u hu=>by simp at hu;rcases hu with rfl|rfl <;> exact⟨by omega,hs _ (by omega) (by omega)⟩)) hu
    ·intro k u o hk ho
     match k,hk,ho with
     | 0,hk,ho=>simp at hk ho;subst hk ho;exact⟨h0,hF.sguard _ _ (.inl lR) h0⟩
     | 1,hk,ho=>simp at hk ho;subst hk ho;exact⟨h1,hF.sguard _ _ (.inl (by omega)) h1⟩
     | k + 2,hk,ho=>simp at hk
    ·intro j hj
     constructor
     ·intro h
      by_cases e:j < ds.length
      ·exfalso
       by_cases e2:j = f
       ·subst e2;rw[hff]at h;simp at h
       ·rw[hall j e e2]at h;simp at h
      ·simp;omega
     ·intro h;simp at h;exact hs j hj (by omega)
    ·intro k u o hk ho e he hb
     match k,hk with
     | 0,hk=>simp at hk;subst hk;have := hF.topo _ o ho e he hb;exact⟨by omega,by simp;omega⟩
     | 1,hk=>simp at hk;subst hk;have := hF.topo _ o ho e he hb;exact⟨by omega,by simp;omega⟩
     | k + 2,hk=>simp at hk
    ·intro k u o hk ho
     match k,hk with
     | 0,hk=>simp at hk;subst hk;obtain⟨_,e,he,hb,hon⟩:= hF.all1 o ho;exact⟨e,he,hb,ds.length,rfl,hon⟩
     | k + 1,hk=>simp at hk
  by_cases hall:∀j,j < ds.length → listed.getD j false = true
  ·rcases late (fun j hj _=>hall j hj) with h | h
   ·exact h
   ·rw[hall f hfl]at h;simp at h
  ·refine⟨fun hr=> ?_,fun i hi=> ?_⟩
   ·exfalso
    refine hall (fun i=> ?_)
    induction i using Nat.strongRecOn with
    | ind i ih2=>
     intro hil
     have hio:i < ops.size := by omega
     by_cases hh:listed.getD i true = true
     ·rw[ft listed i (by rw[hI.size];exact hio)]at hh;exact hh
     ·exfalso
      have hmem:i ∈ Region.ready .any ops listed := by
       rw[mem_ready]
       refine⟨by simpa using hh,ops[i],by simp[hio],fun e he hb=> ?_⟩
       have hlt := hF.topo i ops[i] (by simp[hio]) e he hb
       exact ih2 _ hlt (by omega)
      rw[hr]at hmem
      simp at hmem
   ·rw[mem_ready]at hi
    obtain⟨hi0,o,ho,hdeps⟩:= hi
    have hio:i < ops.size := (UT.1 ho).1
    by_cases hil:i < ds.length
    ·have hd := hF.dst i o hil ho
     have hmem:ds.getD i 0 ∈ ds := by rw[nD hil];exact UJ hil
     refine wpOp_step ho (fun K' hK=> ?_)
     refine hstep i o hil ho K' a w hI.outer (fun e he hb=>hI.inner _ (hdeps e he hb)) hI.below (fun v w' hR hB=>hK _ _ ?_)
     refine ih _ _ _ (by have := oX hi0 ops.size hio;omega) ⟨by simp[hI.size],?_,?_,fun t ht=> ?_,fun j hj=> ?_,hI.below.trans (hB.mono hI.below.size)⟩ (fun j hj hn=>by rw[getD_set_ne false (by omega)];exact hs j hj hn) ?_
     ·rw[hd];simp[Act.put,hI.tsize]
     ·rw[hd];simp[Act.put,hI.defers]
     ·rw[hd,eF (show ds.getD i 0 ≠ t from fun e=>ht (e ▸ hmem))];exact hI.outer t ht
     ·rw[hd]
      by_cases e:i = j
      ·subst e
       rw[jJ (by rw[hI.tsize];exact hF.fits _ hmem)]
       exact hR
      ·rw[getD_set_ne false e]at hj
       have hjo:j < ops.size := by
        rw[←hI.size]
        rcases Nat.lt_or_ge j listed.size with h'|h'
        ·exact h'
        ·simp[Array.getElem?_eq_none h']at hj
       have hjl:j < ds.length := by
        by_cases e2:j < ds.length
        ·exact e2
        ·rw[hs j hjo (by omega)]at hj;simp at hj
       rw[eF (mY hF.nodup hil hjl e)]
       exact hst _ _ _ _ (hI.inner j hj) hB
     ·intro hff
      by_cases e:i = f
      ·subst e
       have hsz:i < listed.size := by rw[hI.size];exact hio
       simp[hsz]at hff
      ·rw[getD_set_ne false e]at hff
       rw[hd,eF (mY hF.nodup hil hfl e)]
       exact hlt hff
    ·have hin:i = ds.length := by
      by_cases e2:i = ds.length
      ·exact e2
      ·exfalso
       have e3:i = ds.length + 1 := by omega
       subst e3
       obtain⟨_,e,he,hb,hon⟩:= hF.all1 o ho
       have h2 := hdeps e he hb
       rw[hon,hs _ (by omega) lR]at h2
       simp at h2
     subst hin
     obtain rfl:s0 = o := by rw[ho]at h0;exact(Option.some.inj h0).symm
     have hoth:∀j,j < ds.length → j ≠ f → listed.getD j false = true := fun j hj hjf=>by
      obtain⟨e,he,hb,hon⟩:= hF.all0 s0 ho j hj hjf
      rw[←hon];exact hdeps e he hb
     have hff:listed.getD f false = false := by
      cases hff:listed.getD f false with
      | false=>rfl
      | true=>exact absurd (fun j hj=>if e:j = f then (by rw[e];exact hff) else hoth j hj e) hall
     have hq := hlate a w hI.tsize hI.defers hI.outer (fun j hj hjf=>hI.inner j (hoth j hj hjf)) (hlt hff) hI.below
     refine wpOp_step ho (fun K' hK=> ?_)
     rw[if_pos (by unfold Region.wanted;rw[hF.sguard _ _ (.inl lR) ho])]
     refine hq K' (fun a' w' h' =>hK _ _ ?_)
     have hls:∀j,j ≠ ds.length → (listed.setIfInBounds ds.length true).getD j false = listed.getD j false := fun j hj=>getD_set_ne false (Ne.symm hj)
     have hle2:ds.length < listed.size := by rw[hI.size];omega
     have hsd:(listed.setIfInBounds ds.length true).getD ds.length false = true := by simp[hle2]
     refine oY [f,ds.length + 1] fuel _ a' w' [fo,s1] (by simp[hI.size]) rfl ?_ (by simp;omega) ?_ ?_ ?_ ?_ h'
     ·have h3 := cnt listed [ds.length,f,ds.length + 1] hI.size (by simp;omega) (fun u hu=>by simp at hu;rcases hu with rfl | rfl | rfl <;> first | exact⟨by omega,hff⟩ | exact⟨by omega,hs _ (by omega) (by omega)⟩)
      simp at h3 ⊢;omega
     ·intro k u o hk ho'
      match k,hk,ho' with
      | 0,hk,ho' =>simp at hk ho';subst hk ho';exact⟨hof,hF.sguard _ _ (.inr rfl) hof⟩
      | 1,hk,ho' =>simp at hk ho';subst hk ho';exact⟨h1,hF.sguard _ _ (.inl (by omega)) h1⟩
      | k + 2,hk,ho' =>simp at hk
     ·intro j hj
      constructor
      ·intro h
       by_cases e0:j = ds.length
       ·subst e0;rw[hsd]at h;simp at h
       ·rw[hls j e0]at h
        by_cases e:j < ds.length
        ·by_cases e2:j = f
         ·simp[e2]
         ·exfalso;rw[hoth j e e2]at h;simp at h
        ·simp;omega
      ·intro h
       simp at h
       rcases h with h|h
       ·subst h;rw[hls _ (by omega)];exact hff
       ·rw[hls j (by omega)];exact hs j hj (by omega)
     ·intro k u o hk ho' e he hb
      match k,hk with
      | 0,hk=>simp at hk;subst hk;have := hF.topo _ o ho' e he hb;exact⟨by omega,by simp;omega⟩
      | 1,hk=>simp at hk;subst hk;have := hF.topo _ o ho' e he hb;exact⟨by omega,by simp;omega⟩
      | k + 2,hk=>simp at hk
     ·intro k u o hk ho'
      match k,hk with
      | 0,hk=>simp at hk;subst hk;obtain⟨⟨e,he,hb,hon⟩,_⟩:= hF.all1 o ho';exact⟨e,he,hb,f,rfl,hon⟩
      | k + 1,hk=>simp at hk

/-- The operations,one by one,each with what it yields;then the last two,the late one ahead of them or between them. -/
def kA(P:Program)(ops:Array Oper)(Q:Exit → Act → World → Prop)(ds:List Tmp)(a0:Act)(w0:World)(f:Nat)(fo s0 s1:Oper):List (Value → World → Prop) → List Oper → Prop
 | Rs,[] =>(∀(X:Nat → Value) w,eY X w 0 Rs → Below w0.heap.size w0 w → fN P Q [s0,s1] (aE X a0 0 ds) w) ∧ (∀(X:Nat → Value) w,eY X w 0 (Rs.set f (aG (aD a0 (ds.getD f 0)))) → Below w0.heap.size w0 w → fN P Q [s0,fo,s1] (aE X a0 0 ds) w)
 | Rs,o :: l=> ∃r,eZ r ∧ fO P ops Q ds (aU (Rs ++ [r])) a0 w0 Rs.length o ∧ kA P ops Q ds a0 w0 f fo s0 s1 (Rs ++ [r]) l

theorem kA.all:∀(l:List Oper) (Rs:List (Value → World → Prop)),(∀i o,l[i]? = some o → ∀e ∈ o.after,Region.binds .any e = true → e.on < Rs.length + i) → (∀r ∈ Rs,eZ r) → kA P ops Q ds a0 w0 f fo s0 s1 Rs l →
  ∃Ss,(Rs ++ Ss).length = Rs.length + l.length ∧ (∀r ∈ Rs ++ Ss,eZ r) ∧ (∀i o,l[i]? = some o → fO P ops Q ds (aU (Rs ++ Ss)) a0 w0 (Rs.length + i) o) ∧ kA P ops Q ds a0 w0 f fo s0 s1 (Rs ++ Ss) []
 | [],Rs,_,hst,h=>⟨[],by simp,by simpa using hst,fun i o ho=>by simp at ho,by rw[List.append_nil];exact h⟩
 | o :: l,Rs,ht,hst,⟨r,hr,hs,hc⟩ =>by
  obtain⟨Ss,h1,h2,h3,h4⟩:= kA.all l (Rs ++ [r]) (fun i o' ho e he hb=>by
   have := ht (i + 1) o' (by simpa using ho) e he hb
   simp;omega) (fun x hx=>by
   rcases List.mem_append.1 hx with hx|hx
   ·exact hst x hx
   ·simp at hx;subst hx;exact hr) hc
  refine⟨r :: Ss,by simp at h1 ⊢;omega,by simpa using h2,fun i o' ho=> ?_,by simpa using h4⟩
  have e:Rs ++ r :: Ss = Rs ++ [r] ++ Ss := by simp
  rw[e]
  cases i with
  | zero=>
   simp at ho
   subst ho
   refine fO.congr (ht 0 o rfl) (fun j hj=> ?_) hs
   exact(qC (by simp;omega)).symm
  | succ i=>
   have := h3 i o' (by simpa using ho)
   rwa [show (Rs ++ [r]).length + i = Rs.length + (i + 1) by simp;omega]at this

theorem pC{id:Nat}(ds:List Tmp)(f:Nat)(fo s0 s1:Oper)(hm:P.follows .mixedOrders = true)(hF:GC ops ds a0.tmps.size f = true)(hof:ops[f]? = some fo)(hs0:ops[ds.length]? = some s0)(hs1:ops[ds.length + 1]? = some s1)(h:kA P ops Q ds a0 w0.drew f fo s0 s1 [] (ops.toList.take ds.length)) :
  (Code.region id ops true).wp P Q a0 w0 := by
 have hG := zQ.of hF
 have hle := hG.le
 obtain⟨Ss,h1,h2,h3,h4,h5⟩:= kA.all (ops.toList.take ds.length) [] (fun i o ho e he hb=>by
  have hi:i < ds.length := by
   by_cases e2:i < ds.length
   ·exact e2
   ·rw[List.getElem?_eq_none (by simp;omega)]at ho;simp at ho
  rw[List.getElem?_take,if_pos hi]at ho
  have := hG.topo i o (by simpa using ho) e he hb
  simpa using this) (fun r hr=>by simp at hr) h
 simp only[UM,List.length_nil,UI]at h1 h2 h3 h4 h5
 have jD:Ss.length = ds.length := by rw[h1];simp;omega
 have hput:∀(a:Act),a.tmps.size = a0.tmps.size → a.defers = a0.defers → (∀t,t ∉ ds → aD a t = aD a0 t) → aE (fun i=>aD a (ds.getD i 0)) a0 0 ds = a := fun a g1 g2 g3=>oR ds a0 0 g1.symm g2.symm (fun i _=>by rw[UI]) (fun t ht=>(g3 t ht).symm) (fun d hd=>by rw[g1];exact hG.fits d hd)
 refine wp_region_any hm (EX (w0 := w0.drew) (R := aU Ss) hG hof hs0 hs1 (fun i v w w' h hb=> ?_) (fun i o hi ho=> ?_) (fun a w g1 g2 g3 g4 g5=> ?_) (fun a w g1 g2 g3 g4 g6 g5=> ?_) ops.size _ a0 w0.drew (rX _ _) ⟨by simp,rfl,rfl,fun _ _=>rfl,fun i hi=> ?_,Below.refl _ _⟩ (fun j hj _=>by simp[hj]) (fun _=>rfl))
 ·unfold aU at *
  by_cases hi:i < Ss.length
  ·have e:Ss.getD i (fun _ _=>True) = Ss[i] := by simp[hi]
   rw[e]at h ⊢
   exact h2 _ (UJ hi) v w w' h hb
  ·have e:Ss.getD i (fun _ _=>True) = fun _ _=>True := by simp[Nat.le_of_not_lt hi]
   rw[e];trivial
 ·exact h3 i o (by rw[List.getElem?_take,if_pos hi];simpa using ho)
 ·rw[←hput a g1 g2 g3]
  exact h4 (fun i=>aD a (ds.getD i 0)) w (eY.mk Ss 0 (fun i hi=>by rw[UI];exact g4 i (by omega))) g5
 ·rw[←hput a g1 g2 g3]
  refine h5 (fun i=>aD a (ds.getD i 0)) w (eY.mk (Ss.set f (aG (aD a0 (ds.getD f 0)))) 0 (fun i hi=> ?_)) g5
  rw[UI]
  have hi':i < Ss.length := by simpa using hi
  unfold aU
  by_cases e:i = f
  ·subst e
   have e2:(Ss.set i (aG (aD a0 (ds.getD i 0)))).getD i (fun _ _=>True) = aG (aD a0 (ds.getD i 0)) := by simp[hi']
   rw[e2]
   exact g6
  ·have e2:(Ss.set f (aG (aD a0 (ds.getD f 0)))).getD i (fun _ _=>True) = Ss.getD i (fun _ _=>True) := by simp[List.getElem?_set_ne (Ne.symm e)]
   rw[e2]
   exact g4 i (by omega) e
 ·exfalso
  by_cases h:i < ops.size
  ·simp[h]at hi
  ·simp[h]at hi

theorem kA.val{Rs:List (Value → World → Prop)}{n:Nat}{o:Oper}{l:List Oper}(Rs':Value → List (Value → World → Prop))(hR:∀v,Rs' v = Rs ++ [aG v])(hn:Rs.length = n)(h:∃v,fO P ops Q ds (aU (Rs' v)) a0 w0 n o ∧ kA P ops Q ds a0 w0 f fo s0 s1 (Rs' v) l):kA P ops Q ds a0 w0 f fo s0 s1 Rs (o :: l) := by
 obtain⟨v,h1,h2⟩:= h
 rw[hR]at h1 h2
 subst hn
 exact⟨aG v,cF v,h1,h2⟩
theorem kA.rel{Rs:List (Value → World → Prop)}{n:Nat}{o:Oper}{l:List Oper}(r:Value → World → Prop)(hr:eZ r)(Rs':List (Value → World → Prop))(hR:Rs' = Rs ++ [r])(hn:Rs.length = n)(h1:fO P ops Q ds (aU Rs') a0 w0 n o)(h2:kA P ops Q ds a0 w0 f fo s0 s1 Rs' l):kA P ops Q ds a0 w0 f fo s0 s1 Rs (o :: l) := by
 subst hR hn
 exact⟨r,hr,h1,h2⟩
end
end Go.Proofs.YtdkepkaflielhaaGreatDoor
namespace Go.Proofs.YtdkepkaflielhaaGreatDoor
open Go.RowKit
section
variable {P:Program} {ops:Array Oper} {Q:Exit→Act→World→Prop} {ds:List Tmp} {R:Nat→Value→World→Prop} {a0:Act} {w0:World} {last:Oper} {E:World→World→Prop} {I:World→Prop}
structure RQ(E:World→World→Prop)(I:World→Prop)(ops:Array Oper)(ds:List Tmp)(R:Nat→Value→World→Prop)(a0:Act)(w0:World)(listed:Array Bool)(a:Act)(w:World):Prop where
 size:listed.size=ops.size
 tsize:a.tmps.size=a0.tmps.size
 defers:a.defers=a0.defers
 outer:∀t,t ∉ ds→aD a t=aD a0 t
 inner:∀i,listed.getD i false=true→R i (aD a (ds.getD i 0)) w
 inv:I w
def LT(E:World→World→Prop)(I:World→Prop)(P:Program)(Q:Exit→Act→World→Prop)(ds:List Tmp)(R:Nat→Value→World→Prop)(a0:Act)(i:Nat)(o:Oper):Prop :=
 ∀(K':Act→World→Prop) (a:Act) (w:World),(∀t,t ∉ ds→aD a t=aD a0 t)→(∀e∈o.after,Region.binds .any e=true→R e.on (aD a (ds.getD e.on 0)) w) →
  I w→(∀v w',R i v w'→E w w'→I w'→K' (a.put o.dst v) w')→Oper.wp P o a w K' Q
theorem BX(hF:zP ops ds a0.tmps.size last)(hst:∀i v w w',R i v w→E w w'→R i v w')
  (hstep:∀i o,i < ds.length→ops[i]?=some o→LT E I P Q ds R a0 i o)
  (hlast:∀(K':Act→World→Prop) a w,a.tmps.size=a0.tmps.size→a.defers=a0.defers→(∀t,t ∉ ds→aD a t=aD a0 t)→(∀i,i < ds.length→R i (aD a (ds.getD i 0)) w)→I w→(∀a' w',Q .normal a' w'→K' a' w')→Oper.wp P last a w K' Q) :
  ∀(fuel:Nat) (listed:Array Bool) (a:Act) (w:World),vT listed ops.size≤fuel→RQ E I ops ds R a0 w0 listed a w→listed.getD ds.length true=false→(∀i o,ops[i]?=some o→listed.getD i false=true→∀e∈o.after,Region.binds .any e=true→listed.getD e.on false=true)→wpAny P .any ops Q fuel listed a w:=by
 have hne:∀(listed:Array Bool),listed.size=ops.size→listed.getD ds.length true=false→Region.ready .any ops listed=[]→False:=by
  intro listed hsz hl hr;have key:∀i,i < ds.length→listed.getD i false=true:=by
   intro i;induction i using Nat.strongRecOn with
   | ind i ih=>
    intro hi;have hio:i < ops.size:=by rw[hF.len];omega
    by_cases hh:listed.getD i true=true
    ·have hlt:i < listed.size:=by omega
     simpa[hlt] using hh
    ·exfalso
     have hmem:i∈Region.ready .any ops listed:=by
      rw[mem_ready];refine⟨by simpa using hh,ops[i],by simp[hio],fun e he hb=>?_⟩;have hlt:=hF.topo i ops[i] hi (by simp[hio]) e he hb;exact ih _ hlt (by omega)
     rw[hr]at hmem;simp at hmem
  have hmem:ds.length∈Region.ready .any ops listed:=by
   rw[mem_ready];exact⟨hl,last,hF.isLast,fun e he hb=>key _ (hF.ledge e he hb)⟩
  rw[hr]at hmem;simp at hmem
 intro fuel;induction fuel with
 | zero=>
  intro listed a w hu hI hl hcl;exfalso
  have:=oC (listed:=listed) ops.size (by omega) ds.length (by rw[hF.len];omega);rw[hl]at this;simp at this
 | succ fuel ih=>
  intro listed a w hu hI hl hcl;refine⟨fun hr=>(hne listed hI.size hl hr).elim,fun i hi=>?_⟩;rw[mem_ready]at hi;obtain⟨h0,o,ho,hdeps⟩:=hi;have hi:i < ops.size:=(UT.1 ho).1;by_cases hil:i < ds.length
  ·obtain⟨hd,hg⟩:=hF.dst i o hil ho;have hmem:ds.getD i 0∈ds:=by rw[nD hil];exact UJ hil
   refine wpOp_step ho (fun K' hK=>?_);rw[if_pos (by unfold Region.wanted;rw[hg])];refine hstep i o hil ho K' a w hI.outer (fun e he hb=>hI.inner _ (hdeps e he hb)) hI.inv (fun v w' hR hB hI'=>hK _ _ ?_);refine ih _ _ _ (by have:=oX h0 ops.size hi;omega) ⟨by simp[hI.size],?_,?_,fun t ht=>?_,fun j hj=>?_,hI'⟩ (by rw[getD_set_ne true (by omega)];exact hl) ?_;rotate_right
   ·have hset:∀j,listed.getD j false=true→(listed.setIfInBounds i true).getD j false=true:=fun j hj=>by
     by_cases e:i=j
     ·subst e;have hs:i < listed.size:=by rw[hI.size];exact hi
      simp[hs]
     ·rw[getD_set_ne false e];exact hj
    intro j o' ho' hj e he hb;by_cases hij:i=j
    ·subst hij;obtain rfl:o=o':=by rw[ho]at ho';exact Option.some.inj ho'
     exact hset _ (hdeps e he hb)
    ·rw[getD_set_ne false hij]at hj;exact hset _ (hcl j o' ho' hj e he hb)
   ·rw[hd];simp[Act.put,hI.tsize]
   ·rw[hd];simp[Act.put,hI.defers]
   ·rw[hd,eF (show ds.getD i 0≠t from fun e=>ht (e ▸ hmem))];exact hI.outer t ht
   ·rw[hd];by_cases e:i=j
    ·subst e;rw[jJ (by rw[hI.tsize];exact hF.fits _ hmem)];exact hR
    ·rw[getD_set_ne false e]at hj;have hjo:j < ops.size:=by
      rw[←hI.size];rcases Nat.lt_or_ge j listed.size with h'|h'
      ·exact h'
      ·simp[Array.getElem?_eq_none h']at hj
     have hjl:j < ds.length:=by
      rcases Nat.lt_or_ge j ds.length with h'|h'
      ·exact h'
      ·exfalso
       have hjn:j=ds.length:=by have:=hF.len;omega
       have hjs:j < listed.size:=by rw[hI.size];exact hjo
       rw[←hjn]at hl;simp[hjs]at hl hj;rw[hl]at hj;simp at hj
     rw[eF (mY hF.nodup hil hjl e)];exact hst _ _ _ _ (hI.inner j hj) hB
  ·have hin:i=ds.length:=by have:=hF.len;omega
   subst hin;obtain rfl:last=o:=by have:=hF.isLast;rw[this]at ho;exact Option.some.inj ho
   refine wpOp_step ho (fun K' hK=>?_);rw[if_pos (by unfold Region.wanted;rw[hF.lguard])];have hall:∀i,i < ds.length→listed.getD i false=true:=by
    have key:∀d j,ds.length-j≤d→j < ds.length→listed.getD j false=true:=by
     intro d;induction d with
     | zero=>intro j h1 h2;omega
     | succ d ihd=>
      intro j h1 h2;rcases hF.lall j h2 with ⟨e,he,hb,hon⟩|⟨q,oq,hq1,hq2,hoq,e,he,hb,hon⟩
      ·rw[←hon];exact hdeps e he hb
      ·rw[←hon];exact hcl q oq hoq (ihd q (by omega) hq2) e he hb
    exact fun j hj=>key ds.length j (by omega) hj
   refine hlast K' a w hI.tsize hI.defers hI.outer (fun j hj=>hI.inner j (hall j hj)) hI.inv (fun a' w' hQ=>hK _ _ (wpAny_done ?_ hQ fuel));rw[List.eq_nil_iff_forall_not_mem];intro j hj;rw[mem_ready]at hj;obtain⟨g0,o',ho',_⟩:=hj;have hjo:j < ops.size:=(UT.1 ho').1;by_cases e:ds.length=j
   ·subst e;have hs:ds.length < listed.size:=by rw[hI.size];exact hi
    simp[hs]at g0
   ·rw[getD_set_ne true e]at g0;have hjl:j < ds.length:=by have:=hF.len;omega
    have:=hall j hjl;have hs:j < listed.size:=by rw[hI.size];exact hjo
    simp[hs]at g0 this;rw[g0]at this;simp at this
def tD(E:World→World→Prop)(I:World→Prop)(P:Program)(Q:Exit→Act→World→Prop)(ds:List Tmp)(R:Nat→Value→World→Prop)(a0:Act):Nat→List Oper→Prop
 | _,[]=>True
 | n,o::l=>LT E I P Q ds R a0 n o∧tD E I P Q ds R a0 (n+1) l
theorem tD.at':∀(l:List Oper) (n:Nat),tD E I P Q ds R a0 n l→∀i o,l[i]?=some o→LT E I P Q ds R a0 (n+i) o
 | [],_,_,i,o,h=>by simp at h
 | p::l,n,hs,0,o,h=>by simp at h;subst h;exact hs.1
 | p::l,n,hs,i+1,o,h=>by
  have:=tD.at' l (n+1) hs.2 i o (by simpa using h);rwa [show n+1+i=n+(i+1) by omega]at this
def cX(E:World→World→Prop)(r:Value→World→Prop):Prop:=∀v w w',r v w→E w w'→r v w'
theorem TY{Rs:List (Value→World→Prop)}(hst:∀r∈Rs,cX E r)(i:Nat)(v:Value)(w w':World)(h:aU Rs i v w)(hb:E w w'):aU Rs i v w':=by
 unfold aU at *;by_cases hi:i < Rs.length
 ·have e:Rs.getD i (fun _ _=>True)=Rs[i]:=by simp[hi]
  rw[e]at h ⊢;exact hst _ (UJ hi) v w w' h hb
 ·have e:Rs.getD i (fun _ _=>True)=fun _ _=>True:=by simp[Nat.le_of_not_lt hi]
  rw[e];trivial
theorem tW{id:Nat}{Rs:List (Value→World→Prop)}(E:World→World→Prop)(I:World→Prop)(ds:List Tmp)(last:Oper)(hm:P.follows .mixedOrders=true)(hlst:ops[ds.length]?=some last)(hF:GB ops ds a0.tmps.size last=true)(hl:Rs.length=ds.length)(hI0:I w0.drew)(hst:∀r∈Rs,cX E r)
  (hstep:tD E I P Q ds (aU Rs) a0 0 (ops.toList.take ds.length))
  (hlast:∀(X:Nat→Value) (a:Act) (K':Act→World→Prop) w,a=aE X a0 0 ds→(∀i,i < ds.length→aD a (ds.getD i 0)=X i)→eY X w 0 Rs→I w→(∀a' w',Q .normal a' w'→K' a' w')→Oper.wp P last a w K' Q) :
  (Code.region id ops true).wp P Q a0 w0:=by
 have hG:=zP.of hlst hF;have jD:=hG.len;refine wp_region_any hm (BX (E:=E) (I:=I) (w0:=w0.drew) (R:=aU Rs) hG (TY hst) (fun i o hi ho=>?_) (fun K' a w h1 h2 h3 h4 h5 h6=>?_) ops.size _ a0 w0.drew (rX _ _) ⟨by simp,rfl,rfl,fun _ _=>rfl,fun i hi=>?_,hI0⟩ ?_ (fun i o _ hi=>?_))
 ·have:=tD.at' (ops.toList.take ds.length) 0 hstep i o (by rw[List.getElem?_take_of_lt hi];simpa using ho);rwa [UI]at this
 ·have hp:aE (fun i=>aD a (ds.getD i 0)) a0 0 ds=a:=oR ds a0 0 h1.symm h2.symm (fun i _=>by rw[UI]) (fun t ht=>(h3 t ht).symm) (fun d hd=>by rw[h1];exact hG.fits d hd);exact hlast (fun i=>aD a (ds.getD i 0)) a K' w hp.symm (fun i _=>rfl) (eY.mk Rs 0 (fun i hi=>by rw[UI];exact h4 i (by omega))) h5 h6
 ·exfalso
  by_cases h:i < ops.size
  ·simp[h]at hi
  ·simp[h]at hi
 ·simp[show ds.length < ops.size by omega]
 ·exfalso
  by_cases h:i < ops.size
  ·simp[h]at hi
  ·simp[h]at hi
end
open Go.ChangeShapes
section
variable {P:Program} {ops:Array Oper} {Q:Exit→Act→World→Prop} {ds:List Tmp} {R:Nat→Value→World→Prop} {a0:Act} {w0:World} {E:World→World→Prop} {I:World→Prop}
def oF(E:World→World→Prop)(I:World→Prop)(P:Program)(ops:Array Oper)(Q:Exit→Act→World→Prop)(ds:List Tmp)(R:Nat→Value→World→Prop)(a0:Act)(i:Nat)(o:Oper):Prop :=
 ∀(K':Act→World→Prop) (a:Act) (w:World),(∀t,t ∉ ds→aD a t=aD a0 t)→(∀e∈o.after,Region.binds .any e=true→R e.on (aD a (ds.getD e.on 0)) w) →
  I w→(∀v w',R i v w'→E w w'→I w'→K' (a.put o.dst v) w')→if Region.wanted o (yielded ops a.tmps)=true then Oper.wp P o a w K' Q else K' (a.put o.dst undef) w
theorem oF.congr{R R':Nat→Value→World→Prop}{i:Nat}{o:Oper}(ht:∀e∈o.after,Region.binds .any e=true→e.on < i)(h:∀j,j≤i→R j=R' j)(hs:oF E I P ops Q ds R a0 i o):oF E I P ops Q ds R' a0 i o:=by
 intro K' a w ho hd hb hK;refine hs K' a w ho (fun e he hbd=>?_) hb (fun v w' hr=>?_)
 ·rw[h e.on (Nat.le_of_lt (ht e he hbd))];exact hd e he hbd
 ·rw[h i lR]at hr;exact hK v w' hr
theorem BZ(hF:rH ops ds a0.tmps.size)(hst:∀i v w w',R i v w→E w w'→R i v w')
  (hstep:∀i o,i < ds.length→ops[i]?=some o→oF E I P ops Q ds R a0 i o)
  (hdone:∀a w,a.tmps.size=a0.tmps.size→a.defers=a0.defers→(∀t,t ∉ ds→aD a t=aD a0 t)→(∀i,i < ds.length→R i (aD a (ds.getD i 0)) w)→I w→fN P Q (ops.toList.drop ds.length) a w) :
  ∀(fuel:Nat) (listed:Array Bool) (a:Act) (w:World),vT listed ops.size≤fuel→RQ E I ops ds R a0 w0 listed a w→(∀j,j < ops.size→ds.length≤j→listed.getD j false=false)→(∀i o,ops[i]?=some o→listed.getD i false=true→∀e∈o.after,Region.binds .any e=true→listed.getD e.on false=true)→wpAny P .any ops Q fuel listed a w:=by
 have ft:∀(listed:Array Bool) (j:Nat),j < listed.size→(listed.getD j true=listed.getD j false):=fun listed j hj=>by simp[hj]
 intro fuel;induction fuel with
 | zero=>
  intro listed a w hu hI hs hcl;exfalso
  have:=oC (listed:=listed) ops.size (by omega) ds.length hF.le;rw[ft listed _ (by rw[hI.size];exact hF.le),hs _ hF.le lR]at this;simp at this
 | succ fuel ih=>
  intro listed a w hu hI hs hcl;by_cases hall:∀j,j < ds.length→listed.getD j false=true
  ·refine zO hF (fuel+1) ds.length listed a w lR (Nat.le_of_lt hF.le) hI.size (fun j hj=>⟨fun h=>?_,fun h=>hall j h⟩) ?_ (hdone a w hI.tsize hI.defers hI.outer (fun j hj=>hI.inner j (hall j hj)) hI.inv)
   ·by_cases e:j < ds.length
    ·exact e
    ·rw[hs j hj (by omega)]at h;simp at h
   ·refine UL ?_ hu;have key:∀n,n≤ops.size→n-ds.length≤vT listed n:=by
     intro n;induction n with
     | zero=>intro _;omega
     | succ n ihn=>
      intro hn;have h1:=ihn (by omega);unfold vT;by_cases e:n < ds.length
      ·omega
      ·rw[if_neg (by rw[ft listed n (by rw[hI.size];omega),hs n (by omega) (by omega)];simp)];omega
    exact key ops.size lR
  ·refine⟨fun hr=>?_,fun i hi=>?_⟩
   ·exfalso
    refine hall (fun i=>?_);induction i using Nat.strongRecOn with
    | ind i ih2=>
     intro hil;have hio:i < ops.size:=Nat.lt_trans hil hF.le;by_cases hh:listed.getD i true=true
     ·rw[ft listed i (by rw[hI.size];exact hio)]at hh;exact hh
     ·exfalso
      have hmem:i∈Region.ready .any ops listed:=by
       rw[mem_ready];refine⟨by simpa using hh,ops[i],by simp[hio],fun e he hb=>?_⟩;have hlt:=hF.topo i ops[i] (by simp[hio]) e he hb;exact ih2 _ hlt (by omega)
      rw[hr]at hmem;simp at hmem
   ·rw[mem_ready]at hi;obtain⟨h0,o,ho,hdeps⟩:=hi;have hio:i < ops.size:=(UT.1 ho).1;have hil:i < ds.length:=by
     by_cases e:i < ds.length
     ·exact e
     ·exfalso
      by_cases e2:ds.length < i
      ·obtain⟨e1,he,hb,hon⟩:=hF.swait i o e2 ho;have h1:=hdeps e1 he hb;rw[hs e1.on (by omega) (by omega)]at h1;simp at h1
      ·have hin:i=ds.length:=by omega
       refine hall ?_;have key:∀d j,ds.length-j≤d→j < ds.length→listed.getD j false=true:=by
        intro d;induction d with
        | zero=>intro j h1 h2;omega
        | succ d ihd=>
         intro j h1 h2;obtain⟨q,oq,hq1,hq2,hoq,ed,he,hb,hon⟩:=hF.lall j h2;by_cases e3:q=ds.length
         ·subst hin;subst e3;obtain rfl:o=oq:=by rw[ho]at hoq;exact Option.some.inj hoq
          rw[←hon];exact hdeps ed he hb
         ·rw[←hon];exact hcl q oq hoq (ihd q (by omega) (by omega)) ed he hb
       exact fun j hj=>key ds.length j (by omega) hj
    have hd:=hF.dst i o hil ho;have hmem:ds.getD i 0∈ds:=by rw[nD hil];exact UJ hil
    refine wpOp_step ho (fun K' hK=>?_);refine hstep i o hil ho K' a w hI.outer (fun e he hb=>hI.inner _ (hdeps e he hb)) hI.inv (fun v w' hR hB hI'=>hK _ _ ?_);refine ih _ _ _ (by have:=oX h0 ops.size hio;omega) ⟨by simp[hI.size],?_,?_,fun t ht=>?_,fun j hj=>?_,hI'⟩ (fun j hj hn=>by rw[getD_set_ne false (by omega)];exact hs j hj hn) ?_
    ·rw[hd];simp[Act.put,hI.tsize]
    ·rw[hd];simp[Act.put,hI.defers]
    ·rw[hd,eF (show ds.getD i 0≠t from fun e=>ht (e ▸ hmem))];exact hI.outer t ht
    ·rw[hd];by_cases e:i=j
     ·subst e;rw[jJ (by rw[hI.tsize];exact hF.fits _ hmem)];exact hR
     ·rw[getD_set_ne false e]at hj;have hjo:j < ops.size:=by
       rw[←hI.size];rcases Nat.lt_or_ge j listed.size with h'|h'
       ·exact h'
       ·simp[Array.getElem?_eq_none h']at hj
      have hjl:j < ds.length:=by
       by_cases e2:j < ds.length
       ·exact e2
       ·rw[hs j hjo (by omega)]at hj;simp at hj
      rw[eF (mY hF.nodup hil hjl e)];exact hst _ _ _ _ (hI.inner j hj) hB
    ·have hset:∀j,listed.getD j false=true→(listed.setIfInBounds i true).getD j false=true:=fun j hj=>by
      by_cases e:i=j
      ·subst e;have hsz:i < listed.size:=by rw[hI.size];exact hio
       simp[hsz]
      ·rw[getD_set_ne false e];exact hj
     intro j o' ho' hj e he hb;by_cases hij:i=j
     ·subst hij;obtain rfl:o=o':=by rw[ho]at ho';exact Option.some.inj ho'
      exact hset _ (hdeps e he hb)
     ·rw[getD_set_ne false hij]at hj;exact hset _ (hcl j o' ho' hj e he hb)
def cS(E:World→World→Prop)(I:World→Prop)(P:Program)(ops:Array Oper)(Q:Exit→Act→World→Prop)(ds:List Tmp)(a0:Act)(suf:List Oper):List (Value→World→Prop)→List Oper→Prop
 | Rs,[]=>∀(X:Nat→Value) w,eY X w 0 Rs→I w→fN P Q suf (aE X a0 0 ds) w
 | Rs,o::l=>∃r,cX E r∧oF E I P ops Q ds (aU (Rs++[r])) a0 Rs.length o∧cS E I P ops Q ds a0 suf (Rs++[r]) l
theorem cS.all{suf:List Oper}:∀(l:List Oper) (Rs:List (Value→World→Prop)),(∀i o,l[i]?=some o→∀e∈o.after,Region.binds .any e=true→e.on < Rs.length+i)→(∀r∈Rs,cX E r)→cS E I P ops Q ds a0 suf Rs l →
  ∃Ss,(Rs++Ss).length=Rs.length+l.length∧(∀r∈Rs++Ss,cX E r)∧(∀i o,l[i]?=some o→oF E I P ops Q ds (aU (Rs++Ss)) a0 (Rs.length+i) o)∧(∀(X:Nat→Value) w,eY X w 0 (Rs++Ss)→I w→fN P Q suf (aE X a0 0 ds) w)
 | [],Rs,_,hst,h=>⟨[],by simp,by simpa using hst,fun i o ho=>by simp at ho,by rw[List.append_nil];exact h⟩
 | o::l,Rs,ht,hst,⟨r,hr,hs,hc⟩=>by
  obtain⟨Ss,h1,h2,h3,h4⟩:=cS.all l (Rs++[r]) (fun i o' ho e he hb=>by
   have:=ht (i+1) o' (by simpa using ho) e he hb;simp;omega) (fun x hx=>by
   rcases List.mem_append.1 hx with hx|hx
   ·exact hst x hx
   ·simp at hx;subst hx;exact hr) hc
  refine⟨r::Ss,by simp at h1 ⊢;omega,by simpa using h2,fun i o' ho=>?_,by simpa using h4⟩;have e:Rs++r::Ss=Rs++[r]++Ss:=by simp
  rw[e]
  cases i with
  | zero=>
   simp at ho;subst ho;refine oF.congr (ht 0 o rfl) (fun j hj=>?_) hs;exact(qC (by simp;omega)).symm
  | succ i=>
   have:=h3 i o' (by simpa using ho);rwa [show (Rs++[r]).length+i=Rs.length+(i+1) by simp;omega]at this
theorem dY{id:Nat}(E:World→World→Prop)(I:World→Prop)(ds:List Tmp)(hm:P.follows .mixedOrders=true)(hF:AK ops ds a0.tmps.size=true)(hI0:I w0.drew)(h:cS E I P ops Q ds a0 (ops.toList.drop ds.length) [] (ops.toList.take ds.length)) :
  (Code.region id ops true).wp P Q a0 w0:=by
 have hG:=rH.of hF;have hle:=hG.le;obtain⟨Ss,h1,h2,h3,h4⟩:=cS.all (ops.toList.take ds.length) [] (fun i o ho e he hb=>by
  have hi:i < ds.length:=by
   by_cases e2:i < ds.length
   ·exact e2
   ·rw[List.getElem?_eq_none (by simp;omega)]at ho;simp at ho
  rw[List.getElem?_take,if_pos hi]at ho;have:=hG.topo i o (by simpa using ho) e he hb;simpa using this) (fun r hr=>by simp at hr) h
 simp only[UM,List.length_nil,UI]at h1 h2 h3 h4;have jD:Ss.length=ds.length:=by rw[h1];simp;omega
 refine wp_region_any hm (BZ (E:=E) (I:=I) (w0:=w0.drew) (R:=aU Ss) hG (fun i v w w' h hb=>?_) (fun i o hi ho=>?_) (fun a w g1 g2 g3 g4 g5=>?_) ops.size _ a0 w0.drew (rX _ _) ⟨by simp,rfl,rfl,fun _ _=>rfl,fun i hi=>?_,hI0⟩ (fun j hj _=>by simp[hj]) (fun i o ho hi=>?_))
 ·unfold aU at *;by_cases hi:i < Ss.length
  ·have e:Ss.getD i (fun _ _=>True)=Ss[i]:=by simp[hi]
   rw[e]at h ⊢;exact h2 _ (UJ hi) v w w' h hb
  ·have e:Ss.getD i (fun _ _=>True)=fun _ _=>True:=by simp[Nat.le_of_not_lt hi]
   rw[e];trivial
 ·exact h3 i o (by rw[List.getElem?_take,if_pos hi];simpa using ho)
 ·have hp:aE (fun i=>aD a (ds.getD i 0)) a0 0 ds=a:=oR ds a0 0 g1.symm g2.symm (fun i _=>by rw[UI]) (fun t ht=>(g3 t ht).symm) (fun d hd=>by rw[g1];exact hG.fits d hd);rw[←hp];exact h4 (fun i=>aD a (ds.getD i 0)) w (eY.mk Ss 0 (fun i hi=>by rw[UI];exact g4 i (by omega))) g5
 ·exfalso
  by_cases h:i < ops.size
  ·simp[h]at hi
  ·simp[h]at hi
 ·exfalso
  by_cases h:i < ops.size
  ·simp[h]at hi
  ·simp[h]at hi
theorem cS.val{suf:List Oper}{Rs:List (Value→World→Prop)}{n:Nat}{o:Oper}{l:List Oper}(Rs':Value→List (Value→World→Prop))(hR:∀v,Rs' v=Rs++[aG v])(hn:Rs.length=n)(h:∃v,oF E I P ops Q ds (aU (Rs' v)) a0 n o∧cS E I P ops Q ds a0 suf (Rs' v) l):cS E I P ops Q ds a0 suf Rs (o::l):=by
 obtain⟨v,h1,h2⟩:=h;rw[hR]at h1 h2;subst hn;exact⟨aG v,fun _ _ _ h _=>h,h1,h2⟩
theorem cS.rel{suf:List Oper}{Rs:List (Value→World→Prop)}{n:Nat}{o:Oper}{l:List Oper}(r:Value→World→Prop)(hr:cX E r)(Rs':List (Value→World→Prop))(hR:Rs'=Rs++[r])(hn:Rs.length=n)(h1:oF E I P ops Q ds (aU Rs') a0 n o)(h2:cS E I P ops Q ds a0 suf Rs' l):cS E I P ops Q ds a0 suf Rs (o::l):=by
 subst hR hn;exact⟨r,hr,h1,h2⟩
end
end Go.Proofs.YtdkepkaflielhaaGreatDoor
