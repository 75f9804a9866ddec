import Derived.Orders
import Derived.Test.YtdkepkaflielhaaGreatDoorMerged4
import Derived.BigQuiet
set_option linter.unusedVariables false
set_option linter.unusedSimpArgs false
set_option maxRecDepth 100000
set_option maxHeartbeats 8000000
namespace Go.Proofs.YtdkepkaflielhaaGreatDoor
open Go.RowKit Go.ChangeShapes
def slot (a:Act) (t:Tmp):Value:=a.tmps.getD t undef
theorem slot_put_ne {a:Act} {d t:Tmp} {v:Value} (h:d≠t):slot (a.put (some d) v) t=slot a t:=by
 simp [slot,Act.put,Array.getElem?_setIfInBounds_ne h]
theorem slot_put_eq {a:Act} {d:Tmp} {v:Value} (h:d < a.tmps.size):slot (a.put (some d) v) d=v:=by
 simp [slot,Act.put,h]
def unl (listed:Array Bool):Nat→Nat
 | 0=>0
 | n+1=>unl listed n+(if listed.getD n true=true then 0 else 1)
theorem unl_le (listed:Array Bool):∀ n,unl listed n≤n
 | 0=>Nat.le_refl _
 | n+1=>by have:=unl_le listed n; unfold unl; split<;>omega
theorem unl_ge {listed:Array Bool} {i:Nat}:∀ n,n≤i→unl (listed.setIfInBounds i true) n=unl listed n
 | 0,_=>rfl
 | n+1,h=>by unfold unl; rw [unl_ge n (by omega),getD_set_ne true (by omega)]
theorem unl_set {listed:Array Bool} {i:Nat} (hf:listed.getD i true=false):∀ n,i < n→unl (listed.setIfInBounds i true) n+1=unl listed n
 | 0,h=>by omega
 | n+1,h=>by
  unfold unl;by_cases e:i=n
  ·subst e;have hlt:i < listed.size:=by
    rcases Nat.lt_or_ge i listed.size with h' | h'
    ·exact h'
    ·simp [Array.getElem?_eq_none h'] at hf
   have hs:(listed.setIfInBounds i true).getD i true=true:=by simp [hlt]
   rw [unl_ge i lR,hs,hf,if_pos rfl,if_neg (by simp)]
  ·rw [getD_set_ne true e,← unl_set hf n (by omega)]; omega
theorem unl_zero {listed:Array Bool}:∀ n,unl listed n=0→∀ i,i < n→listed.getD i true=true
 | 0,_,i,h=>by omega
 | n+1,h0,i,h=>by
  unfold unl at h0;by_cases e:i=n
  ·subst e;by_cases hh:listed.getD i true=true
   ·exact hh
   ·rw [if_neg hh] at h0; omega
  ·exact unl_zero n (by omega) i (by omega)
section
variable {P:Program} {ops:Array Oper} {Q:Exit→Act→World→Prop} {ds:List Tmp} {R:Nat→Value→World→Prop} {a0:Act} {w0:World}
structure GInv (ops:Array Oper) (ds:List Tmp) (R:Nat→Value→World→Prop) (a0:Act) (w0:World) (listed:Array Bool) (a:Act) (w:World):Prop where
 size:listed.size=ops.size
 tsize:a.tmps.size=a0.tmps.size
 defers:a.defers=a0.defers
 outer:∀ t,t ∉ ds→slot a t=slot a0 t
 inner:∀ i,listed.getD i false=true→R i (slot a (ds.getD i 0)) w
 below:Below w0.heap.size w0 w
def GStep (P:Program) (Q:Exit→Act→World→Prop) (ds:List Tmp) (R:Nat→Value→World→Prop) (a0:Act) (w0:World) (i:Nat) (o:Oper):Prop :=
 ∀ (K':Act→World→Prop) (a:Act) (w:World),(∀ t,t ∉ ds→slot a t=slot a0 t)→(∀ e∈o.after,Region.binds .any e=true→R e.on (slot a (ds.getD e.on 0)) w) →
  Below w0.heap.size w0 w→(∀ v w',R i v w'→Below w.heap.size w w'→K' (a.put o.dst v) w')→Oper.wp P o a w K' Q
structure GForm (ops:Array Oper) (ds:List Tmp) (n:Nat):Prop where
 len:ds.length=ops.size
 dst:∀ i o,ops[i]?=some o→o.dst=some (ds.getD i 0)∧o.guard=none
 nodup:ds.Nodup
 fits:∀ d∈ds,d < n
 topo:∀ i o,ops[i]?=some o→∀ e∈o.after,Region.binds .any e=true→e.on < i
def gform (ops:Array Oper) (ds:List Tmp) (n:Nat):Bool :=
 decide (ds.length=ops.size)&&(List.range ops.size).all (fun i=>match ops[i]? with
  | some o=>(match o.dst with | some d=>d==ds.getD i 0 | none=>false)&&o.guard.isNone&&o.after.all (fun e=>!Region.binds .any e||decide (e.on < i))
  | none=>true)&&decide ds.Nodup&&ds.all (fun d=>decide (d < n))
theorem GForm.of {n:Nat} (h:gform ops ds n=true):GForm ops ds n:=by
 unfold gform at h;simp only [Bool.and_eq_true,decide_eq_true_iff,List.all_eq_true,List.mem_range] at h;obtain ⟨⟨⟨h1,h2⟩,h3⟩,h4⟩:=h;refine ⟨h1,fun i o ho=>?_,h3,h4,fun i o ho e he hb=>?_⟩
 ·have:=h2 i (Array.getElem?_eq_some_iff.1 ho).1;rw [ho] at this;simp only [Bool.and_eq_true] at this;obtain ⟨⟨t1,t2⟩,_⟩:=this;refine ⟨?_,by simpa using t2⟩
  cases hd:o.dst with
  | none=>rw [hd] at t1; simp at t1
  | some d=>rw [hd] at t1; simp at t1; rw [t1]; simp
 ·have:=h2 i (Array.getElem?_eq_some_iff.1 ho).1;rw [ho] at this;simp only [Bool.and_eq_true] at this;obtain ⟨_,t3⟩:=this;have:=Array.all_eq_true_iff_forall_mem.1 t3 e he;simp [hb] at this;exact this
theorem getD_at {ds:List Tmp} {i:Nat} (h:i < ds.length):ds.getD i 0=ds[i]:=by simp [h]
theorem nodup_ne {ds:List Tmp} (h:ds.Nodup) {i j:Nat} (hi:i < ds.length) (hj:j < ds.length) (hne:i≠j):ds.getD i 0≠ds.getD j 0:=by
 intro e;rw [getD_at hi,getD_at hj] at e;have hp:=List.pairwise_iff_getElem.1 h;rcases Nat.lt_or_gt_of_ne hne with hlt | hlt
 ·exact hp i j hi hj hlt e
 ·exact hp j i hj hi hlt e.symm
theorem wpAny_grow (hF:GForm ops ds a0.tmps.size) (hst:∀ i v w w',R i v w→Below w.heap.size w w'→R i v w')
  (hstep:∀ i o,ops[i]?=some o→GStep P Q ds R a0 w0 i o)
  (hdone:∀ a w,a.tmps.size=a0.tmps.size→a.defers=a0.defers→(∀ t,t ∉ ds→slot a t=slot a0 t)→(∀ i,i < ops.size→R i (slot a (ds.getD i 0)) w)→Below w0.heap.size w0 w→Q .normal a w) :
  ∀ (fuel:Nat) (listed:Array Bool) (a:Act) (w:World),unl listed ops.size≤fuel→GInv ops ds R a0 w0 listed a w→wpAny P .any ops Q fuel listed a w:=by
 have hall:∀ (listed:Array Bool) (a:Act) (w:World),GInv ops ds R a0 w0 listed a w→Region.ready .any ops listed=[]→Q .normal a w:=by
  intro listed a w hI hr;refine hdone a w hI.tsize hI.defers hI.outer (fun i hi=>hI.inner i ?_) hI.below;have key:∀ i,i < ops.size→listed.getD i false=true:=by
   intro i;induction i using Nat.strongRecOn with
   | ind i ih =>
    intro hi;have hsz:=hI.size;by_cases hh:listed.getD i true=true
    ·have hlt:i < listed.size:=by omega
     simpa [hlt] using hh
    ·exfalso
     have hmem:i∈Region.ready .any ops listed:=by
      rw [mem_ready];refine ⟨by simpa using hh,ops[i],by simp [hi],fun e he hb=>?_⟩;have hlt:=hF.topo i ops[i] (by simp [hi]) e he hb;exact ih _ hlt (by omega)
     rw [hr] at hmem;simp at hmem
  exact key i hi
 intro fuel;induction fuel with
 | zero =>
  intro listed a w hu hI;have hr:Region.ready .any ops listed=[]:=by
   rw [List.eq_nil_iff_forall_not_mem];intro i hi;rw [mem_ready] at hi;obtain ⟨h0,o,ho,_⟩:=hi;have:=unl_zero (listed:=listed) ops.size (by omega) i (Array.getElem?_eq_some_iff.1 ho).1;rw [h0] at this;simp at this
  exact ⟨hr,hall listed a w hI hr⟩
 | succ fuel ih =>
  intro listed a w hu hI;refine ⟨fun hr=>hall listed a w hI hr,fun i hi=>?_⟩;rw [mem_ready] at hi;obtain ⟨h0,o,ho,hdeps⟩:=hi;have hi:i < ops.size:=(Array.getElem?_eq_some_iff.1 ho).1;obtain ⟨hd,hg⟩:=hF.dst i o ho;have hil:i < ds.length:=by rw [hF.len]; exact hi
  have hmem:ds.getD i 0∈ds:=by rw [getD_at hil]; exact List.getElem_mem hil
  refine wpOp_step ho (fun K' hK=>?_);rw [if_pos (by unfold Region.wanted; rw [hg])];refine hstep i o ho K' a w hI.outer (fun e he hb=>hI.inner _ (hdeps e he hb)) hI.below (fun v w' hR hB=>hK _ _ ?_);refine ih _ _ _ (by have:=unl_set h0 ops.size hi; omega) ⟨by simp [hI.size],?_,?_,fun t ht=>?_,fun j hj=>?_,hI.below.trans (hB.mono hI.below.size)⟩
  ·rw [hd]; simp [Act.put,hI.tsize]
  ·rw [hd]; simp [Act.put,hI.defers]
  ·rw [hd,slot_put_ne (show ds.getD i 0≠t from fun e=>ht (e ▸ hmem))]; exact hI.outer t ht
  ·rw [hd];by_cases e:i=j
   ·subst e;rw [slot_put_eq (by rw [hI.tsize]; exact hF.fits _ hmem)];exact hR
   ·rw [getD_set_ne false e] at hj;have hjl:j < ds.length:=by
     rw [hF.len,← hI.size];rcases Nat.lt_or_ge j listed.size with h' | h'
     ·exact h'
     ·simp [Array.getElem?_eq_none h'] at hj
    rw [slot_put_ne (nodup_ne hF.nodup hil hjl e)];exact hst _ _ _ _ (hI.inner j hj) hB
theorem wp_region_grow {id:Nat} (hm:P.follows .mixedOrders=true) (hF:GForm ops ds a0.tmps.size) (hst:∀ i v w w',R i v w→Below w.heap.size w w'→R i v w')
  (hstep:∀ i o,ops[i]?=some o→GStep P Q ds R a0 w0.drew i o)
  (hdone:∀ a w,a.tmps.size=a0.tmps.size→a.defers=a0.defers→(∀ t,t ∉ ds→slot a t=slot a0 t)→(∀ i,i < ops.size→R i (slot a (ds.getD i 0)) w)→Below w0.drew.heap.size w0.drew w→Q .normal a w) :
  (Code.region id ops true).wp P Q a0 w0:=by
 refine wp_region_any hm (wpAny_grow (w0:=w0.drew) hF hst hstep hdone ops.size _ a0 w0.drew (unl_le _ _) ⟨by simp,rfl,rfl,fun _ _=>rfl,fun i hi=>?_,Below.refl _ _⟩);exfalso
 by_cases h:i < ops.size
 ·simp [h] at hi
 ·simp [h] at hi
def rAt (Rs:List (Value→World→Prop)) (i:Nat) (v:Value) (w:World):Prop:=Rs.getD i (fun _ _=>True) v w
def GSteps (P:Program) (Q:Exit→Act→World→Prop) (ds:List Tmp) (R:Nat→Value→World→Prop) (a0:Act) (w0:World):Nat→List Oper→Prop
 | _,[]=>True
 | n,o::l=>GStep P Q ds R a0 w0 n o∧GSteps P Q ds R a0 w0 (n+1) l
theorem GSteps.at':∀ (l:List Oper) (n:Nat),GSteps P Q ds R a0 w0 n l→∀ i o,l[i]?=some o→GStep P Q ds R a0 w0 (n+i) o
 | [],_,_,i,o,h=>by simp at h
 | p::l,n,hs,0,o,h=>by simp at h; subst h; exact hs.1
 | p::l,n,hs,i+1,o,h=>by
  have:=GSteps.at' l (n+1) hs.2 i o (by simpa using h);rwa [show n+1+i=n+(i+1) by omega] at this
def RAll (X:Nat→Value) (w:World):Nat→List (Value→World→Prop)→Prop
 | _,[]=>True
 | n,r::l=>r (X n) w∧RAll X w (n+1) l
theorem RAll.mk {X:Nat→Value} {w:World}:∀ (l:List (Value→World→Prop)) (n:Nat),(∀ i,i < l.length→rAt l i (X (n+i)) w)→RAll X w n l
 | [],_,_=>trivial
 | r::l,n,h=>⟨h 0 (by simp),RAll.mk l (n+1) (fun i hi=>by have:=h (i+1) (by simp; omega); rw [show n+1+i=n+(i+1) by omega]; exact this)⟩
def Stable (r:Value→World→Prop):Prop:=∀ v w w',r v w→Below w.heap.size w w'→r v w'
def putsFrom (X:Nat→Value):Act→Nat→List Tmp→Act
 | a,_,[]=>a
 | a,k,d::l=>putsFrom X (a.put (some d) (X k)) (k+1) l
theorem act_ext {a b:Act} (h1:a.tmps.size=b.tmps.size) (h2:a.defers=b.defers) (h:∀ t,slot a t=slot b t):a=b:=by
 obtain ⟨ta,da⟩:=a;obtain ⟨tb,db⟩:=b;simp only at h1 h2;subst h2;congr 1
 refine Array.ext h1 (fun i hi hj=>?_);have:=h i;simpa [slot,hi,hj] using this
theorem puts_eq {X:Nat→Value} {a:Act}:∀ (l:List Tmp) (b:Act) (k:Nat),b.tmps.size=a.tmps.size→b.defers=a.defers→(∀ i,i < l.length→X (k+i)=slot a (l.getD i 0))→(∀ t,t ∉ l→slot b t=slot a t)→(∀ d∈l,d < a.tmps.size)→putsFrom X b k l=a
 | [],b,k,h1,h2,_,h4,_=>act_ext h1 h2 (fun t=>h4 t (by simp))
 | d::l,b,k,h1,h2,h3,h4,h5=>by
  refine puts_eq l _ (k+1) (by simp [Act.put,h1]) (by simp [Act.put,h2]) (fun i hi=>?_) (fun t ht=>?_) (fun e he=>h5 e (by simp [he]))
  ·have:=h3 (i+1) (by simp; omega);rw [show k+1+i=k+(i+1) by omega,this];simp
  ·by_cases e:d=t
   ·subst e;rw [slot_put_eq (by rw [h1]; exact h5 d (by simp))];have:=h3 0 (by simp);simpa using this
   ·rw [slot_put_ne e];exact h4 t (by simp; exact ⟨fun h=>e h.symm,ht⟩)
theorem wp_region_growL {id:Nat} {Rs:List (Value→World→Prop)} (ds:List Tmp) (hm:P.follows .mixedOrders=true) (hF:gform ops ds a0.tmps.size=true) (hl:Rs.length=ops.size) (hst:∀ r∈Rs,Stable r)
  (hstep:GSteps P Q ds (rAt Rs) a0 w0.drew 0 ops.toList)
  (hdone:∀ (X:Nat→Value) w,RAll X w 0 Rs→Below w0.drew.heap.size w0.drew w→Q .normal (putsFrom X a0 0 ds) w) :
  (Code.region id ops true).wp P Q a0 w0:=by
 have hG:=GForm.of hF;refine wp_region_grow (ds:=ds) (R:=rAt Rs) hm hG (fun i v w w' h hb=>?_) (fun i o ho=>?_) (fun a w h1 h2 h3 h4 h5=>?_)
 ·unfold rAt at *;by_cases hi:i < Rs.length
  ·have e:Rs.getD i (fun _ _=>True)=Rs[i]:=by simp [hi]
   rw [e] at h ⊢;exact hst _ (List.getElem_mem hi) v w w' h hb
  ·have e:Rs.getD i (fun _ _=>True)=fun _ _=>True:=by simp [Nat.le_of_not_lt hi]
   rw [e]; trivial
 ·have:=GSteps.at' ops.toList 0 hstep i o (by simpa using ho);rwa [Nat.zero_add] at this
 ·have hp:putsFrom (fun i=>slot a (ds.getD i 0)) a0 0 ds=a:=puts_eq ds a0 0 h1.symm h2.symm (fun i _=>by rw [Nat.zero_add]) (fun t ht=>(h3 t ht).symm) (fun d hd=>by rw [h1]; exact hG.fits d hd);rw [← hp];exact hdone (fun i=>slot a (ds.getD i 0)) w (RAll.mk Rs 0 (fun i hi=>by rw [Nat.zero_add]; exact h4 i (by omega))) h5
def IsV (x:Value):Value→World→Prop:=fun v _=>v=x
theorem stable_isV (x:Value):Stable (IsV x):=fun _ _ _ h _=>h
def IsRow (x y:Int):Value→World→Prop:=fun v w=>∃ b,v=.slice (some ⟨b,0,none⟩) 2 2∧w.cell? ⟨b,0,none⟩=some (.int .u8 x)∧w.cell? ⟨b,1,none⟩=some (.int .u8 y)
theorem stable_isRow (x y:Int):Stable (IsRow x y):=fun v w w' ⟨b,h1,h2,h3⟩ hb=>by
 have hlt:=World.block_lt_of_cell? w _ h2;exact ⟨b,h1,((bcell hb).1 b 0 hlt).trans h2,((bcell hb).1 b 1 hlt).trans h3⟩
end
open Go.PlainAid Go.WideShapes
theorem strL1_length (s:ByteArray):(strL1 s).length=1:=rfl
section
variable {H:Type} {enc:TypeId × Value→H} {w:World} {base:Nat} {spare:Nat→Bool} {held:Bool}
end
structure BoxLives (w:World) (B:Nat) (p:Lv):Prop where
 c0:w.cell? ⟨B,0,none⟩=some (iV p.udp)
 c1:w.cell? ⟨B,1,none⟩=some (iV p.echo)
 c2:w.cell? ⟨B,2,none⟩=some (iV p.opening)
 c3:w.cell? ⟨B,3,none⟩=some (iV p.opn)
 c4:w.cell? ⟨B,4,none⟩=some (iV p.closing)
theorem BoxLives.kept {w W:World} {B:Nat} {p:Lv} (h:BoxLives w B p) (hB:Below w.heap.size w W):BoxLives W B p:=by
 have hb:=World.block_lt_of_cell? w _ h.c0;exact ⟨((bcell hB).1 B 0 hb).trans h.c0,((bcell hB).1 B 1 hb).trans h.c1,((bcell hB).1 B 2 hb).trans h.c2,((bcell hB).1 B 3 hb).trans h.c3,((bcell hB).1 B 4 hb).trans h.c4⟩
theorem BoxLives.new (w:World) (p:Lv) {t:TypeId}:BoxLives (w.alloc (.cells #[iV p.udp,iV p.echo,iV p.opening,iV p.opn,iV p.closing] t)) w.heap.size p:=⟨cell_new rfl,cell_new rfl,cell_new rfl,cell_new rfl,cell_new rfl⟩
end Go.Proofs.YtdkepkaflielhaaGreatDoor
/- SV4: what the specification's l01Is, l01Byte and V4Right answer. -/
namespace Go.Proofs.YtdkepkaflielhaaGreatDoor
open Go.RowKit Go.PlainAid
set_option linter.unusedVariables false
set_option linter.unusedSimpArgs false

theorem specIs_any (n lo hi : Int) (w : World) :
  Cw 40 #[iV n, iV lo, iV hi] w (.bool (isIn n lo hi)) := by
 by_cases h1 : lo ≤ n
 ·by_cases h2 : n ≤ hi
  ·have HV : Hid (isIn n lo hi = true) := by unfold Hid isIn; simp [h1, h2]
   go_enter Tryz.func40, Tryz.ntmps40
   go_wp2_with fail
   go_ret
   exact ⟨ret_bool (by rw [HV.out]), rfl⟩
  ·have HV : Hid (isIn n lo hi = false) := by unfold Hid isIn; simp [h2]
   go_enter Tryz.func40, Tryz.ntmps40
   go_wp2_with fail
   go_ret
   exact ⟨ret_bool (by rw [HV.out]), rfl⟩
 ·have HV : Hid (isIn n lo hi = false) := by unfold Hid isIn; simp [h1]
  have h1' : n < lo := by omega
  go_enter Tryz.func40, Tryz.ntmps40
  go_wp2_with fail
  go_ret
  exact ⟨ret_bool (by rw [HV.out]), rfl⟩

theorem specByte_any (n : Int) (w : World) :
  Cw 38 #[iV n] w (.bool (isIn n 0 255)) := by
 have HC : Hid (∀ W, Cw 40 #[iV n, iV 0, iV 255] W (.bool (isIn n 0 255))) := fun W => specIs_any n 0 255 W
 generalize isIn n 0 255 = b at *
 go_enter Tryz.func38, Tryz.ntmps38
 go_wp2_with fail
 refine (HC.out _).mono ?_
 rintro e w2 ⟨rfl, rfl⟩
 go_wp2_with fail
 go_ret
 exact ⟨rfl, rfl⟩

set_option maxRecDepth 100000 in
set_option maxHeartbeats 2000000 in
theorem specV4Right_any (p : P4) (w : World) (h1 : p.src.size ≤ 1048576) (h2 : p.dst.size ≤ 1048576) (h3 : p.opts.size ≤ 1048576) (h4 : p.data.size ≤ 1048576) :
  Cb 14 #[p4C p] w (.bool (v4Ok p)) := by
 have HB1 : Hid (∀ W, Cw 38 #[iV p.tos] W (.bool (isIn p.tos 0 255))) := fun W => specByte_any p.tos W
 have HB2 : Hid (∀ W, Cw 38 #[iV p.ttl] W (.bool (isIn p.ttl 0 255))) := fun W => specByte_any p.ttl W
 have HB3 : Hid (∀ W, Cw 38 #[iV p.proto] W (.bool (isIn p.proto 0 255))) := fun W => specByte_any p.proto W
 have HB4 : Hid (∀ W, Cw 39 #[iV p.id] W (.bool (isIn p.id 0 65535))) := fun W => specWordIs_any p.id W
 have HB5 : Hid (∀ W, Cw 40 #[iV p.off, iV 0, iV 8191] W (.bool (isIn p.off 0 8191))) := fun W => specIs_any p.off 0 8191 W
 have HO : Hid (isIn p.off 0 8191 = true → 0 ≤ p.off ∧ p.off ≤ 8191) := fun h => isIn_parts h
 have HA : Hid (v4A p = (isIn p.tos 0 255 && isIn p.ttl 0 255 && isIn p.proto 0 255 && isIn p.id 0 65535 && isIn p.off 0 8191 && decide (p.src.size = 4) && decide (p.dst.size = 4))) := rfl
 have HF : Hid (v4A p = false → v4Ok p = false) := fun h => by unfold v4Ok; rw [h]; rfl
 have HF2 : Hid (v4A p = true → v4B p = false → v4Ok p = false) := fun h h' => by unfold v4Ok; rw [h, h']; rfl
 have HF3 : Hid (v4A p = true → v4B p = true → v4Ok p = v4C p) := fun h h' => by unfold v4Ok; rw [h, h']; rfl
 have HBB : Hid (v4B p = (decide (p.opts.size ≤ 40) && decide (p.opts.size % 4 = 0) && decide (p.data.size ≤ 1400) && !(p.more && !decide (p.data.size % 8 = 0)) && decide (8 * p.off + p.data.size ≤ 65515))) := rfl
 have HCC : Hid (v4C p = (!p.whole || (!p.more && decide (p.off = 0)))) := rfl
 generalize v4A p = vA at *
 generalize v4B p = vB at *
 generalize v4C p = vC at *
 generalize v4Ok p = ok at *
 obtain ⟨tos, id, whole, more, off, ttl, proto, src, dst, opts, data⟩ := p
 unfold p4C
 dsimp only at *
 have HZ : Hid (Below w.heap.size w (w.alloc (.cells #[iV tos, iV id, .bool whole, .bool more, iV off, iV ttl, iV proto, .string src, .string dst, .string opts, .string data] 33))) := bR.alloc lR _
 cases b1 : isIn tos 0 255 with
 | false =>
  have HV : Hid (ok = false) := HF.out (by rw [HA.out, b1]; simp)
  rw [b1] at HB1
  clear b1 HA HF HF2 HF3 HBB HCC HO
  go_enter Tryz.func14, Tryz.ntmps14
  go_wp2_with fail
  refine (HB1.out _).mono ?_
  rintro e w2 ⟨rfl, rfl⟩
  go_wp2_with fail
  go_ret
  exact ⟨ret_bool HV.out.symm, HZ.out⟩
 | true =>
  rw [b1] at HB1
  cases b2 : isIn ttl 0 255 with
  | false =>
   have HV : Hid (ok = false) := HF.out (by rw [HA.out, b2]; simp)
   rw [b2] at HB2
   clear b2 HA HF HF2 HF3 HBB HCC HO
   go_enter Tryz.func14, Tryz.ntmps14
   go_wp2_with fail
   refine (HB1.out _).mono ?_
   rintro e w2 ⟨rfl, rfl⟩
   go_wp2_with fail
   refine (HB2.out _).mono ?_
   rintro e w2 ⟨rfl, rfl⟩
   go_wp2_with fail
   go_ret
   exact ⟨ret_bool HV.out.symm, HZ.out⟩
  | true =>
   rw [b2] at HB2
   cases b3 : isIn proto 0 255 with
   | false =>
    have HV : Hid (ok = false) := HF.out (by rw [HA.out, b3]; simp)
    rw [b3] at HB3
    clear b3 HA HF HF2 HF3 HBB HCC HO
    go_enter Tryz.func14, Tryz.ntmps14
    go_wp2_with fail
    refine (HB1.out _).mono ?_
    rintro e w2 ⟨rfl, rfl⟩
    go_wp2_with fail
    refine (HB2.out _).mono ?_
    rintro e w2 ⟨rfl, rfl⟩
    go_wp2_with fail
    refine (HB3.out _).mono ?_
    rintro e w2 ⟨rfl, rfl⟩
    go_wp2_with fail
    go_ret
    exact ⟨ret_bool HV.out.symm, HZ.out⟩
   | true =>
    rw [b3] at HB3
    cases b4 : isIn id 0 65535 with
    | false =>
     have HV : Hid (ok = false) := HF.out (by rw [HA.out, b4]; simp)
     rw [b4] at HB4
     clear b4 HA HF HF2 HF3 HBB HCC HO
     go_enter Tryz.func14, Tryz.ntmps14
     go_wp2_with fail
     refine (HB1.out _).mono ?_
     rintro e w2 ⟨rfl, rfl⟩
     go_wp2_with fail
     refine (HB2.out _).mono ?_
     rintro e w2 ⟨rfl, rfl⟩
     go_wp2_with fail
     refine (HB3.out _).mono ?_
     rintro e w2 ⟨rfl, rfl⟩
     go_wp2_with fail
     refine (HB4.out _).mono ?_
     rintro e w2 ⟨rfl, rfl⟩
     go_wp2_with fail
     go_ret
     exact ⟨ret_bool HV.out.symm, HZ.out⟩
    | true =>
     rw [b4] at HB4
     cases b5 : isIn off 0 8191 with
     | false =>
      have HV : Hid (ok = false) := HF.out (by rw [HA.out, b5]; simp)
      rw [b5] at HB5
      clear b5 HA HF HF2 HF3 HBB HCC HO
      go_enter Tryz.func14, Tryz.ntmps14
      go_wp2_with fail
      refine (HB1.out _).mono ?_
      rintro e w2 ⟨rfl, rfl⟩
      go_wp2_with fail
      refine (HB2.out _).mono ?_
      rintro e w2 ⟨rfl, rfl⟩
      go_wp2_with fail
      refine (HB3.out _).mono ?_
      rintro e w2 ⟨rfl, rfl⟩
      go_wp2_with fail
      refine (HB4.out _).mono ?_
      rintro e w2 ⟨rfl, rfl⟩
      go_wp2_with fail
      refine (HB5.out _).mono ?_
      rintro e w2 ⟨rfl, rfl⟩
      go_wp2_with fail
      go_ret
      exact ⟨ret_bool HV.out.symm, HZ.out⟩
     | true =>
      rw [b5] at HB5
      obtain ⟨o0, o1⟩ := HO.out b5
      by_cases s1 : src.size = 4
      ·have ds1 : ((src.size : Int) != 4) = false := by simp; omega
       by_cases s2 : dst.size = 4
       ·have ds2 : ((dst.size : Int) != 4) = false := by simp; omega
        have hA : vA = true := by rw [HA.out, b1, b2, b3, b4, b5, decide_eq_true s1, decide_eq_true s2]; rfl
        have HG2 : Hid (vB = false → ok = false) := HF2.out hA
        have HG3 : Hid (vB = true → ok = vC) := HF3.out hA
        clear hA HA HF HF2 HF3 HO b1 b2 b3 b4 b5 s1 s2
        by_cases e0 : opts.size ≤ 40
        ·have dT0 : decide ((40 : Int) < (opts.size : Int)) = false := by simp; omega
         by_cases e1 : opts.size % 4 = 0
         ·have dT1 : (((opts.size : Int) % 4) != 0) = false := by simp; omega
          by_cases e2 : data.size ≤ 1400
          ·have dT2 : decide ((1400 : Int) < (data.size : Int)) = false := by simp; omega
           have em : (more && !decide (data.size % 8 = 0)) = false ∨ (more = true ∧ data.size % 8 ≠ 0) := by cases more <;> simp <;> omega
           rcases em with em | ⟨rfl, em⟩
           ·have dm : more = true → (((data.size : Int) % 8) != 0) = false := fun h => by rw [h] at em; simp at em; simp; omega
            by_cases e9 : 8 * off + data.size ≤ 65515
            ·have d9 : decide ((65515 : Int) < 8 * off + (data.size : Int)) = false := by simp; omega
             have HV : Hid (ok = (!whole || (!more && decide (off = 0)))) := by unfold Hid; rw [← HCC.out]; exact HG3.out (by rw [HBB.out, em, decide_eq_true e0, decide_eq_true e1, decide_eq_true e2, decide_eq_true e9]; rfl)
             clear HG2 HG3 HBB HCC em
             cases more with
             | false =>
              clear dm
              cases whole with
              | false =>
               go_enter Tryz.func14, Tryz.ntmps14
               go_wp2_with fail
               refine (HB1.out _).mono ?_
               rintro e w2 ⟨rfl, rfl⟩
               go_wp2_with fail
               refine (HB2.out _).mono ?_
               rintro e w2 ⟨rfl, rfl⟩
               go_wp2_with fail
               refine (HB3.out _).mono ?_
               rintro e w2 ⟨rfl, rfl⟩
               go_wp2_with fail
               refine (HB4.out _).mono ?_
               rintro e w2 ⟨rfl, rfl⟩
               go_wp2_with fail
               refine (HB5.out _).mono ?_
               rintro e w2 ⟨rfl, rfl⟩
               go_wp2_with fail
               go_ret
               exact ⟨ret_bool (by rw [HV.out]; rfl), HZ.out⟩
              | true =>
               go_enter Tryz.func14, Tryz.ntmps14
               go_wp2_with fail
               refine (HB1.out _).mono ?_
               rintro e w2 ⟨rfl, rfl⟩
               go_wp2_with fail
               refine (HB2.out _).mono ?_
               rintro e w2 ⟨rfl, rfl⟩
               go_wp2_with fail
               refine (HB3.out _).mono ?_
               rintro e w2 ⟨rfl, rfl⟩
               go_wp2_with fail
               refine (HB4.out _).mono ?_
               rintro e w2 ⟨rfl, rfl⟩
               go_wp2_with fail
               refine (HB5.out _).mono ?_
               rintro e w2 ⟨rfl, rfl⟩
               go_wp2_with fail
               go_ret
               exact ⟨ret_bool (by rw [HV.out]; rfl), HZ.out⟩
             | true =>
              have dm := dm rfl
              cases whole with
              | false =>
               go_enter Tryz.func14, Tryz.ntmps14
               go_wp2_with fail
               refine (HB1.out _).mono ?_
               rintro e w2 ⟨rfl, rfl⟩
               go_wp2_with fail
               refine (HB2.out _).mono ?_
               rintro e w2 ⟨rfl, rfl⟩
               go_wp2_with fail
               refine (HB3.out _).mono ?_
               rintro e w2 ⟨rfl, rfl⟩
               go_wp2_with fail
               refine (HB4.out _).mono ?_
               rintro e w2 ⟨rfl, rfl⟩
               go_wp2_with fail
               refine (HB5.out _).mono ?_
               rintro e w2 ⟨rfl, rfl⟩
               go_wp2_with fail
               go_ret
               exact ⟨ret_bool (by rw [HV.out]; rfl), HZ.out⟩
              | true =>
               go_enter Tryz.func14, Tryz.ntmps14
               go_wp2_with fail
               refine (HB1.out _).mono ?_
               rintro e w2 ⟨rfl, rfl⟩
               go_wp2_with fail
               refine (HB2.out _).mono ?_
               rintro e w2 ⟨rfl, rfl⟩
               go_wp2_with fail
               refine (HB3.out _).mono ?_
               rintro e w2 ⟨rfl, rfl⟩
               go_wp2_with fail
               refine (HB4.out _).mono ?_
               rintro e w2 ⟨rfl, rfl⟩
               go_wp2_with fail
               refine (HB5.out _).mono ?_
               rintro e w2 ⟨rfl, rfl⟩
               go_wp2_with fail
               go_ret
               exact ⟨ret_bool (by rw [HV.out]; rfl), HZ.out⟩
            ·have HV : Hid (ok = false) := HG2.out (by rw [HBB.out, decide_eq_false e9]; simp)
             have d9 : decide ((65515 : Int) < 8 * off + (data.size : Int)) = true := by simp; omega
             clear HG2 HG3 HBB HCC
             cases more with
             | false =>
              clear dm
              go_enter Tryz.func14, Tryz.ntmps14
              go_wp2_with fail
              refine (HB1.out _).mono ?_
              rintro e w2 ⟨rfl, rfl⟩
              go_wp2_with fail
              refine (HB2.out _).mono ?_
              rintro e w2 ⟨rfl, rfl⟩
              go_wp2_with fail
              refine (HB3.out _).mono ?_
              rintro e w2 ⟨rfl, rfl⟩
              go_wp2_with fail
              refine (HB4.out _).mono ?_
              rintro e w2 ⟨rfl, rfl⟩
              go_wp2_with fail
              refine (HB5.out _).mono ?_
              rintro e w2 ⟨rfl, rfl⟩
              go_wp2_with fail
              go_ret
              exact ⟨ret_bool HV.out.symm, HZ.out⟩
             | true =>
              have dm := dm rfl
              go_enter Tryz.func14, Tryz.ntmps14
              go_wp2_with fail
              refine (HB1.out _).mono ?_
              rintro e w2 ⟨rfl, rfl⟩
              go_wp2_with fail
              refine (HB2.out _).mono ?_
              rintro e w2 ⟨rfl, rfl⟩
              go_wp2_with fail
              refine (HB3.out _).mono ?_
              rintro e w2 ⟨rfl, rfl⟩
              go_wp2_with fail
              refine (HB4.out _).mono ?_
              rintro e w2 ⟨rfl, rfl⟩
              go_wp2_with fail
              refine (HB5.out _).mono ?_
              rintro e w2 ⟨rfl, rfl⟩
              go_wp2_with fail
              go_ret
              exact ⟨ret_bool HV.out.symm, HZ.out⟩
           ·have HV : Hid (ok = false) := HG2.out (by rw [HBB.out, decide_eq_false em]; simp)
            have dm : (((data.size : Int) % 8) != 0) = true := by simp; omega
            clear HG2 HG3 HBB HCC
            go_enter Tryz.func14, Tryz.ntmps14
            go_wp2_with fail
            refine (HB1.out _).mono ?_
            rintro e w2 ⟨rfl, rfl⟩
            go_wp2_with fail
            refine (HB2.out _).mono ?_
            rintro e w2 ⟨rfl, rfl⟩
            go_wp2_with fail
            refine (HB3.out _).mono ?_
            rintro e w2 ⟨rfl, rfl⟩
            go_wp2_with fail
            refine (HB4.out _).mono ?_
            rintro e w2 ⟨rfl, rfl⟩
            go_wp2_with fail
            refine (HB5.out _).mono ?_
            rintro e w2 ⟨rfl, rfl⟩
            go_wp2_with fail
            go_ret
            exact ⟨ret_bool HV.out.symm, HZ.out⟩
          ·have HV : Hid (ok = false) := HG2.out (by rw [HBB.out, decide_eq_false e2]; simp)
           have dF2 : decide ((1400 : Int) < (data.size : Int)) = true := by simp; omega
           clear HG2 HG3 HBB HCC
           go_enter Tryz.func14, Tryz.ntmps14
           go_wp2_with fail
           refine (HB1.out _).mono ?_
           rintro e w2 ⟨rfl, rfl⟩
           go_wp2_with fail
           refine (HB2.out _).mono ?_
           rintro e w2 ⟨rfl, rfl⟩
           go_wp2_with fail
           refine (HB3.out _).mono ?_
           rintro e w2 ⟨rfl, rfl⟩
           go_wp2_with fail
           refine (HB4.out _).mono ?_
           rintro e w2 ⟨rfl, rfl⟩
           go_wp2_with fail
           refine (HB5.out _).mono ?_
           rintro e w2 ⟨rfl, rfl⟩
           go_wp2_with fail
           go_ret
           exact ⟨ret_bool HV.out.symm, HZ.out⟩
         ·have HV : Hid (ok = false) := HG2.out (by rw [HBB.out, decide_eq_false e1]; simp)
          have dF1 : (((opts.size : Int) % 4) != 0) = true := by simp; omega
          clear HG2 HG3 HBB HCC
          go_enter Tryz.func14, Tryz.ntmps14
          go_wp2_with fail
          refine (HB1.out _).mono ?_
          rintro e w2 ⟨rfl, rfl⟩
          go_wp2_with fail
          refine (HB2.out _).mono ?_
          rintro e w2 ⟨rfl, rfl⟩
          go_wp2_with fail
          refine (HB3.out _).mono ?_
          rintro e w2 ⟨rfl, rfl⟩
          go_wp2_with fail
          refine (HB4.out _).mono ?_
          rintro e w2 ⟨rfl, rfl⟩
          go_wp2_with fail
          refine (HB5.out _).mono ?_
          rintro e w2 ⟨rfl, rfl⟩
          go_wp2_with fail
          go_ret
          exact ⟨ret_bool HV.out.symm, HZ.out⟩
        ·have HV : Hid (ok = false) := HG2.out (by rw [HBB.out, decide_eq_false e0]; simp)
         have dF0 : decide ((40 : Int) < (opts.size : Int)) = true := by simp; omega
         clear HG2 HG3 HBB HCC
         go_enter Tryz.func14, Tryz.ntmps14
         go_wp2_with fail
         refine (HB1.out _).mono ?_
         rintro e w2 ⟨rfl, rfl⟩
         go_wp2_with fail
         refine (HB2.out _).mono ?_
         rintro e w2 ⟨rfl, rfl⟩
         go_wp2_with fail
         refine (HB3.out _).mono ?_
         rintro e w2 ⟨rfl, rfl⟩
         go_wp2_with fail
         refine (HB4.out _).mono ?_
         rintro e w2 ⟨rfl, rfl⟩
         go_wp2_with fail
         refine (HB5.out _).mono ?_
         rintro e w2 ⟨rfl, rfl⟩
         go_wp2_with fail
         go_ret
         exact ⟨ret_bool HV.out.symm, HZ.out⟩
       ·have HV : Hid (ok = false) := HF.out (by rw [HA.out, decide_eq_false s2]; simp)
        have hd : ((dst.size : Int) != 4) = true := by simp; omega
        clear s2 HA HF HF2 HF3 HBB HCC HO
        go_enter Tryz.func14, Tryz.ntmps14
        go_wp2_with fail
        refine (HB1.out _).mono ?_
        rintro e w2 ⟨rfl, rfl⟩
        go_wp2_with fail
        refine (HB2.out _).mono ?_
        rintro e w2 ⟨rfl, rfl⟩
        go_wp2_with fail
        refine (HB3.out _).mono ?_
        rintro e w2 ⟨rfl, rfl⟩
        go_wp2_with fail
        refine (HB4.out _).mono ?_
        rintro e w2 ⟨rfl, rfl⟩
        go_wp2_with fail
        refine (HB5.out _).mono ?_
        rintro e w2 ⟨rfl, rfl⟩
        go_wp2_with fail
        go_ret
        exact ⟨ret_bool HV.out.symm, HZ.out⟩
      ·have HV : Hid (ok = false) := HF.out (by rw [HA.out, decide_eq_false s1]; simp)
       have hd : ((src.size : Int) != 4) = true := by simp; omega
       clear s1 HA HF HF2 HF3 HBB HCC HO
       go_enter Tryz.func14, Tryz.ntmps14
       go_wp2_with fail
       refine (HB1.out _).mono ?_
       rintro e w2 ⟨rfl, rfl⟩
       go_wp2_with fail
       refine (HB2.out _).mono ?_
       rintro e w2 ⟨rfl, rfl⟩
       go_wp2_with fail
       refine (HB3.out _).mono ?_
       rintro e w2 ⟨rfl, rfl⟩
       go_wp2_with fail
       refine (HB4.out _).mono ?_
       rintro e w2 ⟨rfl, rfl⟩
       go_wp2_with fail
       refine (HB5.out _).mono ?_
       rintro e w2 ⟨rfl, rfl⟩
       go_wp2_with fail
       go_ret
       exact ⟨ret_bool HV.out.symm, HZ.out⟩

end Go.Proofs.YtdkepkaflielhaaGreatDoor
