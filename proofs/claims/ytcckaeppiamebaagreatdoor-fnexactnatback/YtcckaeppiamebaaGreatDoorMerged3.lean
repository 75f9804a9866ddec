import Derived.Test.YtcckaeppiamebaaGreatDoorAb
import Derived.Test.YtcckaeppiamebaaGreatDoorMerged1
import Derived.Orders
import Derived.RegionTactic
import Derived.Test.YtcckaeppiamebaaGreatDoorMerged2
import Derived.Deep.RegionWith
import Derived.Deep.DeepCutAuto
set_option linter.unusedVariables false
set_option linter.unusedSimpArgs false
set_option maxRecDepth 100000
set_option maxHeartbeats 8000000
namespace Go.Proofs.YtcckaeppiamebaaGreatDoor
open Go.RowKit Go.ChangeShapes
def slot (a:Act) (t:Tmp):Value:=a.tmps.getD t undef
theorem slot_put_ne {a:Act} {d t:Tmp} {v:Value} (h:d≠t):slot (a.put (some d) v) t=slot a t:=by
 simp [slot,Act.put,Array.getElem?_setIfInBounds_ne h]
theorem slot_put_eq {a:Act} {d:Tmp} {v:Value} (h:d < a.tmps.size):slot (a.put (some d) v) d=v:=by
 simp [slot,Act.put,h]
def unl (listed:Array Bool):Nat→Nat
 | 0=>0
 | n+1=>unl listed n+(if listed.getD n true=true then 0 else 1)
theorem unl_le (listed:Array Bool):∀ n,unl listed n≤n
 | 0=>Nat.le_refl _
 | n+1=>by have:=unl_le listed n; unfold unl; split<;>omega
theorem unl_ge {listed:Array Bool} {i:Nat}:∀ n,n≤i→unl (listed.setIfInBounds i true) n=unl listed n
 | 0,_=>rfl
 | n+1,h=>by unfold unl; rw [unl_ge n (by omega),getD_set_ne true (by omega)]
theorem unl_set {listed:Array Bool} {i:Nat} (hf:listed.getD i true=false):∀ n,i < n→unl (listed.setIfInBounds i true) n+1=unl listed n
 | 0,h=>by omega
 | n+1,h=>by
  unfold unl;by_cases e:i=n
  ·subst e;have hlt:i < listed.size:=by
    rcases Nat.lt_or_ge i listed.size with h' | h'
    ·exact h'
    ·simp [Array.getElem?_eq_none h'] at hf
   have hs:(listed.setIfInBounds i true).getD i true=true:=by simp [hlt]
   rw [unl_ge i (Nat.le_refl _),hs,hf,if_pos rfl,if_neg (by simp)]
  ·rw [getD_set_ne true e,← unl_set hf n (by omega)]; omega
theorem unl_zero {listed:Array Bool}:∀ n,unl listed n=0→∀ i,i < n→listed.getD i true=true
 | 0,_,i,h=>by omega
 | n+1,h0,i,h=>by
  unfold unl at h0;by_cases e:i=n
  ·subst e;by_cases hh:listed.getD i true=true
   ·exact hh
   ·rw [if_neg hh] at h0; omega
  ·exact unl_zero n (by omega) i (by omega)
section
variable {P:Program} {ops:Array Oper} {Q:Exit→Act→World→Prop} {ds:List Tmp} {R:Nat→Value→World→Prop} {a0:Act} {w0:World}
structure GInv (ops:Array Oper) (ds:List Tmp) (R:Nat→Value→World→Prop) (a0:Act) (w0:World) (listed:Array Bool) (a:Act) (w:World):Prop where
 size:listed.size=ops.size
 tsize:a.tmps.size=a0.tmps.size
 defers:a.defers=a0.defers
 outer:∀ t,t ∉ ds→slot a t=slot a0 t
 inner:∀ i,listed.getD i false=true→R i (slot a (ds.getD i 0)) w
 below:Below w0.heap.size w0 w
def GStep (P:Program) (Q:Exit→Act→World→Prop) (ds:List Tmp) (R:Nat→Value→World→Prop) (a0:Act) (w0:World) (i:Nat) (o:Oper):Prop :=
 ∀ (K':Act→World→Prop) (a:Act) (w:World),(∀ t,t ∉ ds→slot a t=slot a0 t)→(∀ e∈o.after,Region.binds .any e=true→R e.on (slot a (ds.getD e.on 0)) w) →
  Below w0.heap.size w0 w→(∀ v w',R i v w'→Below w.heap.size w w'→K' (a.put o.dst v) w')→Oper.wp P o a w K' Q
structure GForm (ops:Array Oper) (ds:List Tmp) (n:Nat):Prop where
 len:ds.length=ops.size
 dst:∀ i o,ops[i]?=some o→o.dst=some (ds.getD i 0)∧o.guard=none
 nodup:ds.Nodup
 fits:∀ d∈ds,d < n
 topo:∀ i o,ops[i]?=some o→∀ e∈o.after,Region.binds .any e=true→e.on < i
def gform (ops:Array Oper) (ds:List Tmp) (n:Nat):Bool :=
 decide (ds.length=ops.size)&&(List.range ops.size).all (fun i=>match ops[i]? with
  | some o=>(match o.dst with | some d=>d==ds.getD i 0 | none=>false)&&o.guard.isNone&&o.after.all (fun e=>!Region.binds .any e||decide (e.on < i))
  | none=>true)&&decide ds.Nodup&&ds.all (fun d=>decide (d < n))
theorem GForm.of {n:Nat} (h:gform ops ds n=true):GForm ops ds n:=by
 unfold gform at h;simp only [Bool.and_eq_true,decide_eq_true_iff,List.all_eq_true,List.mem_range] at h;obtain ⟨⟨⟨h1,h2⟩,h3⟩,h4⟩:=h;refine ⟨h1,fun i o ho=>?_,h3,h4,fun i o ho e he hb=>?_⟩
 ·have:=h2 i (Array.getElem?_eq_some_iff.1 ho).1;rw [ho] at this;simp only [Bool.and_eq_true] at this;obtain ⟨⟨t1,t2⟩,_⟩:=this;refine ⟨?_,by simpa using t2⟩
  cases hd:o.dst with
  | none=>rw [hd] at t1; simp at t1
  | some d=>rw [hd] at t1; simp at t1; rw [t1]; simp
 ·have:=h2 i (Array.getElem?_eq_some_iff.1 ho).1;rw [ho] at this;simp only [Bool.and_eq_true] at this;obtain ⟨_,t3⟩:=this;have:=Array.all_eq_true_iff_forall_mem.1 t3 e he;simp [hb] at this;exact this
theorem getD_at {ds:List Tmp} {i:Nat} (h:i < ds.length):ds.getD i 0=ds[i]:=by simp [h]
theorem nodup_ne {ds:List Tmp} (h:ds.Nodup) {i j:Nat} (hi:i < ds.length) (hj:j < ds.length) (hne:i≠j):ds.getD i 0≠ds.getD j 0:=by
 intro e;rw [getD_at hi,getD_at hj] at e;have hp:=List.pairwise_iff_getElem.1 h;rcases Nat.lt_or_gt_of_ne hne with hlt | hlt
 ·exact hp i j hi hj hlt e
 ·exact hp j i hj hi hlt e.symm
theorem wpAny_grow (hF:GForm ops ds a0.tmps.size) (hst:∀ i v w w',R i v w→Below w.heap.size w w'→R i v w')
  (hstep:∀ i o,ops[i]?=some o→GStep P Q ds R a0 w0 i o)
  (hdone:∀ a w,a.tmps.size=a0.tmps.size→a.defers=a0.defers→(∀ t,t ∉ ds→slot a t=slot a0 t)→(∀ i,i < ops.size→R i (slot a (ds.getD i 0)) w)→Below w0.heap.size w0 w→Q .normal a w) :
  ∀ (fuel:Nat) (listed:Array Bool) (a:Act) (w:World),unl listed ops.size≤fuel→GInv ops ds R a0 w0 listed a w→wpAny P .any ops Q fuel listed a w:=by
 have hall:∀ (listed:Array Bool) (a:Act) (w:World),GInv ops ds R a0 w0 listed a w→Region.ready .any ops listed=[]→Q .normal a w:=by
  intro listed a w hI hr;refine hdone a w hI.tsize hI.defers hI.outer (fun i hi=>hI.inner i ?_) hI.below;have key:∀ i,i < ops.size→listed.getD i false=true:=by
   intro i;induction i using Nat.strongRecOn with
   | ind i ih =>
    intro hi;have hsz:=hI.size;by_cases hh:listed.getD i true=true
    ·have hlt:i < listed.size:=by omega
     simpa [hlt] using hh
    ·exfalso
     have hmem:i∈Region.ready .any ops listed:=by
      rw [mem_ready];refine ⟨by simpa using hh,ops[i],by simp [hi],fun e he hb=>?_⟩;have hlt:=hF.topo i ops[i] (by simp [hi]) e he hb;exact ih _ hlt (by omega)
     rw [hr] at hmem;simp at hmem
  exact key i hi
 intro fuel;induction fuel with
 | zero =>
  intro listed a w hu hI;have hr:Region.ready .any ops listed=[]:=by
   rw [List.eq_nil_iff_forall_not_mem];intro i hi;rw [mem_ready] at hi;obtain ⟨h0,o,ho,_⟩:=hi;have:=unl_zero (listed:=listed) ops.size (by omega) i (Array.getElem?_eq_some_iff.1 ho).1;rw [h0] at this;simp at this
  exact ⟨hr,hall listed a w hI hr⟩
 | succ fuel ih =>
  intro listed a w hu hI;refine ⟨fun hr=>hall listed a w hI hr,fun i hi=>?_⟩;rw [mem_ready] at hi;obtain ⟨h0,o,ho,hdeps⟩:=hi;have hi:i < ops.size:=(Array.getElem?_eq_some_iff.1 ho).1;obtain ⟨hd,hg⟩:=hF.dst i o ho;have hil:i < ds.length:=by rw [hF.len]; exact hi
  have hmem:ds.getD i 0∈ds:=by rw [getD_at hil]; exact List.getElem_mem hil
  refine wpOp_step ho (fun K' hK=>?_);rw [if_pos (by unfold Region.wanted; rw [hg])];refine hstep i o ho K' a w hI.outer (fun e he hb=>hI.inner _ (hdeps e he hb)) hI.below (fun v w' hR hB=>hK _ _ ?_);refine ih _ _ _ (by have:=unl_set h0 ops.size hi; omega) ⟨by simp [hI.size],?_,?_,fun t ht=>?_,fun j hj=>?_,hI.below.trans (hB.mono hI.below.size)⟩
  ·rw [hd]; simp [Act.put,hI.tsize]
  ·rw [hd]; simp [Act.put,hI.defers]
  ·rw [hd,slot_put_ne (show ds.getD i 0≠t from fun e=>ht (e ▸ hmem))]; exact hI.outer t ht
  ·rw [hd];by_cases e:i=j
   ·subst e;rw [slot_put_eq (by rw [hI.tsize]; exact hF.fits _ hmem)];exact hR
   ·rw [getD_set_ne false e] at hj;have hjl:j < ds.length:=by
     rw [hF.len,← hI.size];rcases Nat.lt_or_ge j listed.size with h' | h'
     ·exact h'
     ·simp [Array.getElem?_eq_none h'] at hj
    rw [slot_put_ne (nodup_ne hF.nodup hil hjl e)];exact hst _ _ _ _ (hI.inner j hj) hB
theorem wp_region_grow {id:Nat} (hm:P.follows .mixedOrders=true) (hF:GForm ops ds a0.tmps.size) (hst:∀ i v w w',R i v w→Below w.heap.size w w'→R i v w')
  (hstep:∀ i o,ops[i]?=some o→GStep P Q ds R a0 w0.drew i o)
  (hdone:∀ a w,a.tmps.size=a0.tmps.size→a.defers=a0.defers→(∀ t,t ∉ ds→slot a t=slot a0 t)→(∀ i,i < ops.size→R i (slot a (ds.getD i 0)) w)→Below w0.drew.heap.size w0.drew w→Q .normal a w) :
  (Code.region id ops true).wp P Q a0 w0:=by
 refine wp_region_any hm (wpAny_grow (w0:=w0.drew) hF hst hstep hdone ops.size _ a0 w0.drew (unl_le _ _) ⟨by simp,rfl,rfl,fun _ _=>rfl,fun i hi=>?_,Below.refl _ _⟩);exfalso
 by_cases h:i < ops.size
 ·simp [h] at hi
 ·simp [h] at hi
def rAt (Rs:List (Value→World→Prop)) (i:Nat) (v:Value) (w:World):Prop:=Rs.getD i (fun _ _=>True) v w
def GSteps (P:Program) (Q:Exit→Act→World→Prop) (ds:List Tmp) (R:Nat→Value→World→Prop) (a0:Act) (w0:World):Nat→List Oper→Prop
 | _,[]=>True
 | n,o::l=>GStep P Q ds R a0 w0 n o∧GSteps P Q ds R a0 w0 (n+1) l
theorem GSteps.at':∀ (l:List Oper) (n:Nat),GSteps P Q ds R a0 w0 n l→∀ i o,l[i]?=some o→GStep P Q ds R a0 w0 (n+i) o
 | [],_,_,i,o,h=>by simp at h
 | p::l,n,hs,0,o,h=>by simp at h; subst h; exact hs.1
 | p::l,n,hs,i+1,o,h=>by
  have:=GSteps.at' l (n+1) hs.2 i o (by simpa using h);rwa [show n+1+i=n+(i+1) by omega] at this
def RAll (X:Nat→Value) (w:World):Nat→List (Value→World→Prop)→Prop
 | _,[]=>True
 | n,r::l=>r (X n) w∧RAll X w (n+1) l
theorem RAll.mk {X:Nat→Value} {w:World}:∀ (l:List (Value→World→Prop)) (n:Nat),(∀ i,i < l.length→rAt l i (X (n+i)) w)→RAll X w n l
 | [],_,_=>trivial
 | r::l,n,h=>⟨h 0 (by simp),RAll.mk l (n+1) (fun i hi=>by have:=h (i+1) (by simp; omega); rw [show n+1+i=n+(i+1) by omega]; exact this)⟩
def Stable (r:Value→World→Prop):Prop:=∀ v w w',r v w→Below w.heap.size w w'→r v w'
def putsFrom (X:Nat→Value):Act→Nat→List Tmp→Act
 | a,_,[]=>a
 | a,k,d::l=>putsFrom X (a.put (some d) (X k)) (k+1) l
theorem act_ext {a b:Act} (h1:a.tmps.size=b.tmps.size) (h2:a.defers=b.defers) (h:∀ t,slot a t=slot b t):a=b:=by
 obtain ⟨ta,da⟩:=a;obtain ⟨tb,db⟩:=b;simp only at h1 h2;subst h2;congr 1
 refine Array.ext h1 (fun i hi hj=>?_);have:=h i;simpa [slot,hi,hj] using this
theorem puts_eq {X:Nat→Value} {a:Act}:∀ (l:List Tmp) (b:Act) (k:Nat),b.tmps.size=a.tmps.size→b.defers=a.defers→(∀ i,i < l.length→X (k+i)=slot a (l.getD i 0))→(∀ t,t ∉ l→slot b t=slot a t)→(∀ d∈l,d < a.tmps.size)→putsFrom X b k l=a
 | [],b,k,h1,h2,_,h4,_=>act_ext h1 h2 (fun t=>h4 t (by simp))
 | d::l,b,k,h1,h2,h3,h4,h5=>by
  refine puts_eq l _ (k+1) (by simp [Act.put,h1]) (by simp [Act.put,h2]) (fun i hi=>?_) (fun t ht=>?_) (fun e he=>h5 e (by simp [he]))
  ·have:=h3 (i+1) (by simp; omega);rw [show k+1+i=k+(i+1) by omega,this];simp
  ·by_cases e:d=t
   ·subst e;rw [slot_put_eq (by rw [h1]; exact h5 d (by simp))];have:=h3 0 (by simp);simpa using this
   ·rw [slot_put_ne e];exact h4 t (by simp; exact ⟨fun h=>e h.symm,ht⟩)
theorem wp_region_growL {id:Nat} {Rs:List (Value→World→Prop)} (ds:List Tmp) (hm:P.follows .mixedOrders=true) (hF:gform ops ds a0.tmps.size=true) (hl:Rs.length=ops.size) (hst:∀ r∈Rs,Stable r)
  (hstep:GSteps P Q ds (rAt Rs) a0 w0.drew 0 ops.toList)
  (hdone:∀ (X:Nat→Value) w,RAll X w 0 Rs→Below w0.drew.heap.size w0.drew w→Q .normal (putsFrom X a0 0 ds) w) :
  (Code.region id ops true).wp P Q a0 w0:=by
 have hG:=GForm.of hF;refine wp_region_grow (ds:=ds) (R:=rAt Rs) hm hG (fun i v w w' h hb=>?_) (fun i o ho=>?_) (fun a w h1 h2 h3 h4 h5=>?_)
 ·unfold rAt at *;by_cases hi:i < Rs.length
  ·have e:Rs.getD i (fun _ _=>True)=Rs[i]:=by simp [hi]
   rw [e] at h ⊢;exact hst _ (List.getElem_mem hi) v w w' h hb
  ·have e:Rs.getD i (fun _ _=>True)=fun _ _=>True:=by simp [Nat.le_of_not_lt hi]
   rw [e]; trivial
 ·have:=GSteps.at' ops.toList 0 hstep i o (by simpa using ho);rwa [Nat.zero_add] at this
 ·have hp:putsFrom (fun i=>slot a (ds.getD i 0)) a0 0 ds=a:=puts_eq ds a0 0 h1.symm h2.symm (fun i _=>by rw [Nat.zero_add]) (fun t ht=>(h3 t ht).symm) (fun d hd=>by rw [h1]; exact hG.fits d hd);rw [← hp];exact hdone (fun i=>slot a (ds.getD i 0)) w (RAll.mk Rs 0 (fun i hi=>by rw [Nat.zero_add]; exact h4 i (by omega))) h5
def IsV (x:Value):Value→World→Prop:=fun v _=>v=x
theorem stable_isV (x:Value):Stable (IsV x):=fun _ _ _ h _=>h
def IsRow (x y:Int):Value→World→Prop:=fun v w=>∃ b,v=.slice (some ⟨b,0,none⟩) 2 2∧w.cell? ⟨b,0,none⟩=some (.int .u8 x)∧w.cell? ⟨b,1,none⟩=some (.int .u8 y)
theorem stable_isRow (x y:Int):Stable (IsRow x y):=fun v w w' ⟨b,h1,h2,h3⟩ hb=>by
 have hlt:=World.block_lt_of_cell? w _ h2;exact ⟨b,h1,((bcell hb).1 b 0 hlt).trans h2,((bcell hb).1 b 1 hlt).trans h3⟩
end
open Go.PlainAid Go.WideShapes
theorem SlLaid.setOther {α:Type} {en:α→List Value} {n:Nat} {w:World} {B X o:Nat} {xs:List α} {L k:Nat} (h:SlLaid en n w B xs L k) (hne:B≠X) (v:Value):SlLaid en n (w.setCell ⟨X,o,none⟩ v) B xs L k:=by
 have ho:∀ i,(w.setCell ⟨X,o,none⟩ v).cell? ⟨B,i,none⟩=w.cell? ⟨B,i,none⟩:=fun i=>World.cell?_setCell_other _ _ _ _ (fun e=>hne (by injection e with h1 h2; exact h1.symm))
 exact ⟨Nat.lt_of_lt_of_le h.blk ((Below.refl 0 w).setCell (Nat.zero_le _) _).size,fun i hi hk j u hu=>(ho _).trans (h.at0 i hi hk j u hu),fun i hi=>by rw [ho]; exact h.there i hi,fun i hi=>by rw [World.frozen?_setCell]; exact h.free i hi⟩
theorem strL1_length (s:ByteArray):(strL1 s).length=1:=rfl
def strN (s:ByteArray):List Nat:=[s.size]
def StrWf (s:ByteArray):Prop:=s.size≤maxLen
def StrsWf (xs:List ByteArray):Prop:=xs.length≤maxLen∧∀ q∈xs,StrWf q
section
variable {H:Type} {enc:TypeId × Value→H} {w:World} {base:Nat} {spare:Nat→Bool} {held:Bool}
theorem elem_Str {m:Nat} {cs:List Value} {y:DataW H × List MemPlace} (h:DataW.trod enc Tryz.prog w base spare held m 9 cs=some y):∃ q:ByteArray,cs=strL1 q∧StrWf q:=by
 obtain ⟨x,e,_,g⟩:=DataW.trod_string Tryz.underlying9 h;exact ⟨x,e,g⟩
theorem open_StringS {fuel:Nat} {a:Option Addr} {len cap:Nat} {x:DataW H × List MemPlace} (h:DataW.trod enc Tryz.prog w base spare held fuel 22 [.slice a len cap]=some x):∃ xs:List ByteArray,xs.length=len∧StrsWf xs∧SlIs strL1 1 w a xs :=
 open_flat strL1_length (by omega) Tryz.underlying22 (by kernel_rfl) StrWf (fun m cs y h=>elem_Str h) h
end
theorem szStringS_at (xs:List ByteArray) (a:Option Addr) (cap:Nat) (left:Int) (w:World) (hwf:StrsWf xs) (hr:SlIs strL1 1 w a xs) (h0:0≤left) (h1:left≤1048576) :
  Cb 25 #[.slice a xs.length cap,iV left] w (iV (szSl strN xs left)):=by
 have hlm:=hwf.1;unfold maxLen at hlm;by_cases hlong:left < (xs.length:Int)
 ·have HV:Hid (szSl strN xs left=-1):=if_pos hlong;clear hr hwf;generalize szSl strN xs left=ans at *;go_enter Tryz.func25,Tryz.ntmps25
  go_wp2_with fail
  go_ret;exact ⟨ret_int HV.out.symm,Below.refl _ _⟩
 ·have HV:Hid (szSl strN xs left=szL (xs.map strN) (left-xs.length)):=if_neg hlong;have HR:Hid (SlIs strL1 1 w a xs):=hr;have HW:Hid (StrsWf xs):=hwf;clear hr hwf;generalize szSl strN xs left=ans at *;go_enter Tryz.func25,Tryz.ntmps25
  go_wp2_with fail
  go_loopw [1,5] (fun l i wr=>∃ (k:Nat) (lf:Int),k≤xs.length∧i=iV k∧l=iV lf∧0≤lf∧lf≤1048576∧szL (xs.map strN) (left-xs.length)=szL ((xs.drop k).map strN) lf∧Below w.heap.size w wr) (fun _ i _=>xs.length-(intOf i).toNat)
  case atStart=>exact ⟨0,left-xs.length,Nat.zero_le _,rfl,rfl,by omega,by omega,rfl,Below.refl _ _⟩
  case round =>
   obtain ⟨k,lf,hk,rfl,rfl,hl0,hl1,hz,hbel⟩:=hrel;have HK:Hid _:=hz;have HL:Hid (Below w.heap.size w wr):=hbel;clear hz hbel;by_cases hlt:k < xs.length
   ·obtain ⟨b,off,rfl,hb,hat⟩:=HR.out.at hlt;have HA:=(hat.below hb HL.out) k hlt;have hst:=szL_drop (f:=strN) hlt lf;have hq2:=HW.out.2 xs[k] (List.getElem_mem hlt);obtain ⟨q,hq⟩ : ∃ q,q=xs[k]:=⟨_,rfl⟩;rw [← hq] at HA hst hq2;unfold StrWf maxLen at hq2;have c0:wr.cell? ⟨b,off+k*1,none⟩=some (.string q):=HA 0 _ rfl;rw [Nat.mul_one] at c0;have HST:Hid _:=hst;clear hq HA hat hst;by_cases hs:lf < (q.size:Int)
    ·have HX:Hid (ans=-1):=by unfold Hid; rw [HV.out,HK.out,HST.out,show szN (strN q) lf=-1 from szN_yes hs]; rfl
     have hs':lf-(q.size:Int) < 0:=by omega
     go_wp2_with fail
     go_ret;exact ⟨ret_int HX.out.symm,HL.out⟩
    ·have hn:szN (strN q) lf=lf-q.size:=szN_no hs;have HX:Hid (szL ((xs.drop k).map strN) lf=szL ((xs.drop (k+1)).map strN) (lf-q.size)):=by unfold Hid; rw [HST.out,hn,if_neg (by omega)]
     have hs0:0≤lf-(q.size:Int):=by omega
     have hs1:lf-(q.size:Int)≤1048576:=by omega
     clear HST hn;go_wp2_with fail
     go_roundw
     case rel=>exact ⟨k+1,lf-q.size,by omega,by go_num,rfl,hs0,hs1,by rw [HK.out,HX.out],HL.out⟩
     case measure=>simp [intOf]; omega
   ·have HX:Hid (ans=lf):=by unfold Hid; rw [HV.out,HK.out,szL_end (by omega)]
    go_wp2_with fail
    go_ret;exact ⟨ret_int HX.out.symm,HL.out⟩
theorem Tryz.infoStr:(Tryz.prog.info? 9).map (fun i=>(i.zero,i.size,i.bytes))=some (some (.string ⟨#[]⟩),1,16):=by kernel_rfl
theorem toStringS_any (xs:List ByteArray) (a:Option Addr) (cap:Nat) (w:World) (hlen:xs.length≤1048576) (hr:SlIs strL1 1 w a xs) :
  Calls Tryz.prog 31 #[.slice a xs.length cap] w fun e w'=>e=.returned (.slice (some ⟨w.heap.size,0,none⟩) xs.length xs.length)∧Below w.heap.size w w'∧SlLaid strL1 1 w' w.heap.size xs xs.length xs.length:=by
 have HR:Hid (SlIs strL1 1 w a xs):=hr;clear hr;obtain ⟨i0,hi,hz0,hz1,hz2⟩:=info_parts Tryz.infoStr;go_enter Tryz.func31,Tryz.ntmps31
 go_wp2_with (at_make; refine wpList_make_full _ rfl _ _ 22 rfl w.heap.size 9 i0 (.string ⟨#[]⟩) 1 Tryz.underlying22 hi hz0 hz1 .i64 .i64 _ _ xs.length rfl rfl (by omega) (by omega) (by rw [hz2]; omega) (by unfold maxLen; omega) (Nat.le_refl _) ?_; intro w1 hown hgrow)
 have hlaid:SlLaid strL1 1 w1 w.heap.size xs xs.length 0:=SlLaid.start hown;have hbel:Below w.heap.size w w1:=⟨hgrow.os,hgrow.tape,hgrow.output,hgrow.size,fun k hk=>hgrow.block k hk (by simp)⟩;have HY:Hid (SlLaid strL1 1 w1 w.heap.size xs xs.length 0):=hlaid;have HB:Hid (Below w.heap.size w w1):=hbel;clear hown hgrow hlaid hbel hi hz0 hz1 hz2;go_wp2_with fail
 go_loopw [4] (fun i wr=>∃ k:Nat,k≤xs.length∧i=iV k∧SlLaid strL1 1 wr w.heap.size xs xs.length k∧Below w.heap.size w wr) (fun i _=>xs.length-(intOf i).toNat)
 case atStart=>exact ⟨0,Nat.zero_le _,rfl,HY.out,HB.out⟩
 case round =>
  obtain ⟨k,hk,rfl,hy,hbel⟩:=hrel;have HK:Hid (SlLaid strL1 1 wr w.heap.size xs xs.length k):=hy;have HL:Hid (Below w.heap.size w wr):=hbel;clear hy hbel;by_cases hlt:k < xs.length
  ·obtain ⟨b,off,rfl,hb,hat⟩:=HR.out.at hlt;have HA:=(hat.below hb HL.out) k hlt;obtain ⟨q,hq⟩ : ∃ q,q=xs[k]:=⟨_,rfl⟩;rw [← hq] at HA;have c0:wr.cell? ⟨b,off+k*1,none⟩=some (.string q):=HA 0 _ rfl;rw [Nat.mul_one] at c0;have HQ:Hid (q=xs[k]):=hq;clear hq HA hat;obtain ⟨v0,t0⟩:=Option.isSome_iff_exists.1 (HK.out.there (k*1) (by omega));have f0:=HK.out.free (k*1) (by omega);rw [Nat.mul_one] at t0 f0;have hset:=HK.out.set strL1_length hlt hlt;rw [← HQ.out] at hset;have HSET:Hid (SlLaid strL1 1 (wr.setCell ⟨w.heap.size,k,none⟩ (.string q)) w.heap.size xs xs.length (k+1)):=by
    have:=hset;simp only [Nat.mul_one] at this;exact this
   clear hset;go_wp2_with fail
   go_roundw
   case rel=>exact ⟨k+1,by omega,by go_num,HSET.out,HL.out.setCell (Nat.le_refl _) _⟩
   case measure=>simp [intOf]; omega
  ·have hkl:k=xs.length:=by omega
   have HE:Hid (SlLaid strL1 1 wr w.heap.size xs xs.length xs.length):=by have h:=HK.out; rw [hkl] at h; exact h
   clear HK;go_wp2_with fail
   go_ret;exact ⟨rfl,HL.out,HE.out⟩
theorem eqStringS_same (xs:List ByteArray) (a1 a2:Option Addr) (cap1 cap2:Nat) (w:World) (hlen:xs.length≤1048576) (h1:SlIs strL1 1 w a1 xs) (h2:SlIs strL1 1 w a2 xs) :
  Cb 38 #[.slice a1 xs.length cap1,.slice a2 xs.length cap2] w (.bool true):=by
 have H1:Hid (SlIs strL1 1 w a1 xs):=h1;have H2:Hid (SlIs strL1 1 w a2 xs):=h2;clear h1 h2;go_enter Tryz.func38,Tryz.ntmps38
 go_wp2_with fail
 go_loopw [5] (fun i wr=>∃ k:Nat,k≤xs.length∧i=iV k∧Below w.heap.size w wr) (fun i _=>xs.length-(intOf i).toNat)
 case atStart=>exact ⟨0,Nat.zero_le _,rfl,Below.refl _ _⟩
 case round =>
  obtain ⟨k,hk,rfl,hbel⟩:=hrel;have HL:Hid (Below w.heap.size w wr):=hbel;clear hbel;by_cases hlt:k < xs.length
  ·obtain ⟨b1,o1,rfl,hb1,hA⟩:=H1.out.at hlt;obtain ⟨b2,o2,rfl,hb2,hB⟩:=H2.out.at hlt;have hA:=(hA.below hb1 HL.out) k hlt;have hB:=(hB.below hb2 HL.out) k hlt;obtain ⟨q,hq⟩ : ∃ q,q=xs[k]:=⟨_,rfl⟩;rw [← hq] at hA hB;have c0:wr.cell? ⟨b1,o1+k*1,none⟩=some (.string q):=hA 0 _ rfl;have d0:wr.cell? ⟨b2,o2+k*1,none⟩=some (.string q):=hB 0 _ rfl;rw [Nat.mul_one] at c0 d0;clear hq hA hB;have hqq:(q.toList==q.toList)=true:=by simp
   go_wp2_with fail
   go_quiet (fail)
   go_wp2_with fail
   go_roundw
   case rel=>exact ⟨k+1,by omega,by go_num,⟨HL.out.os,HL.out.tape,HL.out.output,HL.out.size,HL.out.block⟩⟩
   case measure=>simp [intOf]; omega
  ·go_wp2_with fail
   go_ret;exact ⟨rfl,HL.out⟩
def strM (k:Nat):List Value:=[.string (markV k)]
theorem strM_length (k:Nat):(strM k).length=1:=rfl
theorem markStringS_any (B L cap k:Nat) (w:World) (hk:0 < k) (hL:k+1*L≤1073741824) (hs:SlLaid strM 1 w B (marksOf 1 k L) L 0) :
  Calls Tryz.prog 42 #[.slice (some ⟨B,0,none⟩) L cap,iV k] w fun e w'=>e=.returned (iV ((k+1*L:Nat):Int))∧SlLaid strM 1 w' B (marksOf 1 k L) L L∧w.grownBy w' (some B):=by
 have HS:Hid _:=hs;clear hs;go_enter Tryz.func42,Tryz.ntmps42
 go_wp2_with fail
 go_loopw [1,5] (fun kv i wr=>∃ m:Nat,m≤L∧i=iV m∧kv=iV ((k+1*m:Nat):Int)∧SlLaid strM 1 wr B (marksOf 1 k L) L m∧w.grownBy wr (some B)) (fun _ i _=>L-(intOf i).toNat)
 case atStart=>exact ⟨0,Nat.zero_le _,rfl,rfl,HS.out,World.grownBy.refl _ _⟩
 case round =>
  obtain ⟨m,hm,rfl,rfl,hy,hg⟩:=hrel;have HK:Hid (MkSt strM 1 w B k L m [] wr):=MkSt.new hy hg;clear hy hg HS;by_cases hlt:m < L
  ·obtain ⟨kk,hkk⟩ : ∃ kk,kk=k+1*m:=⟨_,rfl⟩;have HKK:Hid (kk=k+1*m):=hkk;rw [← hkk];have hk1:0 < kk:=by omega
   have hk2:kk+1≤1073741824:=by omega
   clear hkk;go_wp2_with fail
   refine (markText_at _ kk _ (by omega) (by omega) (by omega)).mono ?_;rintro e wA1 ⟨rfl,qA1⟩;have HA1:Hid (MkSt strM 1 w B k L m [] wA1):=HK.out.call qA1;clear qA1 HK;obtain ⟨v0,t0⟩:=HA1.out.there (j:=0) hlt (by omega);have f0:=HA1.out.free (j:=0) hlt (by omega);rw [Nat.add_zero,Nat.mul_one] at t0 f0;have hF:Hid (MkSt strM 1 w B k L m (strM kk) _):=HA1.out.put strM_length (by simp) hlt (.string (markV kk));go_wp2_with fail
   go_roundw
   case rel =>
    exact ⟨m+1,by omega,by go_num,by have:=HKK.out; congr 1; omega,by have:=hF.out.next strM_length (by rw [HKK.out]) hlt; simpa using this,by have:=hF.out.grown; simpa using this⟩
   case measure=>simp [intOf]; omega
  ·have hml:m=L:=by omega
   have HE:Hid (SlLaid strM 1 wr B (marksOf 1 k L) L L∧w.grownBy wr (some B)):=⟨by have h:=HK.out.laid; rw [hml] at h; exact h,HK.out.grown⟩;clear HK;go_wp2_with fail
   go_ret;exact ⟨ret_int (by rw [hml]),HE.out.1,HE.out.2⟩
theorem markStringS_nil (a:Option Addr) (cap k:Nat) (w:World) (hL:k≤1073741824) :
  Cw 42 #[.slice a 0 cap,iV k] w (iV (k:Int)):=by
 go_enter Tryz.func42,Tryz.ntmps42
 go_wp2_with fail
 go_loopw [1,5] (fun kv i wr=>kv=iV k∧i=iV 0∧wr=w) (fun _ _ _=>0)
 case atStart=>exact ⟨rfl,rfl,rfl⟩
 case round =>
  obtain ⟨rfl,rfl,rfl⟩:=hrel;go_wp2_with fail
  go_ret;exact ⟨rfl,rfl⟩
def LvWf (p:Lv):Prop:=In64t p.udp∧In64t p.echo∧In64t p.opening∧In64t p.opn∧In64t p.closing
structure BoxLives (w:World) (B:Nat) (p:Lv):Prop where
 c0:w.cell? ⟨B,0,none⟩=some (iV p.udp)
 c1:w.cell? ⟨B,1,none⟩=some (iV p.echo)
 c2:w.cell? ⟨B,2,none⟩=some (iV p.opening)
 c3:w.cell? ⟨B,3,none⟩=some (iV p.opn)
 c4:w.cell? ⟨B,4,none⟩=some (iV p.closing)
theorem BoxLives.kept {w W:World} {B:Nat} {p:Lv} (h:BoxLives w B p) (hB:Below w.heap.size w W):BoxLives W B p:=by
 have hb:=World.block_lt_of_cell? w _ h.c0;exact ⟨((bcell hB).1 B 0 hb).trans h.c0,((bcell hB).1 B 1 hb).trans h.c1,((bcell hB).1 B 2 hb).trans h.c2,((bcell hB).1 B 3 hb).trans h.c3,((bcell hB).1 B 4 hb).trans h.c4⟩
theorem BoxLives.new (w:World) (p:Lv) {t:TypeId}:BoxLives (w.alloc (.cells #[iV p.udp,iV p.echo,iV p.opening,iV p.opn,iV p.closing] t)) w.heap.size p:=⟨cell_new rfl,cell_new rfl,cell_new rfl,cell_new rfl,cell_new rfl⟩
section
variable {H:Type} {enc:TypeId × Value→H} {w:World} {base:Nat} {spare:Nat→Bool} {held:Bool}
end
theorem toLives_any (p:Lv) (w:World) :
  Cb 32 #[lvC p] w (lvC p):=by
 obtain ⟨udp,echo,opening,opn,closing⟩:=p;unfold lvC;dsimp only;go_enter Tryz.func32,Tryz.ntmps32
 go_wp2_with fail
 refine bodyPost_ret (v:=.agg #[iV udp,iV echo,iV opening,iV opn,iV closing]) (by simp [results,Tryz.results32,go_sem]) rfl ⟨rfl,?_⟩;exact (((Below.refl _ _).alloc (Nat.le_refl _) _).alloc (by simp) _).alloc (by simp; omega) _
theorem eqLives_same (p:Lv) (w:World) :
  Cb 39 #[lvC p,lvC p] w (.bool true):=by
 obtain ⟨udp,echo,opening,opn,closing⟩:=p;unfold lvC;dsimp only;have HZ:Hid (Below w.heap.size w ((aW w [iV udp,iV echo,iV opening,iV opn,iV closing] 46).alloc (.cells #[iV udp,iV echo,iV opening,iV opn,iV closing] 46))):=((Below.refl _ _).alloc (Nat.le_refl _) _).alloc (by simp) _;go_enter Tryz.func39,Tryz.ntmps39
 go_wp2_with fail
 go_ret;exact ⟨rfl,HZ.out⟩
end Go.Proofs.YtcckaeppiamebaaGreatDoor
