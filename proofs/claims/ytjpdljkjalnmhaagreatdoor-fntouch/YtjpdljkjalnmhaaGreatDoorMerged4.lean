import Derived.Test.YtjpdljkjalnmhaaGreatDoorMerged1
import Derived.Deep.RegionWith
import Derived.Test.YtjpdljkjalnmhaaGreatDoorMerged2
import Derived.Orders
import Derived.RegionTactic
import Derived.Test.YtjpdljkjalnmhaaGreatDoorMerged3
import Derived.Deep.DeepCutAuto
import Derived.BigQuiet
set_option linter.unusedVariables false
set_option linter.unusedSimpArgs false
set_option maxRecDepth 100000
set_option maxHeartbeats 8000000
namespace Go.Proofs.YtjpdljkjalnmhaaGreatDoor
open Go.RowKit Go.PlainAid
def oneM (x:Nat):ByteArray:=⟨#[UInt8.ofNat x]⟩
def markA (k:Nat) (o:ByteArray):ByteArray:=if h:k=0 then o else markA (k / 10) (oneM (48+k % 10)++o)
termination_by k
decreasing_by omega
def emM:ByteArray:=⟨#[109]⟩
def markV (k:Nat):ByteArray:=emM++markA k ⟨#[]⟩
def marksOf (n k L:Nat):List Nat:=(List.range L).map fun i=>k+n*i
theorem marksOf_get (n k L i:Nat) (h:i < (marksOf n k L).length):(marksOf n k L)[i]=k+n*i:=by simp [marksOf]
structure MkSt (en:Nat→List Value) (n:Nat) (w0:World) (B k L m:Nat) (cs:List Value) (w:World):Prop where
 laid:SlLaid en n w B (marksOf n k L) L m
 part:w.rangeAt B (m*n) cs
 grown:w0.grownBy w (some B)
section
variable {en:Nat→List Value} {n:Nat} {w0 w w':World} {B k L m:Nat} {cs:List Value}
theorem MkSt.new (h:SlLaid en n w B (marksOf n k L) L m) (hg:w0.grownBy w (some B)):MkSt en n w0 B k L m [] w:=⟨h,fun j v hv=>by simp at hv,hg⟩
theorem MkSt.idx (hm:m < L) {j:Nat} (hj:j < n):m*n+j < L*n:=by
 have:=Nat.mul_le_mul_right n (show m+1≤L from hm); rw [Nat.succ_mul] at this; omega
theorem MkSt.put (h:MkSt en n w0 B k L m cs w) (hn:∀ x,(en x).length=n) (hc:cs.length < n) (hm:m < L) (v:Value):MkSt en n w0 B k L m (cs++[v]) (w.setCell ⟨B,m*n+cs.length,none⟩ v):=by
 have hix:=MkSt.idx hm hc;obtain ⟨x,hx⟩:=Option.isSome_iff_exists.1 (h.laid.there _ hix);have ho:∀ o,o≠m*n+cs.length→(w.setCell ⟨B,m*n+cs.length,none⟩ v).cell? ⟨B,o,none⟩=w.cell? ⟨B,o,none⟩:=fun o ho=>World.cell?_setCell_other _ _ _ _ (fun e=>ho (by injection e with _ e2; exact e2.symm))
 have hs:(w.setCell ⟨B,m*n+cs.length,none⟩ v).cell? ⟨B,m*n+cs.length,none⟩=some v:=World.cell?_setCell_same _ _ _ hx;refine ⟨⟨?_,fun i hi hk j u hu=>?_,fun i hi=>?_,fun i hi=>by rw [World.frozen?_setCell]; exact h.laid.free i hi⟩,fun j u hu=>?_,grown_set h.grown v⟩
 ·exact Nat.lt_of_lt_of_le h.laid.blk (((Below.refl 0 w).setCell (p:=⟨B,m*n+cs.length,none⟩) (Nat.zero_le _) v).size)
 ·have hj:=(List.getElem?_eq_some_iff.1 hu).1;rw [hn] at hj;have hle:i*n+n≤m*n:=by have:=Nat.mul_le_mul_right n (show i+1≤m by omega); rw [Nat.succ_mul] at this; exact this
  rw [ho _ (by omega)]; exact h.laid.at0 i hi hk j u hu
 ·by_cases e:i=m*n+cs.length
  ·rw [e,hs]; rfl
  ·rw [ho _ e]; exact h.laid.there i hi
 ·by_cases e:j < cs.length
  ·rw [List.getElem?_append_left e] at hu;rw [ho _ (by omega)]; exact h.part j u hu
  ·have hj:=(List.getElem?_eq_some_iff.1 hu).1;rw [List.length_append] at hj;have:j=cs.length:=by simp at hj; omega
   subst this;simp at hu;rw [hs,hu]
theorem MkSt.call (h:MkSt en n w0 B k L m cs w) (q:Below w.heap.size w w'):MkSt en n w0 B k L m cs w' :=
 ⟨h.laid.kept q,fun j v hv=>((bcell q).1 B _ h.laid.blk).trans (h.part j v hv),grown_trans h.grown (grown_of_below q)⟩
theorem MkSt.there (h:MkSt en n w0 B k L m cs w) (hm:m < L) {j:Nat} (hj:j < n):∃ v,w.cell? ⟨B,m*n+j,none⟩=some v:=Option.isSome_iff_exists.1 (h.laid.there _ (MkSt.idx hm hj))
theorem MkSt.free (h:MkSt en n w0 B k L m cs w) (hm:m < L) {j:Nat} (hj:j < n):w.frozen? ⟨B,m*n+j,none⟩=false:=h.laid.free _ (MkSt.idx hm hj)
theorem MkSt.next (hn:∀ x,(en x).length=n) (h:MkSt en n w0 B k L m cs w) (hc:cs=en (k+n*m)) (hm:m < L):SlLaid en n w B (marksOf n k L) L (m+1):=by
 refine ⟨h.laid.blk,fun i hi hk j v hv=>?_,h.laid.there,h.laid.free⟩;by_cases e:i=m
 ·subst e;rw [marksOf_get,← hc] at hv;exact h.part j v hv
 ·exact h.laid.at0 i hi (by omega) j v hv
end
end Go.Proofs.YtjpdljkjalnmhaaGreatDoor
namespace Go.Proofs.YtjpdljkjalnmhaaGreatDoor
open Go.RowKit Go.ChangeShapes
def slot (a:Act) (t:Tmp):Value:=a.tmps.getD t undef
theorem slot_put_ne {a:Act} {d t:Tmp} {v:Value} (h:d≠t):slot (a.put (some d) v) t=slot a t:=by
 simp [slot,Act.put,Array.getElem?_setIfInBounds_ne h]
theorem slot_put_eq {a:Act} {d:Tmp} {v:Value} (h:d < a.tmps.size):slot (a.put (some d) v) d=v:=by
 simp [slot,Act.put,h]
def unl (listed:Array Bool):Nat→Nat
 | 0=>0
 | n+1=>unl listed n+(if listed.getD n true=true then 0 else 1)
theorem unl_le (listed:Array Bool):∀ n,unl listed n≤n
 | 0=>Nat.le_refl _
 | n+1=>by have:=unl_le listed n; unfold unl; split<;>omega
theorem unl_ge {listed:Array Bool} {i:Nat}:∀ n,n≤i→unl (listed.setIfInBounds i true) n=unl listed n
 | 0,_=>rfl
 | n+1,h=>by unfold unl; rw [unl_ge n (by omega),getD_set_ne true (by omega)]
theorem unl_set {listed:Array Bool} {i:Nat} (hf:listed.getD i true=false):∀ n,i < n→unl (listed.setIfInBounds i true) n+1=unl listed n
 | 0,h=>by omega
 | n+1,h=>by
  unfold unl;by_cases e:i=n
  ·subst e;have hlt:i < listed.size:=by
    rcases Nat.lt_or_ge i listed.size with h' | h'
    ·exact h'
    ·simp [Array.getElem?_eq_none h'] at hf
   have hs:(listed.setIfInBounds i true).getD i true=true:=by simp [hlt]
   rw [unl_ge i (Nat.le_refl _),hs,hf,if_pos rfl,if_neg (by simp)]
  ·rw [getD_set_ne true e,← unl_set hf n (by omega)]; omega
theorem unl_zero {listed:Array Bool}:∀ n,unl listed n=0→∀ i,i < n→listed.getD i true=true
 | 0,_,i,h=>by omega
 | n+1,h0,i,h=>by
  unfold unl at h0;by_cases e:i=n
  ·subst e;by_cases hh:listed.getD i true=true
   ·exact hh
   ·rw [if_neg hh] at h0; omega
  ·exact unl_zero n (by omega) i (by omega)
section
variable {P:Program} {ops:Array Oper} {Q:Exit→Act→World→Prop} {ds:List Tmp} {R:Nat→Value→World→Prop} {a0:Act} {w0:World}
structure GInv (ops:Array Oper) (ds:List Tmp) (R:Nat→Value→World→Prop) (a0:Act) (w0:World) (listed:Array Bool) (a:Act) (w:World):Prop where
 size:listed.size=ops.size
 tsize:a.tmps.size=a0.tmps.size
 defers:a.defers=a0.defers
 outer:∀ t,t ∉ ds→slot a t=slot a0 t
 inner:∀ i,listed.getD i false=true→R i (slot a (ds.getD i 0)) w
 below:Below w0.heap.size w0 w
structure GForm (ops:Array Oper) (ds:List Tmp) (n:Nat):Prop where
 len:ds.length=ops.size
 dst:∀ i o,ops[i]?=some o→o.dst=some (ds.getD i 0)∧o.guard=none
 nodup:ds.Nodup
 fits:∀ d∈ds,d < n
 topo:∀ i o,ops[i]?=some o→∀ e∈o.after,Region.binds .any e=true→e.on < i
def gform (ops:Array Oper) (ds:List Tmp) (n:Nat):Bool :=
 decide (ds.length=ops.size)&&(List.range ops.size).all (fun i=>match ops[i]? with
  | some o=>(match o.dst with | some d=>d==ds.getD i 0 | none=>false)&&o.guard.isNone&&o.after.all (fun e=>!Region.binds .any e||decide (e.on < i))
  | none=>true)&&decide ds.Nodup&&ds.all (fun d=>decide (d < n))
theorem GForm.of {n:Nat} (h:gform ops ds n=true):GForm ops ds n:=by
 unfold gform at h;simp only [Bool.and_eq_true,decide_eq_true_iff,List.all_eq_true,List.mem_range] at h;obtain ⟨⟨⟨h1,h2⟩,h3⟩,h4⟩:=h;refine ⟨h1,fun i o ho=>?_,h3,h4,fun i o ho e he hb=>?_⟩
 ·have:=h2 i (Array.getElem?_eq_some_iff.1 ho).1;rw [ho] at this;simp only [Bool.and_eq_true] at this;obtain ⟨⟨t1,t2⟩,_⟩:=this;refine ⟨?_,by simpa using t2⟩
  cases hd:o.dst with
  | none=>rw [hd] at t1; simp at t1
  | some d=>rw [hd] at t1; simp at t1; rw [t1]; simp
 ·have:=h2 i (Array.getElem?_eq_some_iff.1 ho).1;rw [ho] at this;simp only [Bool.and_eq_true] at this;obtain ⟨_,t3⟩:=this;have:=Array.all_eq_true_iff_forall_mem.1 t3 e he;simp [hb] at this;exact this
theorem getD_at {ds:List Tmp} {i:Nat} (h:i < ds.length):ds.getD i 0=ds[i]:=by simp [h]
theorem nodup_ne {ds:List Tmp} (h:ds.Nodup) {i j:Nat} (hi:i < ds.length) (hj:j < ds.length) (hne:i≠j):ds.getD i 0≠ds.getD j 0:=by
 intro e;rw [getD_at hi,getD_at hj] at e;have hp:=List.pairwise_iff_getElem.1 h;rcases Nat.lt_or_gt_of_ne hne with hlt | hlt
 ·exact hp i j hi hj hlt e
 ·exact hp j i hj hi hlt e.symm
def rAt (Rs:List (Value→World→Prop)) (i:Nat) (v:Value) (w:World):Prop:=Rs.getD i (fun _ _=>True) v w
def RAll (X:Nat→Value) (w:World):Nat→List (Value→World→Prop)→Prop
 | _,[]=>True
 | n,r::l=>r (X n) w∧RAll X w (n+1) l
theorem RAll.mk {X:Nat→Value} {w:World}:∀ (l:List (Value→World→Prop)) (n:Nat),(∀ i,i < l.length→rAt l i (X (n+i)) w)→RAll X w n l
 | [],_,_=>trivial
 | r::l,n,h=>⟨h 0 (by simp),RAll.mk l (n+1) (fun i hi=>by have:=h (i+1) (by simp; omega); rw [show n+1+i=n+(i+1) by omega]; exact this)⟩
def Stable (r:Value→World→Prop):Prop:=∀ v w w',r v w→Below w.heap.size w w'→r v w'
def putsFrom (X:Nat→Value):Act→Nat→List Tmp→Act
 | a,_,[]=>a
 | a,k,d::l=>putsFrom X (a.put (some d) (X k)) (k+1) l
theorem act_ext {a b:Act} (h1:a.tmps.size=b.tmps.size) (h2:a.defers=b.defers) (h:∀ t,slot a t=slot b t):a=b:=by
 obtain ⟨ta,da⟩:=a;obtain ⟨tb,db⟩:=b;simp only at h1 h2;subst h2;congr 1
 refine Array.ext h1 (fun i hi hj=>?_);have:=h i;simpa [slot,hi,hj] using this
theorem puts_eq {X:Nat→Value} {a:Act}:∀ (l:List Tmp) (b:Act) (k:Nat),b.tmps.size=a.tmps.size→b.defers=a.defers→(∀ i,i < l.length→X (k+i)=slot a (l.getD i 0))→(∀ t,t ∉ l→slot b t=slot a t)→(∀ d∈l,d < a.tmps.size)→putsFrom X b k l=a
 | [],b,k,h1,h2,_,h4,_=>act_ext h1 h2 (fun t=>h4 t (by simp))
 | d::l,b,k,h1,h2,h3,h4,h5=>by
  refine puts_eq l _ (k+1) (by simp [Act.put,h1]) (by simp [Act.put,h2]) (fun i hi=>?_) (fun t ht=>?_) (fun e he=>h5 e (by simp [he]))
  ·have:=h3 (i+1) (by simp; omega);rw [show k+1+i=k+(i+1) by omega,this];simp
  ·by_cases e:d=t
   ·subst e;rw [slot_put_eq (by rw [h1]; exact h5 d (by simp))];have:=h3 0 (by simp);simpa using this
   ·rw [slot_put_ne e];exact h4 t (by simp; exact ⟨fun h=>e h.symm,ht⟩)
def IsV (x:Value):Value→World→Prop:=fun v _=>v=x
theorem stable_isV (x:Value):Stable (IsV x):=fun _ _ _ h _=>h
def IsRow (x y:Int):Value→World→Prop:=fun v w=>∃ b,v=.slice (some ⟨b,0,none⟩) 2 2∧w.cell? ⟨b,0,none⟩=some (.int .u8 x)∧w.cell? ⟨b,1,none⟩=some (.int .u8 y)
end
open Go.PlainAid Go.WideShapes
theorem SlLaid.setOther {α:Type} {en:α→List Value} {n:Nat} {w:World} {B X o:Nat} {xs:List α} {L k:Nat} (h:SlLaid en n w B xs L k) (hne:B≠X) (v:Value):SlLaid en n (w.setCell ⟨X,o,none⟩ v) B xs L k:=by
 have ho:∀ i,(w.setCell ⟨X,o,none⟩ v).cell? ⟨B,i,none⟩=w.cell? ⟨B,i,none⟩:=fun i=>World.cell?_setCell_other _ _ _ _ (fun e=>hne (by injection e with h1 h2; exact h1.symm))
 exact ⟨Nat.lt_of_lt_of_le h.blk ((Below.refl 0 w).setCell (Nat.zero_le _) _).size,fun i hi hk j u hu=>(ho _).trans (h.at0 i hi hk j u hu),fun i hi=>by rw [ho]; exact h.there i hi,fun i hi=>by rw [World.frozen?_setCell]; exact h.free i hi⟩
theorem strL1_length (s:ByteArray):(strL1 s).length=1:=rfl
section
variable {H:Type} {enc:TypeId × Value→H} {w:World} {base:Nat} {spare:Nat→Bool} {held:Bool}
end
structure BoxLives (w:World) (B:Nat) (p:Lv):Prop where
 c0:w.cell? ⟨B,0,none⟩=some (.int .i64 p.udp)
 c1:w.cell? ⟨B,1,none⟩=some (.int .i64 p.echo)
 c2:w.cell? ⟨B,2,none⟩=some (.int .i64 p.opening)
 c3:w.cell? ⟨B,3,none⟩=some (.int .i64 p.opn)
 c4:w.cell? ⟨B,4,none⟩=some (.int .i64 p.closing)
theorem BoxLives.kept {w W:World} {B:Nat} {p:Lv} (h:BoxLives w B p) (hB:Below w.heap.size w W):BoxLives W B p:=by
 have hb:=World.block_lt_of_cell? w _ h.c0;exact ⟨((bcell hB).1 B 0 hb).trans h.c0,((bcell hB).1 B 1 hb).trans h.c1,((bcell hB).1 B 2 hb).trans h.c2,((bcell hB).1 B 3 hb).trans h.c3,((bcell hB).1 B 4 hb).trans h.c4⟩
theorem BoxLives.new (w:World) (p:Lv) {t:TypeId}:BoxLives (w.alloc (.cells #[.int .i64 p.udp,.int .i64 p.echo,.int .i64 p.opening,.int .i64 p.opn,.int .i64 p.closing] t)) w.heap.size p:=⟨cell_new rfl,cell_new rfl,cell_new rfl,cell_new rfl,cell_new rfl⟩
end Go.Proofs.YtjpdljkjalnmhaaGreatDoor
namespace Go.Proofs.YtjpdljkjalnmhaaGreatDoor
open Go.RowKit Go.PlainAid
theorem specIs_any (n lo hi:Int) (w:World) :
  Calls Tryz.prog 78 #[.int .i64 n,.int .i64 lo,.int .i64 hi] w fun e w'=>e=.returned (.bool (isIn n lo hi))∧w'=w:=by
 by_cases h1:lo≤n
 ·by_cases h2:n≤hi
  ·have HV:Hid (isIn n lo hi=true):=by unfold Hid isIn; simp [h1,h2]
   go_enter Tryz.func78,Tryz.ntmps78
   go_wp2_with fail
   go_ret;exact ⟨ret_bool (by rw [HV.out]),rfl⟩
  ·have HV:Hid (isIn n lo hi=false):=by unfold Hid isIn; simp [h2]
   go_enter Tryz.func78,Tryz.ntmps78
   go_wp2_with fail
   go_ret;exact ⟨ret_bool (by rw [HV.out]),rfl⟩
 ·have HV:Hid (isIn n lo hi=false):=by unfold Hid isIn; simp [h1]
  have h1':n < lo:=by omega
  go_enter Tryz.func78,Tryz.ntmps78
  go_wp2_with fail
  go_ret;exact ⟨ret_bool (by rw [HV.out]),rfl⟩
theorem specByte_any (n:Int) (w:World) :
  Calls Tryz.prog 69 #[.int .i64 n] w fun e w'=>e=.returned (.bool (isIn n 0 255))∧w'=w:=by
 have HC:Hid (∀ W,Calls Tryz.prog 78 #[.int .i64 n,.int .i64 0,.int .i64 255] W fun e w'=>e=.returned (.bool (isIn n 0 255))∧w'=W):=fun W=>specIs_any n 0 255 W
 generalize isIn n 0 255=b at *;go_enter Tryz.func69,Tryz.ntmps69
 go_wp2_with fail
 refine (HC.out _).mono ?_;rintro e w2 ⟨rfl,rfl⟩;go_wp2_with fail
 go_ret;exact ⟨rfl,rfl⟩
end Go.Proofs.YtjpdljkjalnmhaaGreatDoor
