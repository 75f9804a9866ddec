import Derived.Test.YtcckaeppiamebaaGreatDoorAb
import Derived.WalkKit
import Derived.PlainAid
import Derived.Test.YtcckaeppiamebaaGreatDoorMerged7
import Derived.Test.YtcckaeppiamebaaGreatDoorMerged1
import Derived.Laws.StructEq
import Derived.BigQuiet
import Derived.Lib.QuietBelow
import Derived.Deep.DeepCutAuto
import Derived.Test.YtcckaeppiamebaaGreatDoorMerged5
import Derived.Lib.LazyBuf
import Derived.Test.YtcckaeppiamebaaGreatDoorMerged2
import Derived.Deep.MidRow
import Derived.Deep.AppendLies
import Derived.Great.BuildSlice
import Derived.Test.YtcckaeppiamebaaGreatDoorMerged3
import Derived.Test.YtcckaeppiamebaaGreatDoorMerged6
import Derived.Test.YtcckaeppiamebaaGreatDoorMerged10
import Derived.Test.YtcckaeppiamebaaGreatDoorMerged11
import Derived.Test.YtcckaeppiamebaaGreatDoorMerged8
import Derived.Test.YtcckaeppiamebaaGreatDoorMerged12
import Derived.Below
import Derived.OpenShut
import Derived.ChangeSame
import Derived.Lib.LaidTab
set_option linter.unusedVariables false
set_option linter.unusedSimpArgs false
set_option maxRecDepth 100000
set_option maxHeartbeats 8000000
namespace Go.Proofs.YtcckaeppiamebaaGreatDoor
open Go.RowKit Go.PlainAid
def maskOf (p:Nat→Bool):Nat→Nat
 | 0=>0
 | n+1=>maskOf p n+if p n then 2 ^ n else 0
def cntOf (p:Nat→Bool):Nat→Nat
 | 0=>0
 | n+1=>cntOf p n+if p n then 1 else 0
def cntMask (m:Nat):Nat→Nat
 | 0=>0
 | b+1=>cntMask m b+m / 2 ^ b % 2
def pick {α:Type} (p:Nat→Bool) (f:Nat→α):Nat→List α
 | 0=>[]
 | n+1=>pick p f n++if p n then [f n] else []
theorem pick_length {α:Type} (p:Nat→Bool) (f:Nat→α):∀ n,(pick p f n).length=cntOf p n
 | 0=>rfl
 | n+1=>by
  unfold pick cntOf;rw [List.length_append,pick_length p f n];split<;>simp
def lastV (kid:Nat→Bool) (val:Nat→Int):Nat→Int
 | 0=>-1
 | j+1=>if kid j then lastV kid val j else val j
def leafAt (kid:Nat→Bool) (val:Nat→Int) (j:Nat):Bool:=!kid j&&val j != lastV kid val j
structure Nd where
 kids:Nat
 leaf:Nat
 base:Nat
 leafs:Nat
structure Tb where
 rows:List (Nat × Nat)
 nodes:List Nd
 leaves:List Int
section
variable (kid:Nat × Nat→Nat→Bool) (val:Nat × Nat→Nat→Int)
def nodeOf (r:Nat × Nat) (r0 l0:Nat):Nd :=
 ⟨maskOf (kid r) 16,maskOf (leafAt (kid r) (val r)) 16,if cntOf (kid r) 16=0 then 0 else r0,if cntOf (leafAt (kid r) (val r)) 16=0 then 0 else l0⟩
def kidRow (r:Nat × Nat) (k:Nat):Nat × Nat:=(r.1+1,16*r.2+k)
def tbStep (t:Tb) (r:Nat × Nat):Tb :=
 ⟨t.rows++pick (kid r) (kidRow r) 16,t.nodes++[nodeOf kid val r t.rows.length t.leaves.length],t.leaves++pick (leafAt (kid r) (val r)) (val r) 16⟩
structure NodeAt (t:Tb) (i:Nat):Prop where
 ex:∃ r r0 l0 rr ll,t.rows[i]?=some r∧t.nodes[i]?=some (nodeOf kid val r r0 l0)∧i < r0∧t.rows=rr∧t.leaves=ll ∧
  (∀ j x,(pick (kid r) (kidRow r) 16)[j]?=some x→t.rows[r0+j]?=some x)∧(∀ j x,(pick (leafAt (kid r) (val r)) (val r) 16)[j]?=some x→t.leaves[l0+j]?=some x) ∧
  r0+cntOf (kid r) 16≤t.rows.length∧l0+cntOf (leafAt (kid r) (val r)) 16≤t.leaves.length
theorem get_app {α:Type} {a b:List α} {i:Nat} {x:α} (h:a[i]?=some x):(a++b)[i]?=some x:=by
 have hl:i < a.length:=by
  by_cases e:i < a.length
  ·exact e
  ·rw [List.getElem?_eq_none (by omega)] at h; simp at h
 rw [List.getElem?_append_left hl]; exact h
theorem NodeAt.step {t:Tb} {i:Nat} (h:NodeAt kid val t i) (r:Nat × Nat):NodeAt kid val (tbStep kid val t r) i:=by
 obtain ⟨q,r0,l0,_,_,h1,h2,h3,_,_,h4,h5,h6,h7⟩:=h.ex;refine ⟨q,r0,l0,_,_,get_app h1,get_app h2,h3,rfl,rfl,fun j x hx=>get_app (h4 j x hx),fun j x hx=>get_app (h5 j x hx),?_,?_⟩
 ·show _≤(t.rows++_).length; rw [List.length_append]; omega
 ·show _≤(t.leaves++_).length; rw [List.length_append]; omega
theorem NodeAt.new {t:Tb} {r:Nat × Nat} (hr:t.rows[t.nodes.length]?=some r):NodeAt kid val (tbStep kid val t r) t.nodes.length:=by
 have hlt:t.nodes.length < t.rows.length:=by
  by_cases e:t.nodes.length < t.rows.length
  ·exact e
  ·rw [List.getElem?_eq_none (by omega)] at hr; simp at hr
 refine ⟨r,t.rows.length,t.leaves.length,_,_,get_app hr,?_,hlt,rfl,rfl,?_,?_,?_,?_⟩
 ·show (t.nodes++[_])[t.nodes.length]?=_;rw [List.getElem?_append_right (Nat.le_refl _),Nat.sub_self]; rfl
 ·intro j x hx;show (t.rows++_)[t.rows.length+j]?=_;rw [List.getElem?_append_right (by omega),show t.rows.length+j-t.rows.length=j by omega]; exact hx
 ·intro j x hx;show (t.leaves++_)[t.leaves.length+j]?=_;rw [List.getElem?_append_right (by omega),show t.leaves.length+j-t.leaves.length=j by omega]; exact hx
 ·show _≤(t.rows++_).length; rw [List.length_append,pick_length]; exact Nat.le_refl _
 ·show _≤(t.leaves++_).length; rw [List.length_append,pick_length]; exact Nat.le_refl _
structure TbOk (t:Tb):Prop where
 nodes:∀ i,i < t.nodes.length→NodeAt kid val t i
 le:t.nodes.length≤t.rows.length
 root:t.rows[0]?=some (0,0)
 leaves:∀ x∈t.leaves,∃ r k,x=val r k
theorem TbOk.start:TbOk kid val ⟨[(0,0)],[],[]⟩:=⟨fun i h=>by simp at h,by simp,rfl,by simp⟩
theorem mem_pick {α:Type} (p:Nat→Bool) (f:Nat→α):∀ n x,x∈pick p f n→∃ k,k < n∧p k=true∧x=f k
 | 0,x,h=>by simp [pick] at h
 | n+1,x,h=>by
  unfold pick at h;rcases List.mem_append.1 h with h | h
  ·obtain ⟨k,hk,hp,e⟩:=mem_pick p f n x h; exact ⟨k,by omega,hp,e⟩
  ·by_cases hp:p n=true
   ·rw [if_pos hp] at h; simp at h; exact ⟨n,by omega,hp,h⟩
   ·rw [if_neg hp] at h; simp at h
theorem TbOk.step {t:Tb} (h:TbOk kid val t) {r:Nat × Nat} (hr:t.rows[t.nodes.length]?=some r):TbOk kid val (tbStep kid val t r):=by
 have hlt:t.nodes.length < t.rows.length:=by
  by_cases e:t.nodes.length < t.rows.length
  ·exact e
  ·rw [List.getElem?_eq_none (by omega)] at hr; simp at hr
 refine ⟨fun i hi=>?_,?_,get_app h.root,?_⟩
 ·have hi':i < t.nodes.length+1:=by
   have:(tbStep kid val t r).nodes.length=t.nodes.length+1:=by show (t.nodes++[_]).length=_; simp
   omega
  by_cases e:i=t.nodes.length
  ·rw [e]; exact NodeAt.new kid val hr
  ·exact (h.nodes i (by omega)).step kid val r
 ·show (t.nodes++[_]).length≤(t.rows++_).length;simp; omega
 ·intro x hx;rcases List.mem_append.1 hx with hx | hx
  ·exact h.leaves x hx
  ·obtain ⟨k,_,_,e⟩:=mem_pick _ _ _ _ hx; exact ⟨r,k,e⟩
end
theorem len_of_sub {α:Type} [DecidableEq α]:∀ (l m:List α),l.Pairwise (·≠·)→(∀ x∈l,x∈m)→l.length≤m.length
 | [],m,_,_=>Nat.zero_le _
 | a::l,m,hp,hs=>by
  have ha:a∈m:=hs a (by simp);have hp':=List.pairwise_cons.1 hp;have:=len_of_sub l (m.erase a) hp'.2 (fun x hx=>(List.mem_erase_of_ne (fun e=>hp'.1 x hx e.symm)).2 (hs x (by simp [hx])));rw [List.length_erase_of_mem ha] at this;have hpos:0 < m.length:=List.length_pos_of_mem ha;simp; omega
def rlt (a b:Nat × Nat):Prop:=a.1 < b.1∨(a.1=b.1∧a.2 < b.2)
theorem rlt_ne {a b:Nat × Nat} (h:rlt a b):a≠b:=by
 intro e; subst e; unfold rlt at h; omega
section
variable (kid:Nat × Nat→Nat→Bool) (val:Nat × Nat→Nat→Int)
structure TbSort (S:List (Nat × Nat)) (t:Tb):Prop where
 sorted:t.rows.Pairwise rlt
 next:∀ r,t.rows[t.nodes.length]?=some r→∀ x∈t.rows,x.1≤r.1+1∧(x.1=r.1+1→x.2 < 16*r.2)
 sub:∀ x∈t.rows,x=(0,0)∨x∈S
theorem TbSort.start (S:List (Nat × Nat)):TbSort S ⟨[(0,0)],[],[]⟩ :=
 ⟨by simp,fun r h x hx=>by simp at h hx; subst h hx; simp,by simp⟩
theorem pick_sorted (r:Nat × Nat) (p:Nat→Bool):∀ n,(pick p (kidRow r) n).Pairwise rlt
 | 0=>by simp [pick]
 | n+1=>by
  unfold pick;rw [List.pairwise_append];refine ⟨pick_sorted r p n,?_,?_⟩
  ·split<;>simp
  ·intro a ha b hb;obtain ⟨k,hk,_,rfl⟩:=mem_pick _ _ _ _ ha;by_cases hp:p n=true
   ·rw [if_pos hp] at hb; simp at hb; subst hb; exact .inr ⟨rfl,by simp [kidRow]; omega⟩
   ·rw [if_neg hp] at hb; simp at hb
theorem TbSort.step {S:List (Nat × Nat)} {t:Tb} (h:TbSort S t) (hS:∀ r k,k < 16→kid r k=true→kidRow r k∈S) {r:Nat × Nat} (hr:t.rows[t.nodes.length]?=some r):TbSort S (tbStep kid val t r):=by
 have hnx:=h.next r hr;have hnl:(tbStep kid val t r).nodes.length=t.nodes.length+1:=by show (t.nodes++[_]).length=_; simp
 have hsrt:(tbStep kid val t r).rows.Pairwise rlt:=by
  show (t.rows++_).Pairwise rlt;rw [List.pairwise_append];refine ⟨h.sorted,pick_sorted r _ 16,fun a ha b hb=>?_⟩;obtain ⟨k,hk,_,rfl⟩:=mem_pick _ _ _ _ hb;have:=hnx a ha;by_cases e:a.1=r.1+1
  ·exact .inr ⟨e,by have:=this.2 e; show a.2 < 16*r.2+k; omega⟩
  ·exact .inl (by show a.1 < r.1+1; omega)
 refine ⟨hsrt,fun q hq x hx=>?_,fun x hx=>?_⟩
 ·rw [hnl] at hq;have hlt:t.nodes.length+1 < (tbStep kid val t r).rows.length:=by
   by_cases e:t.nodes.length+1 < (tbStep kid val t r).rows.length
   ·exact e
   ·rw [List.getElem?_eq_none (by omega)] at hq; simp at hq
  have hr2:(tbStep kid val t r).rows[t.nodes.length]?=some r:=get_app hr;have hrq:rlt r q:=by
   have:=List.pairwise_iff_getElem.1 hsrt t.nodes.length (t.nodes.length+1) (by omega) hlt (by omega);rw [List.getElem?_eq_getElem (by omega)] at hr2;rw [List.getElem?_eq_getElem hlt] at hq;injection hr2 with hr2; injection hq with hq
   rw [hr2,hq] at this; exact this
  unfold rlt at hrq;rcases List.mem_append.1 hx with hx | hx
  ·have:=hnx x hx;exact ⟨by omega,fun e=>by have:=this.2 (by omega); omega⟩
  ·obtain ⟨k,hk,_,rfl⟩:=mem_pick _ _ _ _ hx;simp only [kidRow];exact ⟨by omega,fun e=>by omega⟩
 ·rcases List.mem_append.1 hx with hx | hx
  ·exact h.sub x hx
  ·obtain ⟨k,hk,hp,rfl⟩:=mem_pick _ _ _ _ hx;exact .inr (hS r k hk hp)
theorem TbSort.length {S:List (Nat × Nat)} {t:Tb} (h:TbSort S t):t.rows.length≤S.length+1:=by
 have:=len_of_sub t.rows ((0,0)::S) (h.sorted.imp rlt_ne) (fun x hx=>by rcases h.sub x hx with e | e<;>simp [e]);simpa using this
structure NdRight (n leaves i:Nat) (x:Nd):Prop where
 kids:x.kids < 65536
 leaf:x.leaf < 65536
 apart:∀ k,¬ (x.kids / 2 ^ k % 2=1∧x.leaf / 2 ^ k % 2=1)
 base:x.kids≠0→i < x.base∧x.base+cntMask x.kids 16≤n
 base0:x.kids=0→x.base=0
 leafs:x.leaf≠0→x.leafs+cntMask x.leaf 16≤leaves
 leafs0:x.leaf=0→x.leafs=0
 first:∀ k,k < 16→(∀ j,j < k→x.kids / 2 ^ j % 2=1)→x.kids / 2 ^ k % 2=0→x.leaf / 2 ^ k % 2=1
end
structure Rt where
 addr:ByteArray
 bits:Int
 hop:Int
section
variable (n:Nat) (l:List Rt)
end
structure RtsAt (w:World) (b off:Nat) (rs:List Rt):Prop where
 c0:∀ i (h:i < rs.length),w.cell? ⟨b,off+i*3,none⟩=some (.string rs[i].addr)
 c1:∀ i (h:i < rs.length),w.cell? ⟨b,off+i*3+1,none⟩=some (iV rs[i].bits)
 c2:∀ i (h:i < rs.length),w.cell? ⟨b,off+i*3+2,none⟩=some (iV rs[i].hop)
theorem RtsAt.below {w W:World} {b off:Nat} {rs:List Rt} (h:RtsAt w b off rs) (hb:b < w.heap.size) (hB:Below w.heap.size w W):RtsAt W b off rs :=
 ⟨fun i hi=>((bcell hB).1 b _ hb).trans (h.c0 i hi),fun i hi=>((bcell hB).1 b _ hb).trans (h.c1 i hi),fun i hi=>((bcell hB).1 b _ hb).trans (h.c2 i hi)⟩
theorem Holds.setCells {w:World} {B n:Nat} {f:Nat→Int} (h:Holds w B n f) (t:ByteArray) (ht:t.size≤n):Holds (w.setCells B 0 (t.data.toList.map fun x=>Value.int .u8 (x.toNat:Int))) B n (fun i=>if i < t.size then bt t i else f i):=by
 have hl:(t.data.toList.map fun x=>Value.int .u8 (x.toNat:Int)).length=t.size:=by rw [List.length_map,Array.length_toList]; rfl
 refine ⟨fun i hi=>⟨?_,by rw [World.frozen?_setCells]; exact (h.get i hi).2⟩⟩;by_cases e:i < t.size
 ·have:=World.cell?_setCells_in B (t.data.toList.map fun x=>Value.int .u8 (x.toNat:Int)) 0 w (fun j hj=>by rw [Nat.zero_add,(h.get j (by rw [hl] at hj; omega)).1]; rfl) i (by rw [hl]; exact e);rw [Nat.zero_add] at this;show _=some (Value.int .u8 (if i < t.size then bt t i else f i));rw [if_pos e,this,← get_bt t i e,ByteArray.getElem_eq_getElem_data];simp
 ·show _=some (Value.int .u8 (if i < t.size then bt t i else f i));rw [if_neg e,World.cell?_setCells_out B _ 0 w _ (fun _ _=>.inr (by rw [hl]; show 0+t.size≤i; omega))];exact (h.get i hi).1
theorem Holds.drew {w:World} {B n:Nat} {f:Nat→Int} (h:Holds w B n f):Holds w.drew B n f:=⟨h.get⟩
theorem Holds.congr {w:World} {B n:Nat} {f g:Nat→Int} (h:Holds w B n f) (e:∀ i,i < n→f i=g i):Holds w B n g:=⟨fun i hi=>by rw [← e i hi]; exact h.get i hi⟩
section
variable (n:Nat)
end
def bytesC (a:ByteArray):List Value:=a.data.toList.map fun x=>Value.int .u8 (x.toNat:Int)
def rowC (a:ByteArray) (b:Int):List Value:=bytesC a++[iV b]
theorem bytesC_length (a:ByteArray):(bytesC a).length=a.size:=by unfold bytesC; rw [List.length_map,Array.length_toList]; rfl
theorem rowC_length (a:ByteArray) (b:Int):(rowC a b).length=a.size+1:=by unfold rowC; rw [List.length_append,bytesC_length]; rfl
def hopC (q:Rt):List Value:=rowC q.addr q.bits++[iV q.hop]
def flatH (ms:List Rt):List Value:=ms.flatMap hopC
theorem hopC_length (q:Rt):(hopC q).length=q.addr.size+2:=by unfold hopC; rw [List.length_append,rowC_length]; rfl
section
variable {w W:World} {B o:Nat} {xs ys:List Value}
theorem rangeAt_left (h:w.rangeAt B o (xs++ys)):w.rangeAt B o xs:=fun j v hv=>h j v (by rw [List.getElem?_append_left (List.getElem?_eq_some_iff.1 hv).1]; exact hv)
theorem HoldsL.left (h:HoldsL w B (xs++ys)):w.rangeAt B 0 xs:=rangeAt_left h.at0
end
theorem flatH_get (n:Nat):∀ (ms:List Rt) (hm:∀ q∈ms,q.addr.size=n) (i:Nat) (h:i < ms.length) (j:Nat) (v:Value),(hopC ms[i])[j]?=some v→(flatH ms)[i*(n+2)+j]?=some v
 | [],_,i,h,_,_,_=>by simp at h
 | q::ms,hm,0,h,j,v,hv=>by
  have hv:(hopC q)[j]?=some v:=hv;unfold flatH;rw [List.flatMap_cons,Nat.zero_mul,Nat.zero_add,List.getElem?_append_left (List.getElem?_eq_some_iff.1 hv).1]; exact hv
 | q::ms,hm,i+1,h,j,v,hv=>by
  have ih:=flatH_get n ms (fun x hx=>hm x (by simp [hx])) i (by simpa using h) j v (by simpa using hv);unfold flatH at *;have hl:(hopC q).length=n+2:=by rw [hopC_length,hm q (by simp)]
  rw [List.flatMap_cons,List.getElem?_append_right (by rw [hl,Nat.succ_mul]; omega),hl];rw [show (i+1)*(n+2)+j-(n+2)=i*(n+2)+j by rw [Nat.succ_mul]; omega];exact ih
def MoreAt (w:World) (n:Nat) (E:TypeId) (mv:Value) (ms:List Rt):Prop:=w.ownsRow 0 E (n+2) mv ms.length (flatH ms)
section
variable {w W:World} {n E:Nat} {mv:Value} {ms:List Rt}
theorem MoreAt.nil:MoreAt w n E (.slice none 0 0) []:=⟨by simp [flatH],.inl ⟨rfl,rfl⟩⟩
theorem MoreAt.shape (h:MoreAt w n E mv ms):(mv=.slice none 0 0∧ms=[])∨∃ g cap,mv=.slice (some ⟨g,0,none⟩) ms.length cap∧ms.length≤cap∧g < w.heap.size:=by
 rcases h.2 with ⟨h1,h2⟩ | ⟨g,cap,cur,h1,_,hg,hc,_⟩
 ·exact .inl ⟨h1,List.length_eq_zero_iff.1 h2⟩
 ·exact .inr ⟨g,cap,h1,hc,(Array.getElem?_eq_some_iff.1 hg).1⟩
theorem MoreAt.one (h:MoreAt w n E mv ms):mv.oneCell'=true:=by
 rcases h.shape with ⟨rfl,_⟩ | ⟨g,cap,rfl,_,_⟩<;>rfl
theorem MoreAt.get {g cap:Nat} (h:MoreAt w n E (.slice (some ⟨g,0,none⟩) ms.length cap) ms) (hm:∀ q∈ms,q.addr.size=n) (i:Nat) (hi:i < ms.length):w.rangeAt g (i*(n+2)) (hopC ms[i]):=fun j v hv=>by
 have hj:j < n+2:=by have:=(List.getElem?_eq_some_iff.1 hv).1; rwa [hopC_length,hm _ (List.getElem_mem hi)] at this
 have hlt:i*(n+2)+j < ms.length*(n+2):=by
  have:=Nat.mul_le_mul_right (n+2) (show i+1≤ms.length from hi);rw [Nat.succ_mul] at this; omega
 rw [World.ownsRow.cellAt h _ hlt];exact flatH_get n ms hm i hi j v hv
theorem MoreAt.kept {row:Option Nat} (h:MoreAt w n E mv ms) (hg:w.grownBy W row) (hne:mv.ownBlock=none∨mv.ownBlock≠row):MoreAt W n E mv ms:=World.ownsRow.kept h hg hne
theorem MoreAt.below (h:MoreAt w n E mv ms) (hB:Below w.heap.size w W):MoreAt W n E mv ms:=h.kept (grown_of_below (r:=none) hB) (by cases mv.ownBlock<;>simp)
end
structure FSt (w:World) (m X:Nat) (cs zs:List Value) (mv:Value) (wx:World):Prop where
 x:HoldsL wx X cs
 z:HoldsL wx (w.heap.size+1) zs
 c:wx.cell? ⟨w.heap.size,m,none⟩=some mv
 b:Below w.heap.size w wx
 le:w.heap.size+1+1≤X
section
variable {w wx wy:World} {m X:Nat} {cs zs:List Value} {mv:Value}
theorem FSt.set (h:FSt w m X cs zs mv wx) (j:Nat) (v:Value):FSt w m X (cs.set j v) zs mv (wx.setCell ⟨X,j,none⟩ v):=by
 have hle:=h.le;exact ⟨h.x.set j v,h.z.setOther (by omega) v,(World.cell?_setCell_other _ _ _ _ (fun e=>by injection e with e1 _; omega)).trans h.c,h.b.setCell (by show w.heap.size≤X; omega) v,hle⟩
theorem FSt.below (h:FSt w m X cs zs mv wx) (hx:0 < cs.length) (hz:0 < zs.length) (hB:Below wx.heap.size wx wy):FSt w m X cs zs mv wy :=
 ⟨h.x.kept hx hB,h.z.kept hz hB,((bcell hB).1 _ _ (World.block_lt_of_cell? wx _ h.c)).trans h.c,h.b.trans (hB.mono h.b.size),h.le⟩
theorem FSt.grown {row:Option Nat} (h:FSt w m X cs zs mv wx) (hx:0 < cs.length) (hz:0 < zs.length) (hg:wx.grownBy wy row) (hr:∀ g,row=some g→w.heap.size+1+1≤g∧g≠X):FSt w m X cs zs mv wy:=by
 have h1:some X≠row:=fun e=>(hr X e.symm).2 rfl
 have h2:some (w.heap.size+1)≠row:=fun e=>by have:=(hr _ e.symm).1; omega
 have h3:some w.heap.size≠row:=fun e=>by have:=(hr _ e.symm).1; omega
 refine ⟨h.x.grown hx hg h1,h.z.grown hz hg h2,hg.cell h.c h3,?_,h.le⟩;exact ⟨hg.os.trans h.b.os,hg.tape.trans h.b.tape,hg.output.trans h.b.output,Nat.le_trans h.b.size hg.size,fun k hk=>by
  rw [hg.block k (Nat.lt_of_lt_of_le hk h.b.size) (fun e=>by have:=(hr k e.symm).1; omega)]; exact h.b.block k hk⟩
theorem FSt.alloc (h:FSt w m X cs zs mv wx) (hx:0 < cs.length) (hz:0 < zs.length) (o:Obj):FSt w m X cs zs mv (wx.alloc o):=h.below hx hz ((Below.refl _ _).alloc (Nat.le_refl _) o)
theorem FSt.drew (h:FSt w m X cs zs mv wx):FSt w m X cs zs mv wx.drew:=⟨h.x.drew,h.z.drew,h.c,h.b.drew,h.le⟩
end
theorem wpSeq_store {P:Program} {Q:Exit→Act→World→Prop} {op:Oper} {a:Act} {w:World} (ty:TypeId) (x y:Operand) (ho:op.op=.store ty x y) (b o:Nat) (cells:Array Value) (hx:a.eval x=.pointer (some ⟨b,o,none⟩)) (hy:a.eval y=.agg cells)
  (ht:w.there b o cells.size) (hi:(P.info? ty).map (·.size)=some cells.size) (h1:cells.all (·.oneCell')=true) (h:Q .normal (a.put op.dst undef) (w.setCells b o cells.toList)):wpSeq P Q [op] a w :=
 fun K' hK=>wp_store_mid ty x y ho b o cells hx hy ht hi h1 (hK _ _ h)
structure PassO (p:Pl) (x:Bb) (q:P4) (now:Int) (ans:No) (ft cd:Int) (ld:Bool) (fl:Fl) (nv:Bo) (gg:Fl):Prop where
 a1:ft≠0→ans=noE ft
 a2:ft=0→ld=false→ans=noE 6
 a3:ft=0→ld=true→cd≠0→ans=noE cd
 tc:ft=0→cd=0→q.proto=6→20≤q.data.size
 sz:ft=0→q.data.size≤20000
 tb:ft=0→cd=0→bibTouchV p x ⟨fl.proto,true,fl.src,fl.sp,fl.dst,peerV fl.proto fl.dp,flagV q.proto q.data⟩ now=nv
 fs:ft=0→cd=0→fl.src.size=4∧fl.dst.size=4
 a4:ft=0→ld=true→cd=0→nv.code≠0→ans=noE nv.code
 a5:ft=0→ld=true→cd=0→nv.code=0→nv.bind.inn.size≠4→ans=noE 11
 ns:ft=0→cd=0→nv.code=0→nv.bind.inn.size≤16
 gs:ft=0→cd=0→nv.code=0→nv.bind.inn.size=4→gg.src.size=4∧gg.dst.size=4
 a6:ft=0→ld=true→cd=0→nv.code=0→nv.bind.inn.size=4→ans=⟨nv.bib,{ q with src:=gg.src,dst:=gg.dst,data:=setData fl gg q.data },p6Zero,0⟩
structure PassI (p:Pl) (x:Bb) (q:P4) (now:Int) (ans:No) (ft cd:Int) (ld:Bool) (fl:Fl) (nv:Bo) (gg:Fl):Prop where
 a1:ft≠0→ans=noE ft
 a2:ft=0→ld=false→ans=noE 6
 a3:ft=0→ld=true→cd≠0→ans=noE cd
 tc:ft=0→cd=0→q.proto=6→20≤q.data.size
 sz:ft=0→q.data.size≤20000
 tb:ft=0→cd=0→bibTouchV p x ⟨fl.proto,false,fl.dst,fl.dp,fl.src,peerV fl.proto fl.sp,flagV q.proto q.data⟩ now=nv
 fs:ft=0→cd=0→fl.src.size=4∧fl.dst.size=4
 a4:ft=0→ld=true→cd=0→nv.code≠0→ans=noE nv.code
 a5:ft=0→ld=true→cd=0→nv.code=0→nv.bind.inn.size≠4→ans=noE 11
 ns:ft=0→cd=0→nv.code=0→nv.bind.inn.size≤16
 gs:ft=0→cd=0→nv.code=0→nv.bind.inn.size=4→gg.src.size=4∧gg.dst.size=4
 a6:ft=0→ld=true→cd=0→nv.code=0→nv.bind.inn.size=4→ans=⟨nv.bib,{ q with src:=gg.src,dst:=gg.dst,data:=setData fl gg q.data },p6Zero,0⟩
theorem passI_is (p:Pl) (x:Bb) (q:P4) (now:Int):∃ nv gg,PassI p x q now (natComeV p x q now) (natFt p x q now) (flowCode q.src q.dst q.proto q.data) (inL p.addrs q.dst) (flowOfV q.src q.dst q.proto q.data) nv gg∧gg=⟨(flowOfV q.src q.dst q.proto q.data).proto,(flowOfV q.src q.dst q.proto q.data).src,nv.bind.inn,if echoP (flowOfV q.src q.dst q.proto q.data).proto=true then nv.bind.inPort else (flowOfV q.src q.dst q.proto q.data).sp,nv.bind.inPort⟩:=by
 obtain ⟨nv,hnv⟩ : ∃ nv,nv=goV p x (comeT (ofFl q.src q.dst q.proto q.data) q.data) now:=⟨_,rfl⟩;refine ⟨nv,_,?_,rfl⟩;have hv:natFt p x q now=0→natComeV p x q now=natComeIn p x q now:=fun h=>by unfold natComeV; rw [if_neg (by simp [h])]
 have hft:natFt p x q now=0→v4Ok q=true:=fun h=>(nat_parts h).2.1
 have hcd:natFt p x q now=0→flowCode q.src q.dst q.proto q.data=ofCode q.src.size q.proto q.data:=fun h=>(flow_four (hft h)).1
 have hfl:natFt p x q now=0→flowCode q.src q.dst q.proto q.data=0→flowOfV q.src q.dst q.proto q.data=ofFl q.src q.dst q.proto q.data:=fun h h2=>(flow_four (hft h)).2 (by rw [← hcd h]; exact h2)
 have hpass:=fun (h:natFt p x q now=0) (h2:flowCode q.src q.dst q.proto q.data=0)=>pass_in (p:=p) (x:=x) (q:=q) (now:=now) h (by rw [← hcd h]; exact h2) (flowOfV q.src q.dst q.proto q.data) (hfl h h2) nv (by rw [hfl h h2]; exact hnv)
 refine ⟨fun h=>?_,fun h hl=>?_,fun h hl c=>?_,fun h c hp=>?_,fun h=>?_,fun h c=>(hpass h c).1,fun h c=>⟨(hpass h c).2.1,(hpass h c).2.2.1⟩,fun h hl c n=>?_,fun h hl c n i=>?_,fun h c n=>?_,fun h c n i=>?_,fun h hl c n i=>?_⟩
 ·unfold natComeV; rw [if_pos h]
 ·rw [hv h]; unfold natComeIn; rw [if_pos hl]
 ·rw [hv h]; unfold natComeIn; rw [if_neg (by rw [hl]; simp)]; rw [if_pos (by rw [← hcd h]; exact c),hcd h]
 ·have c2:ofCode q.src.size q.proto q.data=0:=by rw [← hcd h]; exact c
  rw [hp] at c2; exact tcp_long c2
 ·have:=(v4_sizes (hft h)).2.2.2; omega
 ·rw [hv h]; unfold natComeIn; rw [if_neg (by rw [hl]; simp)]; rw [if_neg (by rw [← hcd h]; simp [c]),← hnv,if_pos n]
 ·rw [hv h]; unfold natComeIn; rw [if_neg (by rw [hl]; simp)]; rw [if_neg (by rw [← hcd h]; simp [c]),← hnv,if_neg (by simp [n]),if_pos i]
 ·exact ((hpass h c).2.2.2 n).1
 ·obtain ⟨G,hG,-,-,e4,e5⟩:=((hpass h c).2.2.2 n).2 i;rw [hG,e4,e5]; exact ⟨(v4_sizes (hft h)).1,i⟩
 ·obtain ⟨G,hG,hG2,hS,e4,e5⟩:=((hpass h c).2.2.2 n).2 i;rw [hv h,hG,hS,e4,e5]; unfold natComeIn;rw [if_neg (by rw [hl]; simp),if_neg (by rw [← hcd h]; simp [c]),← hnv,if_neg (by simp [n]),if_neg (by simp [i]),hG2,hfl h c]
theorem natPassI_any (pa:Option Addr) (pc:Nat) (p:Pl) (ba bo:Option Addr) (ca cb:Nat) (x:Bb) (q:P4) (now:Int) (w:World) (hT:TabB w) (hlp:p.addrs.length≤1048576) (hpc:p.addrs.length≤pc) (hsz:∀ s∈p.addrs,s.size≤1048576) (hl1:x.binds.length≤1048576) (hl2:x.sess.length≤1048576) (hgb:∀ q∈x.binds,BdGood q) (hgs:∀ s∈x.sess,SsGood s) (q1:q.src.size≤1048576) (q2:q.dst.size≤1048576) (q3:q.opts.size≤1048576) (q4:q.data.size≤1048576) (hp:SlIs strL1 1 w pa p.addrs) (hx:BbIs w ba bo x) :
  Calls Tryz.prog 35 #[.iface 80 (.agg #[.slice pa p.addrs.length pc]),plC pa pc p,bbC ba bo ca cb x,p4C q,iV now] w fun e w'=>NoRet w.heap.size (natComeV p x q now) e w'∧Below w.heap.size w w':=by
 obtain ⟨nv,gg,HPS,hgg⟩:=passI_is p x q now;have CFT:Hid (∀ W,Below w.heap.size w W→Cb 47 #[plC pa pc p,bbC ba bo ca cb x,p4C q,iV now] W (iV (natFt p x q now))):=fun W hW=>ip9Ok_any pa pc p ba bo ca cb x q now W hlp hpc hsz hl1 hl2 hgb hgs q1 q2 q3 q4 (hp.below hW) (hx.below hW)
 have CLD:Hid (∀ W,Below w.heap.size w W→Cb 59 #[.iface 80 (.agg #[.slice pa p.addrs.length pc]),.string q.dst] W (.bool (inL p.addrs q.dst))):=fun W hW=>leadsI_any p.addrs q.dst pa pc W hlp (hp.below hW)
 have CFO:Hid (∀ W,Cb 60 #[.string q.src,.string q.dst,iV q.proto,.string q.data] W (fwCO (flowOfV q.src q.dst q.proto q.data) (flowCode q.src q.dst q.proto q.data))):=fun W=>implFlowOf_any _ _ _ _ W q1 q2 q4
 generalize flowOfV q.src q.dst q.proto q.data=fl at *;generalize flowCode q.src q.dst q.proto q.data=cd at *;generalize natFt p x q now=ft at *;generalize natComeV p x q now=ans at *;generalize inL p.addrs q.dst=ld at *;have CTO:Hid (∀ W,Cb 206 #[.agg #[.slice pa p.addrs.length pc],fwC fl] W (tcC ⟨fl.proto,false,fl.dst,fl.dp,fl.src,peerV fl.proto fl.sp,0⟩)):=fun W=>ipTouchI_any fl pa p.addrs.length pc W
 have CFL:Hid (ft=0→cd=0→∀ W,Cb 61 #[iV q.proto,.string q.data] W (iV (flagV q.proto q.data))):=fun h c W=>ipFlags_any _ _ W (HPS.sz h) (HPS.tc h c)
 have CBT:Hid (ft=0→cd=0→∀ W,Below w.heap.size w W→Calls Tryz.prog 62 #[plC pa pc p,bbC ba bo ca cb x,tcC ⟨fl.proto,false,fl.dst,fl.dp,fl.src,peerV fl.proto fl.sp,(flagV q.proto q.data)⟩,iV now] W fun e w'=>BoRet W.heap.size nv e w'∧Below W.heap.size W w'):=fun h c W hW=>by
  have:=implBibTouch_any pa pc p ba bo ca cb x ⟨fl.proto,false,fl.dst,fl.dp,fl.src,peerV fl.proto fl.sp,(flagV q.proto q.data)⟩ now W (hT.below hW) (by dsimp only; have:=HPS.fs h c; omega) (by dsimp only; have:=HPS.fs h c; omega) hlp hpc hsz hl1 hl2 hgb hgs (hp.below hW) (hx.below hW);rw [HPS.tb h c] at this; exact this
 have CTU:Hid (∀ W,Cb 207 #[.agg #[.slice pa p.addrs.length pc],fwC fl,bdC nv.bind] W (fwC gg)):=fun W=>by rw [hgg]; exact ipTurnI_any fl nv.bind pa p.addrs.length pc W
 have CAS:Hid (ft=0→cd=0→nv.code=0→nv.bind.inn.size=4→∀ W,Cb 63 #[p4C q,fwC fl,fwC gg] W (p4C { q with src:=gg.src,dst:=gg.dst,data:=setData fl gg q.data })):=fun h c n i W=>by
  have hf:=HPS.fs h c;have hg:=HPS.gs h c n i;exact asFlow_any q fl gg _ _ W q1 q2 q3 q4 (fun W=>implCarrySet_any fl gg q.data W (by omega) (by omega) (by omega) (by omega) q4 (by omega))
 have HPS:Hid (PassI p x q now ans ft cd ld fl nv gg):=HPS;clear hgg hT hlp hpc hsz hl1 hl2 hgb hgs hp hx q1 q2 q3
 have hmtouch : ∀ W, (method 339 80 (.agg #[.slice pa p.addrs.length pc]) "loop.example/g00314/impl.touch").run Tryz.prog W = .ok (206, .agg #[.slice pa p.addrs.length pc]) W := fun W => by kernel_rfl
 have hmturn : ∀ W, (method 339 80 (.agg #[.slice pa p.addrs.length pc]) "loop.example/g00314/impl.turn").run Tryz.prog W = .ok (207, .agg #[.slice pa p.addrs.length pc]) W := fun W => by kernel_rfl
 unfold plC bbC p4C fwC fwCO tcC bdC at *;dsimp only at *;generalize peerV fl.proto fl.sp=pe at *;generalize hsd:setData fl gg q.data=sd at *;have HSD:Hid (setData fl gg q.data=sd):=hsd;clear hsd;generalize flagV q.proto q.data=fg at *;have HS0:=bx4 w (PlV pa pc p) 48 (BbV ba ca bo cb x) 39 (P4V q) 40 [.slice none 0 0,.slice none 0 0,iV 0,iV 0,.bool false,.bool false,iV 0,iV 0,iV 0,.string ⟨#[]⟩,.string ⟨#[]⟩,.string ⟨#[]⟩,.string ⟨#[]⟩,iV 0,iV 0,iV 0,iV 0,.string ⟨#[]⟩,.string ⟨#[]⟩,.bool false,.bool false,iV 0,iV 0,.string ⟨#[]⟩,iV 0] 44 (by simp) (by simp) (by simp) (by simp)
 skip;have hRw:w.heap.size≤w.heap.size+1+1+1:=by omega
 go_enter Tryz.func35,Tryz.ntmps35
 go_upto_region 1 with fail
 generalize ((aW (aW (aW w (PlV pa pc p) 48) (BbV ba ca bo cb x) 39) (P4V q) 40).alloc (.cells #[.slice none 0 0,.slice none 0 0,iV 0,iV 0,.bool false,.bool false,iV 0,iV 0,iV 0,.string ⟨#[]⟩,.string ⟨#[]⟩,.string ⟨#[]⟩,.string ⟨#[]⟩,iV 0,iV 0,iV 0,iV 0,.string ⟨#[]⟩,.string ⟨#[]⟩,.bool false,.bool false,iV 0,iV 0,.string ⟨#[]⟩,iV 0] 44))=W0 at *;have HHk:=HS0.out.at mE0;have k0:=HHk.cell (j:=0) rfl;have k1:=HHk.cell (j:=1) rfl;have k2:=HHk.cell (j:=2) rfl;have k3:=HHk.cell (j:=3) rfl;have k4:=HHk.cell (j:=4) rfl;have k5:=HHk.cell (j:=5) rfl;have k6:=HHk.cell (j:=6) rfl;have k7:=HHk.cell (j:=7) rfl;have k8:=HHk.cell (j:=8) rfl;have k9:=HHk.cell (j:=9) rfl;clear HHk;have HHl:=HS0.out.at mE1;have l0:=HHl.cell (j:=0) rfl;have l1:=HHl.cell (j:=1) rfl;clear HHl;have HHm:=HS0.out.at mE2;have m0:=HHm.cell (j:=0) rfl;have m1:=HHm.cell (j:=1) rfl;have m2:=HHm.cell (j:=2) rfl;have m3:=HHm.cell (j:=3) rfl;have m4:=HHm.cell (j:=4) rfl;have m5:=HHm.cell (j:=5) rfl;have m6:=HHm.cell (j:=6) rfl;have m7:=HHm.cell (j:=7) rfl;have m8:=HHm.cell (j:=8) rfl;have m9:=HHm.cell (j:=9) rfl;have m10:=HHm.cell (j:=10) rfl;clear HHm;go_wp2_with fail
 refine (CFT.out W0 HS0.out.b).mono ?_;rintro e W1 ⟨rfl,r1⟩;have S1:Hid _:=HS0.out.kept r1;clear r1 HS0 CFT k0 k1 k2 k3 k4 k5 k6 k7 k8 k9 l0 l1 m0 m1 m2 m3 m4 m5 m6 m7 m8 m9 m10;by_cases hft:ft=0
 case neg =>
  have d0:(ft != 0)=true:=by simp [hft]
  have HX:Hid (ans=noE (ft)):=HPS.out.a1 hft;have HTH:Hid (W1.there (w.heap.size+1+1+1) 0 (noL none none 0 0 (noE (ft))).toArray.size):=noL_there (show HoldsL W1 (w.heap.size+1+1+1) (noL none none 0 0 (noE 0)) from S1.out.k _ mE3) _ _ _ _ _;have HRR:Hid (HoldsL (W1.setCells (w.heap.size+1+1+1) 0 (noL none none 0 0 (noE (ft))).toArray.toList) (w.heap.size+1+1+1) (noL none none 0 0 (noE (ft)))):=(show HoldsL W1 (w.heap.size+1+1+1) (noL none none 0 0 (noE 0)) from S1.out.k _ mE3).mid rfl;have RB:Hid (Below w.heap.size w (W1.setCells (w.heap.size+1+1+1) 0 (noL none none 0 0 (noE (ft))).toArray.toList)):=Below.mid S1.out.b hRw _;go_wp2_with (refine wpList_store_mid (by rfl) 44 (.tmp 10) (.tmp 24) (by rfl) (w.heap.size+1+1+1) 0 (noL none none 0 0 (noE (ft))).toArray (by rfl) (by rfl) HTH.out no_info (noL_one _ _ _ _ _) ?_)
  exact bodyPost_ret (results_mid Tryz.results35 _ _ (w.heap.size+1+1+1) (noL none none 0 0 (noE (ft))) _ rfl HRR.out Tryz.underlying44 rfl no_info) rfl (And.intro (by rw [HX.out]; exact noRet_ill _) RB.out)
 have d0:(ft != 0)=false:=by simp [hft]
 go_upto_region 4 with fail
 clear d0;have HHm:=S1.out.at mE2;have m0:=HHm.cell (j:=0) rfl;have m1:=HHm.cell (j:=1) rfl;have m2:=HHm.cell (j:=2) rfl;have m3:=HHm.cell (j:=3) rfl;have m4:=HHm.cell (j:=4) rfl;have m5:=HHm.cell (j:=5) rfl;have m6:=HHm.cell (j:=6) rfl;have m7:=HHm.cell (j:=7) rfl;have m8:=HHm.cell (j:=8) rfl;have m9:=HHm.cell (j:=9) rfl;have m10:=HHm.cell (j:=10) rfl;clear HHm;go_wp2_with fail
 refine (CLD.out W1 S1.out.b).mono ?_;rintro e W2 ⟨rfl,r1⟩;have S2:Hid _:=S1.out.kept r1;clear r1 S1 CLD m0 m1 m2 m3 m4 m5 m6 m7 m8 m9 m10
 cases ld with
 | false =>
  have HX:Hid (ans=noE (6)):=HPS.out.a2 hft rfl;have HTH:Hid (W2.there (w.heap.size+1+1+1) 0 (noL none none 0 0 (noE (6))).toArray.size):=noL_there (show HoldsL W2 (w.heap.size+1+1+1) (noL none none 0 0 (noE 0)) from S2.out.k _ mE3) _ _ _ _ _;have HRR:Hid (HoldsL (W2.setCells (w.heap.size+1+1+1) 0 (noL none none 0 0 (noE (6))).toArray.toList) (w.heap.size+1+1+1) (noL none none 0 0 (noE (6)))):=(show HoldsL W2 (w.heap.size+1+1+1) (noL none none 0 0 (noE 0)) from S2.out.k _ mE3).mid rfl;have RB:Hid (Below w.heap.size w (W2.setCells (w.heap.size+1+1+1) 0 (noL none none 0 0 (noE (6))).toArray.toList)):=Below.mid S2.out.b hRw _;go_wp2_with (refine wpList_store_mid (by rfl) 44 (.tmp 10) (.tmp 30) (by rfl) (w.heap.size+1+1+1) 0 (noL none none 0 0 (noE (6))).toArray (by rfl) (by rfl) HTH.out no_info (noL_one _ _ _ _ _) ?_)
  exact bodyPost_ret (results_mid Tryz.results35 _ _ (w.heap.size+1+1+1) (noL none none 0 0 (noE (6))) _ rfl HRR.out Tryz.underlying44 rfl no_info) rfl (And.intro (by rw [HX.out]; exact noRet_ill _) RB.out)
 | true =>
 go_upto_region 6 with fail
 have HHm:=S2.out.at mE2;have m0:=HHm.cell (j:=0) rfl;have m1:=HHm.cell (j:=1) rfl;have m2:=HHm.cell (j:=2) rfl;have m3:=HHm.cell (j:=3) rfl;have m4:=HHm.cell (j:=4) rfl;have m5:=HHm.cell (j:=5) rfl;have m6:=HHm.cell (j:=6) rfl;have m7:=HHm.cell (j:=7) rfl;have m8:=HHm.cell (j:=8) rfl;have m9:=HHm.cell (j:=9) rfl;have m10:=HHm.cell (j:=10) rfl;clear HHm;go_wp2_with fail
 refine (CFO.out W2).mono ?_;rintro e W3 ⟨rfl,r1⟩;have S4:Hid (Bxs w ((W3.heap.size,[iV fl.proto,.string fl.src,.string fl.dst,iV fl.sp,iV fl.dp,iV cd])::[(w.heap.size,(PlV pa pc p)),(w.heap.size+1,(BbV ba ca bo cb x)),(w.heap.size+1+1,(P4V q)),(w.heap.size+1+1+1,[.slice none 0 0,.slice none 0 0,iV 0,iV 0,.bool false,.bool false,iV 0,iV 0,iV 0,.string ⟨#[]⟩,.string ⟨#[]⟩,.string ⟨#[]⟩,.string ⟨#[]⟩,iV 0,iV 0,iV 0,iV 0,.string ⟨#[]⟩,.string ⟨#[]⟩,.bool false,.bool false,iV 0,iV 0,.string ⟨#[]⟩,iV 0])]) (W3.alloc (.cells #[iV fl.proto,.string fl.src,.string fl.dst,iV fl.sp,iV fl.dp,iV cd] 109))):=(S2.out.kept r1).push [iV fl.proto,.string fl.src,.string fl.dst,iV fl.sp,iV fl.dp,iV cd] (by simp) _;have hFb:w.heap.size+1+1+1 < W3.heap.size:=((S2.out.kept r1).k _ mE3).lt (by simp);clear r1 S2 CFO m0 m1 m2 m3 m4 m5 m6 m7 m8 m9 m10;go_upto_region 7 with fail
 generalize (W3.alloc (.cells #[iV fl.proto,.string fl.src,.string fl.dst,iV fl.sp,iV fl.dp,iV cd] 109))=W4 at *;generalize W3.heap.size=Fb at *;have HHk:=S4.out.at mE0;have k0:=HHk.cell (j:=0) rfl;have k1:=HHk.cell (j:=1) rfl;have k2:=HHk.cell (j:=2) rfl;have k3:=HHk.cell (j:=3) rfl;have k4:=HHk.cell (j:=4) rfl;have k5:=HHk.cell (j:=5) rfl;clear HHk;by_cases hcd:cd=0
 case neg =>
  have d0:(cd != 0)=true:=by simp [hcd]
  have HX:Hid (ans=noE (cd)):=HPS.out.a3 hft rfl hcd;have HTH:Hid (W4.there (w.heap.size+1+1+1) 0 (noL none none 0 0 (noE (cd))).toArray.size):=noL_there (show HoldsL W4 (w.heap.size+1+1+1) (noL none none 0 0 (noE 0)) from S4.out.k _ mE4) _ _ _ _ _;have HRR:Hid (HoldsL (W4.setCells (w.heap.size+1+1+1) 0 (noL none none 0 0 (noE (cd))).toArray.toList) (w.heap.size+1+1+1) (noL none none 0 0 (noE (cd)))):=(show HoldsL W4 (w.heap.size+1+1+1) (noL none none 0 0 (noE 0)) from S4.out.k _ mE4).mid rfl;have RB:Hid (Below w.heap.size w (W4.setCells (w.heap.size+1+1+1) 0 (noL none none 0 0 (noE (cd))).toArray.toList)):=Below.mid S4.out.b hRw _;go_wp2_with (refine wpList_store_mid (by rfl) 44 (.tmp 10) (.tmp 45) (by rfl) (w.heap.size+1+1+1) 0 (noL none none 0 0 (noE (cd))).toArray (by rfl) (by rfl) HTH.out no_info (noL_one _ _ _ _ _) ?_)
  exact bodyPost_ret (results_mid Tryz.results35 _ _ (w.heap.size+1+1+1) (noL none none 0 0 (noE (cd))) _ rfl HRR.out Tryz.underlying44 rfl no_info) rfl (And.intro (by rw [HX.out]; exact noRet_ill _) RB.out)
 have d0:(cd != 0)=false:=by simp [hcd]
 replace CFL:Hid _:=CFL.out hft hcd;replace CBT:Hid _:=CBT.out hft hcd;replace CAS:Hid _:=CAS.out hft hcd;go_upto_region 9 with fail
 clear d0;go_wp2_with fail
 refine (CTO.out W4).mono ?_;rintro e W5 ⟨rfl,r1⟩;have S6:Hid (Bxs w ((W5.heap.size,(TcR fl.proto false fl.dst fl.dp fl.src pe 0))::[(Fb,[iV fl.proto,.string fl.src,.string fl.dst,iV fl.sp,iV fl.dp,iV cd]),(w.heap.size,(PlV pa pc p)),(w.heap.size+1,(BbV ba ca bo cb x)),(w.heap.size+1+1,(P4V q)),(w.heap.size+1+1+1,[.slice none 0 0,.slice none 0 0,iV 0,iV 0,.bool false,.bool false,iV 0,iV 0,iV 0,.string ⟨#[]⟩,.string ⟨#[]⟩,.string ⟨#[]⟩,.string ⟨#[]⟩,iV 0,iV 0,iV 0,iV 0,.string ⟨#[]⟩,.string ⟨#[]⟩,.bool false,.bool false,iV 0,iV 0,.string ⟨#[]⟩,iV 0])]) (W5.alloc (.cells (TcR fl.proto false fl.dst fl.dp fl.src pe 0).toArray 112))):=(S4.out.kept r1).push (TcR fl.proto false fl.dst fl.dp fl.src pe 0) (by simp) _;have hTb:Fb < W5.heap.size:=((S4.out.kept r1).k _ mE0).lt (by simp);clear r1 S4 CTO hmtouch k0 k1 k2 k3 k4 k5;go_upto_region 10 with fail
 generalize (W5.alloc (.cells (TcR fl.proto false fl.dst fl.dp fl.src pe 0).toArray 112))=W6 at *;generalize W5.heap.size=Tb at *;have HHm:=S6.out.at mE4;have m0:=HHm.cell (j:=0) rfl;have m1:=HHm.cell (j:=1) rfl;have m2:=HHm.cell (j:=2) rfl;have m3:=HHm.cell (j:=3) rfl;have m4:=HHm.cell (j:=4) rfl;have m5:=HHm.cell (j:=5) rfl;have m6:=HHm.cell (j:=6) rfl;have m7:=HHm.cell (j:=7) rfl;have m8:=HHm.cell (j:=8) rfl;have m9:=HHm.cell (j:=9) rfl;have m10:=HHm.cell (j:=10) rfl;clear HHm;go_wp2_with fail
 refine (CFL.out W6).mono ?_;rintro e W7 ⟨rfl,r1⟩;have S7:Hid _:=S6.out.kept r1;clear r1 S6 CFL m0 m1 m2 m3 m4 m5 m6 m7 m8 m9 m10;have HHt:=S7.out.at mE0;have tc6:=HHt.cell (j:=6) rfl;have tf6:=HHt.free (j:=6) (by simp);clear HHt;have S8:Hid (Bxs w [(Tb,(TcR fl.proto false fl.dst fl.dp fl.src pe fg)),(Fb,[iV fl.proto,.string fl.src,.string fl.dst,iV fl.sp,iV fl.dp,iV cd]),(w.heap.size,(PlV pa pc p)),(w.heap.size+1,(BbV ba ca bo cb x)),(w.heap.size+1+1,(P4V q)),(w.heap.size+1+1+1,[.slice none 0 0,.slice none 0 0,iV 0,iV 0,.bool false,.bool false,iV 0,iV 0,iV 0,.string ⟨#[]⟩,.string ⟨#[]⟩,.string ⟨#[]⟩,.string ⟨#[]⟩,iV 0,iV 0,iV 0,iV 0,.string ⟨#[]⟩,.string ⟨#[]⟩,.bool false,.bool false,iV 0,iV 0,.string ⟨#[]⟩,iV 0])] (W7.setCell ⟨Tb,6,none⟩ (iV fg))):=⟨fun e he=>by
  simp only [List.mem_cons,List.not_mem_nil,or_false] at he;rcases he with rfl | rfl | rfl | rfl | rfl | rfl
  ·exact (S7.out.k _ mE0).set 6 (iV fg)
  ·exact (S7.out.k _ mE1).setOther (by show Fb≠Tb; omega) _
  ·exact (S7.out.k _ mE2).setOther (by omega) _
  ·exact (S7.out.k _ mE3).setOther (by omega) _
  ·exact (S7.out.k _ mE4).setOther (by omega) _
  ·exact (S7.out.k _ mE5).setOther (by omega) _,S7.out.b.setCell (p:=⟨Tb,6,none⟩) (show w.heap.size≤Tb by omega) _,fun e he=>by
  simp only [List.mem_cons,List.not_mem_nil,or_false] at he;rcases he with rfl | rfl | rfl | rfl | rfl | rfl<;>simp⟩
 clear S7;go_upto_region 11 with fail
 generalize (W7.setCell ⟨Tb,6,none⟩ (iV fg))=W8 at *;clear tc6 tf6;have HHk:=S8.out.at mE2;have k0:=HHk.cell (j:=0) rfl;have k1:=HHk.cell (j:=1) rfl;have k2:=HHk.cell (j:=2) rfl;have k3:=HHk.cell (j:=3) rfl;have k4:=HHk.cell (j:=4) rfl;have k5:=HHk.cell (j:=5) rfl;have k6:=HHk.cell (j:=6) rfl;have k7:=HHk.cell (j:=7) rfl;have k8:=HHk.cell (j:=8) rfl;have k9:=HHk.cell (j:=9) rfl;clear HHk;have HHl:=S8.out.at mE3;have l0:=HHl.cell (j:=0) rfl;have l1:=HHl.cell (j:=1) rfl;clear HHl;have HHm:=S8.out.at mE0;have m0:=HHm.cell (j:=0) rfl;have m1:=HHm.cell (j:=1) rfl;have m2:=HHm.cell (j:=2) rfl;have m3:=HHm.cell (j:=3) rfl;have m4:=HHm.cell (j:=4) rfl;have m5:=HHm.cell (j:=5) rfl;have m6:=HHm.cell (j:=6) rfl;clear HHm;have hR8:w.heap.size+1+1+1 < W8.heap.size:=(S8.out.k _ mE5).lt (by simp);have hw8:w.heap.size≤W8.heap.size:=S8.out.b.size;go_wp2_with fail
 refine (CBT.out W8 S8.out.b).mono ?_;rintro e W9 ⟨⟨a9,b9,c9,d9,rfl,hown⟩,r3⟩;unfold boC;have S10:Hid (Bxs w ((W9.heap.size,[.slice a9 nv.bib.binds.length c9,.slice b9 nv.bib.sess.length d9,iV nv.bind.proto,.string nv.bind.inn,iV nv.bind.inPort,.string nv.bind.out,iV nv.bind.outPort,iV nv.code])::[(Tb,(TcR fl.proto false fl.dst fl.dp fl.src pe fg)),(Fb,[iV fl.proto,.string fl.src,.string fl.dst,iV fl.sp,iV fl.dp,iV cd]),(w.heap.size,(PlV pa pc p)),(w.heap.size+1,(BbV ba ca bo cb x)),(w.heap.size+1+1,(P4V q)),(w.heap.size+1+1+1,[.slice none 0 0,.slice none 0 0,iV 0,iV 0,.bool false,.bool false,iV 0,iV 0,iV 0,.string ⟨#[]⟩,.string ⟨#[]⟩,.string ⟨#[]⟩,.string ⟨#[]⟩,iV 0,iV 0,iV 0,iV 0,.string ⟨#[]⟩,.string ⟨#[]⟩,.bool false,.bool false,iV 0,iV 0,.string ⟨#[]⟩,iV 0])]) (W9.alloc (.cells #[.slice a9 nv.bib.binds.length c9,.slice b9 nv.bib.sess.length d9,iV nv.bind.proto,.string nv.bind.inn,iV nv.bind.inPort,.string nv.bind.out,iV nv.bind.outPort,iV nv.code] 96))):=(S8.out.kept r3).push [.slice a9 nv.bib.binds.length c9,.slice b9 nv.bib.sess.length d9,iV nv.bind.proto,.string nv.bind.inn,iV nv.bind.inPort,.string nv.bind.out,iV nv.bind.outPort,iV nv.code] (by simp) _;have O10:Hid (BbOwn W8.heap.size (W9.alloc (.cells #[.slice a9 nv.bib.binds.length c9,.slice b9 nv.bib.sess.length d9,iV nv.bind.proto,.string nv.bind.inn,iV nv.bind.inPort,.string nv.bind.out,iV nv.bind.outPort,iV nv.code] 96)) a9 b9 nv.bib):=hown.kept ((Below.refl _ _).alloc (Nat.le_refl _) _);have hx9:W8.heap.size≤W9.heap.size:=r3.size;clear r3 hown S8 CBT k0 k1 k2 k3 k4 k5 k6 k7 k8 k9 l0 l1 m0 m1 m2 m3 m4 m5 m6;go_upto_region 12 with fail
 generalize (W9.alloc (.cells #[.slice a9 nv.bib.binds.length c9,.slice b9 nv.bib.sess.length d9,iV nv.bind.proto,.string nv.bind.inn,iV nv.bind.inPort,.string nv.bind.out,iV nv.bind.outPort,iV nv.code] 96))=W10 at *;generalize W9.heap.size=Xb at *;have HHk:=S10.out.at mE0;have k0:=HHk.cell (j:=0) rfl;have k1:=HHk.cell (j:=1) rfl;have k2:=HHk.cell (j:=2) rfl;have k3:=HHk.cell (j:=3) rfl;have k4:=HHk.cell (j:=4) rfl;have k5:=HHk.cell (j:=5) rfl;have k6:=HHk.cell (j:=6) rfl;have k7:=HHk.cell (j:=7) rfl;clear HHk;by_cases hn:nv.code=0
 case neg =>
  have d0:(nv.code != 0)=true:=by simp [hn]
  have HX:Hid (ans=noE (nv.code)):=HPS.out.a4 hft rfl hcd hn;have HTH:Hid (W10.there (w.heap.size+1+1+1) 0 (noL none none 0 0 (noE (nv.code))).toArray.size):=noL_there (show HoldsL W10 (w.heap.size+1+1+1) (noL none none 0 0 (noE 0)) from S10.out.k _ mE6) _ _ _ _ _;have HRR:Hid (HoldsL (W10.setCells (w.heap.size+1+1+1) 0 (noL none none 0 0 (noE (nv.code))).toArray.toList) (w.heap.size+1+1+1) (noL none none 0 0 (noE (nv.code)))):=(show HoldsL W10 (w.heap.size+1+1+1) (noL none none 0 0 (noE 0)) from S10.out.k _ mE6).mid rfl;have RB:Hid (Below w.heap.size w (W10.setCells (w.heap.size+1+1+1) 0 (noL none none 0 0 (noE (nv.code))).toArray.toList)):=Below.mid S10.out.b hRw _;go_wp2_with (refine wpList_store_mid (by rfl) 44 (.tmp 10) (.tmp 66) (by rfl) (w.heap.size+1+1+1) 0 (noL none none 0 0 (noE (nv.code))).toArray (by rfl) (by rfl) HTH.out no_info (noL_one _ _ _ _ _) ?_)
  exact bodyPost_ret (results_mid Tryz.results35 _ _ (w.heap.size+1+1+1) (noL none none 0 0 (noE (nv.code))) _ rfl HRR.out Tryz.underlying44 rfl no_info) rfl (And.intro (by rw [HX.out]; exact noRet_ill _) RB.out)
 have d0:(nv.code != 0)=false:=by simp [hn]
 have hi16:nv.bind.inn.size≤16:=HPS.out.ns hft hcd hn;by_cases hi:nv.bind.inn.size=4
 case neg =>
  have d1:((nv.bind.inn.size:Int) != 4)=true:=by rw [bne_iff_ne]; omega
  have HX:Hid (ans=noE (11)):=HPS.out.a5 hft rfl hcd hn hi;have HTH:Hid (W10.there (w.heap.size+1+1+1) 0 (noL none none 0 0 (noE (11))).toArray.size):=noL_there (show HoldsL W10 (w.heap.size+1+1+1) (noL none none 0 0 (noE 0)) from S10.out.k _ mE6) _ _ _ _ _;have HRR:Hid (HoldsL (W10.setCells (w.heap.size+1+1+1) 0 (noL none none 0 0 (noE (11))).toArray.toList) (w.heap.size+1+1+1) (noL none none 0 0 (noE (11)))):=(show HoldsL W10 (w.heap.size+1+1+1) (noL none none 0 0 (noE 0)) from S10.out.k _ mE6).mid rfl;have RB:Hid (Below w.heap.size w (W10.setCells (w.heap.size+1+1+1) 0 (noL none none 0 0 (noE (11))).toArray.toList)):=Below.mid S10.out.b hRw _;go_wp2_with (refine wpList_store_mid (by rfl) 44 (.tmp 10) (.tmp 72) (by rfl) (w.heap.size+1+1+1) 0 (noL none none 0 0 (noE (11))).toArray (by rfl) (by rfl) HTH.out no_info (noL_one _ _ _ _ _) ?_)
  exact bodyPost_ret (results_mid Tryz.results35 _ _ (w.heap.size+1+1+1) (noL none none 0 0 (noE (11))) _ rfl HRR.out Tryz.underlying44 rfl no_info) rfl (And.intro (by rw [HX.out]; exact noRet_ill _) RB.out)
 have d1:((nv.bind.inn.size:Int) != 4)=false:=by rw [bne_eq_false_iff_eq]; omega
 have HX:Hid _:=HPS.out.a6 hft rfl hcd hn hi;replace CAS:Hid _:=CAS.out hn hi;clear HPS;go_upto_region 16 with fail
 clear d0 d1;have HHm:=S10.out.at mE2;have m0:=HHm.cell (j:=0) rfl;have m1:=HHm.cell (j:=1) rfl;have m2:=HHm.cell (j:=2) rfl;have m3:=HHm.cell (j:=3) rfl;have m4:=HHm.cell (j:=4) rfl;have m5:=HHm.cell (j:=5) rfl;clear HHm;go_wp2_with fail
 refine (CTU.out W10).mono ?_;rintro e W11 ⟨rfl,r1⟩;have S12:Hid (Bxs w ((W11.heap.size,(FlV gg))::[(Xb,[.slice a9 nv.bib.binds.length c9,.slice b9 nv.bib.sess.length d9,iV nv.bind.proto,.string nv.bind.inn,iV nv.bind.inPort,.string nv.bind.out,iV nv.bind.outPort,iV nv.code]),(Tb,(TcR fl.proto false fl.dst fl.dp fl.src pe fg)),(Fb,[iV fl.proto,.string fl.src,.string fl.dst,iV fl.sp,iV fl.dp,iV cd]),(w.heap.size,(PlV pa pc p)),(w.heap.size+1,(BbV ba ca bo cb x)),(w.heap.size+1+1,(P4V q)),(w.heap.size+1+1+1,[.slice none 0 0,.slice none 0 0,iV 0,iV 0,.bool false,.bool false,iV 0,iV 0,iV 0,.string ⟨#[]⟩,.string ⟨#[]⟩,.string ⟨#[]⟩,.string ⟨#[]⟩,iV 0,iV 0,iV 0,iV 0,.string ⟨#[]⟩,.string ⟨#[]⟩,.bool false,.bool false,iV 0,iV 0,.string ⟨#[]⟩,iV 0])]) (W11.alloc (.cells (FlV gg).toArray 91))):=(S10.out.kept r1).push (FlV gg) (by simp) _;have O12:Hid (BbOwn W8.heap.size (W11.alloc (.cells (FlV gg).toArray 91)) a9 b9 nv.bib):=(O10.out.kept r1).kept ((Below.refl _ _).alloc (Nat.le_refl _) _);clear r1 S10 O10 CTU hmturn m0 m1 m2 m3 m4 m5 k0 k1 k2 k3 k4 k5 k6 k7;go_upto_region 17 with fail
 generalize (W11.alloc (.cells (FlV gg).toArray 91))=W12 at *;generalize W11.heap.size=Gb at *;have HCP:Hid (∀ wy,Below W12.drew.heap.size W12.drew wy→_):=fun wy hy=>S12.out.kept ((Below.refl _ _).drew.trans hy)
 have HOP:Hid (∀ wy,Below W12.drew.heap.size W12.drew wy→BbOwn W8.heap.size wy a9 b9 nv.bib):=fun wy hy=>O12.out.kept ((Below.refl _ _).drew.trans hy)
 clear S12 O12;refine wp_region_growV [79,80,81,82,83,84,85,86] (by kernel_rfl) (by kernel_rfl) ?_;refine GChV.val (n:=0) (fun v=>[IsV v]) (fun _=>rfl) rfl ?_;apply Exists.intro;refine And.intro ?_ ?_
 ·intro K' a wy ho hd hb hK;rw [wN rfl];have o14:=ho 14 (by decide);simp [slot] at o14;clear hd ho;go_simp;try go_bits
  exact hK _ _ rfl (Below.refl _ _)
 refine GChV.val (n:=1) (fun v=>[_,IsV v]) (fun _=>rfl) rfl ?_;apply Exists.intro;refine And.intro ?_ ?_
 ·intro K' a wy ho hd hb hK;rw [wN rfl];have q0:=hd ⟨0,.data⟩ (by simp) rfl;simp [rAt,IsV,slot] at q0;clear hd ho;have hst:=HCP.out wy hb;have HHk:=hst.at mE6;have k0:=HHk.cell (j:=0) rfl;have k1:=HHk.cell (j:=1) rfl;have k2:=HHk.cell (j:=2) rfl;have k3:=HHk.cell (j:=3) rfl;have k4:=HHk.cell (j:=4) rfl;have k5:=HHk.cell (j:=5) rfl;have k6:=HHk.cell (j:=6) rfl;have k7:=HHk.cell (j:=7) rfl;have k8:=HHk.cell (j:=8) rfl;have k9:=HHk.cell (j:=9) rfl;have k10:=HHk.cell (j:=10) rfl;clear HHk;have HHl:=hst.at mE1;have l0:=HHl.cell (j:=0) rfl;have l1:=HHl.cell (j:=1) rfl;have l2:=HHl.cell (j:=2) rfl;have l3:=HHl.cell (j:=3) rfl;have l4:=HHl.cell (j:=4) rfl;have l5:=HHl.cell (j:=5) rfl;have l6:=HHl.cell (j:=6) rfl;have l7:=HHl.cell (j:=7) rfl;clear HHl;have HHm:=hst.at mE3;have m0:=HHm.cell (j:=0) rfl;have m1:=HHm.cell (j:=1) rfl;have m2:=HHm.cell (j:=2) rfl;have m3:=HHm.cell (j:=3) rfl;have m4:=HHm.cell (j:=4) rfl;have m5:=HHm.cell (j:=5) rfl;clear HHm;have HHn:=hst.at mE0;have n0:=HHn.cell (j:=0) rfl;have n1:=HHn.cell (j:=1) rfl;have n2:=HHn.cell (j:=2) rfl;have n3:=HHn.cell (j:=3) rfl;have n4:=HHn.cell (j:=4) rfl;clear HHn;clear hst;go_simp;try go_bits
  exact hK _ _ rfl (Below.refl _ _)
 refine GChV.val (n:=2) (fun v=>[_,_,IsV v]) (fun _=>rfl) rfl ?_;apply Exists.intro;refine And.intro ?_ ?_
 ·intro K' a wy ho hd hb hK;rw [wN rfl];have o8:=ho 8 (by decide);simp [slot] at o8;clear hd ho;have hst:=HCP.out wy hb;have HHk:=hst.at mE6;have k0:=HHk.cell (j:=0) rfl;have k1:=HHk.cell (j:=1) rfl;have k2:=HHk.cell (j:=2) rfl;have k3:=HHk.cell (j:=3) rfl;have k4:=HHk.cell (j:=4) rfl;have k5:=HHk.cell (j:=5) rfl;have k6:=HHk.cell (j:=6) rfl;have k7:=HHk.cell (j:=7) rfl;have k8:=HHk.cell (j:=8) rfl;have k9:=HHk.cell (j:=9) rfl;have k10:=HHk.cell (j:=10) rfl;clear HHk;have HHl:=hst.at mE1;have l0:=HHl.cell (j:=0) rfl;have l1:=HHl.cell (j:=1) rfl;have l2:=HHl.cell (j:=2) rfl;have l3:=HHl.cell (j:=3) rfl;have l4:=HHl.cell (j:=4) rfl;have l5:=HHl.cell (j:=5) rfl;have l6:=HHl.cell (j:=6) rfl;have l7:=HHl.cell (j:=7) rfl;clear HHl;have HHm:=hst.at mE3;have m0:=HHm.cell (j:=0) rfl;have m1:=HHm.cell (j:=1) rfl;have m2:=HHm.cell (j:=2) rfl;have m3:=HHm.cell (j:=3) rfl;have m4:=HHm.cell (j:=4) rfl;have m5:=HHm.cell (j:=5) rfl;clear HHm;have HHn:=hst.at mE0;have n0:=HHn.cell (j:=0) rfl;have n1:=HHn.cell (j:=1) rfl;have n2:=HHn.cell (j:=2) rfl;have n3:=HHn.cell (j:=3) rfl;have n4:=HHn.cell (j:=4) rfl;clear HHn;clear hst;go_simp;try go_bits
  exact hK _ _ rfl (Below.refl _ _)
 refine GChV.val (n:=3) (fun v=>[_,_,_,IsV v]) (fun _=>rfl) rfl ?_;apply Exists.intro;refine And.intro ?_ ?_
 ·intro K' a wy ho hd hb hK;rw [wN rfl];have o12:=ho 12 (by decide);simp [slot] at o12;clear hd ho;go_simp;try go_bits
  exact hK _ _ rfl (Below.refl _ _)
 refine GChV.val (n:=4) (fun v=>[_,_,_,_,IsV v]) (fun _=>rfl) rfl ?_;apply Exists.intro;refine And.intro ?_ ?_
 ·intro K' a wy ho hd hb hK;rw [wN rfl];have q3:=hd ⟨3,.data⟩ (by simp) rfl;simp [rAt,IsV,slot] at q3;clear hd ho;have hst:=HCP.out wy hb;have HHk:=hst.at mE6;have k0:=HHk.cell (j:=0) rfl;have k1:=HHk.cell (j:=1) rfl;have k2:=HHk.cell (j:=2) rfl;have k3:=HHk.cell (j:=3) rfl;have k4:=HHk.cell (j:=4) rfl;have k5:=HHk.cell (j:=5) rfl;have k6:=HHk.cell (j:=6) rfl;have k7:=HHk.cell (j:=7) rfl;have k8:=HHk.cell (j:=8) rfl;have k9:=HHk.cell (j:=9) rfl;have k10:=HHk.cell (j:=10) rfl;clear HHk;have HHl:=hst.at mE1;have l0:=HHl.cell (j:=0) rfl;have l1:=HHl.cell (j:=1) rfl;have l2:=HHl.cell (j:=2) rfl;have l3:=HHl.cell (j:=3) rfl;have l4:=HHl.cell (j:=4) rfl;have l5:=HHl.cell (j:=5) rfl;have l6:=HHl.cell (j:=6) rfl;have l7:=HHl.cell (j:=7) rfl;clear HHl;have HHm:=hst.at mE3;have m0:=HHm.cell (j:=0) rfl;have m1:=HHm.cell (j:=1) rfl;have m2:=HHm.cell (j:=2) rfl;have m3:=HHm.cell (j:=3) rfl;have m4:=HHm.cell (j:=4) rfl;have m5:=HHm.cell (j:=5) rfl;clear HHm;have HHn:=hst.at mE0;have n0:=HHn.cell (j:=0) rfl;have n1:=HHn.cell (j:=1) rfl;have n2:=HHn.cell (j:=2) rfl;have n3:=HHn.cell (j:=3) rfl;have n4:=HHn.cell (j:=4) rfl;clear HHn;clear hst;go_simp;try go_bits
  exact hK _ _ rfl (Below.refl _ _)
 refine GChV.val (n:=5) (fun v=>[_,_,_,_,_,IsV v]) (fun _=>rfl) rfl ?_;apply Exists.intro;refine And.intro ?_ ?_
 ·intro K' a wy ho hd hb hK;rw [wN rfl];have o15:=ho 15 (by decide);simp [slot] at o15;clear hd ho;have hst:=HCP.out wy hb;have HHk:=hst.at mE6;have k0:=HHk.cell (j:=0) rfl;have k1:=HHk.cell (j:=1) rfl;have k2:=HHk.cell (j:=2) rfl;have k3:=HHk.cell (j:=3) rfl;have k4:=HHk.cell (j:=4) rfl;have k5:=HHk.cell (j:=5) rfl;have k6:=HHk.cell (j:=6) rfl;have k7:=HHk.cell (j:=7) rfl;have k8:=HHk.cell (j:=8) rfl;have k9:=HHk.cell (j:=9) rfl;have k10:=HHk.cell (j:=10) rfl;clear HHk;have HHl:=hst.at mE1;have l0:=HHl.cell (j:=0) rfl;have l1:=HHl.cell (j:=1) rfl;have l2:=HHl.cell (j:=2) rfl;have l3:=HHl.cell (j:=3) rfl;have l4:=HHl.cell (j:=4) rfl;have l5:=HHl.cell (j:=5) rfl;have l6:=HHl.cell (j:=6) rfl;have l7:=HHl.cell (j:=7) rfl;clear HHl;have HHm:=hst.at mE3;have m0:=HHm.cell (j:=0) rfl;have m1:=HHm.cell (j:=1) rfl;have m2:=HHm.cell (j:=2) rfl;have m3:=HHm.cell (j:=3) rfl;have m4:=HHm.cell (j:=4) rfl;have m5:=HHm.cell (j:=5) rfl;clear HHm;have HHn:=hst.at mE0;have n0:=HHn.cell (j:=0) rfl;have n1:=HHn.cell (j:=1) rfl;have n2:=HHn.cell (j:=2) rfl;have n3:=HHn.cell (j:=3) rfl;have n4:=HHn.cell (j:=4) rfl;clear HHn;clear hst;go_simp;try go_bits
  exact hK _ _ rfl (Below.refl _ _)
 refine GChV.val (n:=6) (fun v=>[_,_,_,_,_,_,IsV v]) (fun _=>rfl) rfl ?_;apply Exists.intro;refine And.intro ?_ ?_
 ·intro K' a wy ho hd hb hK;rw [wN rfl];have q2:=hd ⟨2,.data⟩ (by simp) rfl;have q4:=hd ⟨4,.data⟩ (by simp) rfl;have q5:=hd ⟨5,.data⟩ (by simp) rfl;simp [rAt,IsV,slot] at q2 q4 q5;clear hd ho;go_simp;refine (CAS.out wy).mono ?_;rintro e wz ⟨rfl,hz⟩;exact hK _ _ rfl hz
 refine GChV.val (n:=7) (fun v=>[_,_,_,_,_,_,_,IsV v]) (fun _=>rfl) rfl ?_;apply Exists.intro;refine And.intro ?_ ?_
 ·intro K' a wy ho hd hb hK;rw [wN rfl];have q1:=hd ⟨1,.data⟩ (by simp) rfl;have q6:=hd ⟨6,.data⟩ (by simp) rfl;simp [rAt,IsV,slot] at q1 q6;clear hd ho;go_simp;try go_bits
  exact hK _ _ rfl (Below.refl _ _)
 intro X wz hR hz;obtain ⟨x0,x1,x2,x3,x4,x5,x6,x7,-⟩:=hR;simp only [IsV] at x0 x1 x2 x3 x4 x5 x6 x7;simp only [putsFrom,x0,x1,x2,x3,x4,x5,x6,x7];clear x0 x1 x2 x3 x4 x5 x6 x7;have hS:=HCP.out wz hz;have hO:=HOP.out wz hz;have hrb:HoldsL wz (w.heap.size+1+1+1) (noL none none 0 0 (noE 0)):=hS.k _ mE7;have HTH:Hid (wz.there (w.heap.size+1+1+1) 0 (noL a9 b9 c9 d9 ⟨nv.bib,⟨q.tos,q.id,q.whole,q.more,q.off,q.ttl,q.proto,gg.src,gg.dst,q.opts,sd⟩,p6Zero,0⟩).toArray.size):=noL_there hrb _ _ _ _ _;have HRR:Hid (HoldsL (wz.setCells (w.heap.size+1+1+1) 0 (noL a9 b9 c9 d9 ⟨nv.bib,⟨q.tos,q.id,q.whole,q.more,q.off,q.ttl,q.proto,gg.src,gg.dst,q.opts,sd⟩,p6Zero,0⟩).toArray.toList) (w.heap.size+1+1+1) (noL a9 b9 c9 d9 ⟨nv.bib,⟨q.tos,q.id,q.whole,q.more,q.off,q.ttl,q.proto,gg.src,gg.dst,q.opts,sd⟩,p6Zero,0⟩)):=hrb.mid rfl;have RB:Hid (Below w.heap.size w (wz.setCells (w.heap.size+1+1+1) 0 (noL a9 b9 c9 d9 ⟨nv.bib,⟨q.tos,q.id,q.whole,q.more,q.off,q.ttl,q.proto,gg.src,gg.dst,q.opts,sd⟩,p6Zero,0⟩).toArray.toList)):=Below.mid hS.b hRw _;have HOW:Hid (BbOwn w.heap.size (wz.setCells (w.heap.size+1+1+1) 0 (noL a9 b9 c9 d9 ⟨nv.bib,⟨q.tos,q.id,q.whole,q.more,q.off,q.ttl,q.proto,gg.src,gg.dst,q.opts,sd⟩,p6Zero,0⟩).toArray.toList) a9 b9 nv.bib):=(BbOwn.mid hO hR8 _).lowN hw8;clear hS hO hrb HCP HOP;simp only [List.length_cons,List.length_nil,List.drop_succ_cons,List.drop_zero,Nat.zero_add,Nat.reduceAdd];with_reducible refine wpSeq_store 44 (.tmp 10) (.tmp 86) rfl (w.heap.size+1+1+1) 0 (noL a9 b9 c9 d9 ⟨nv.bib,⟨q.tos,q.id,q.whole,q.more,q.off,q.ttl,q.proto,gg.src,gg.dst,q.opts,sd⟩,p6Zero,0⟩).toArray ?_ ?_ ?_ ?_ ?_ ?_
 ·simp [Act.eval,Act.put]
 ·simp [Act.eval,Act.put,noL,p6Zero]
 ·exact HTH.out
 ·exact no_info
 ·exact noL_one _ _ _ _ _
 generalize wz.setCells (w.heap.size+1+1+1) 0 (noL a9 b9 c9 d9 ⟨nv.bib,⟨q.tos,q.id,q.whole,q.more,q.off,q.ttl,q.proto,gg.src,gg.dst,q.opts,sd⟩,p6Zero,0⟩).toArray.toList=WE at *;go_wp2_with fail
 with_reducible refine bodyPost_ret (v:=.agg (noL a9 b9 c9 d9 ⟨nv.bib,⟨q.tos,q.id,q.whole,q.more,q.off,q.ttl,q.proto,gg.src,gg.dst,q.opts,sd⟩,p6Zero,0⟩).toArray) ?_ ?_ ?_
 ·refine results_mid Tryz.results35 _ _ (w.heap.size+1+1+1) (noL a9 b9 c9 d9 ⟨nv.bib,⟨q.tos,q.id,q.whole,q.more,q.off,q.ttl,q.proto,gg.src,gg.dst,q.opts,sd⟩,p6Zero,0⟩) _ ?_ HRR.out Tryz.underlying44 rfl no_info;simp [Act.put]
 ·simp [Act.put]
 ·exact And.intro (by rw [HX.out,HSD.out]; exact ⟨a9,b9,c9,d9,rfl,HOW.out⟩) RB.out
theorem implNatCome_any (pa:Option Addr) (pc:Nat) (p:Pl) (ba bo:Option Addr) (ca cb:Nat) (x:Bb) (q:P4) (now:Int) (w:World) (hT:TabB w) (hlp:p.addrs.length≤1048576) (hpc:p.addrs.length≤pc) (hsz:∀ s∈p.addrs,s.size≤1048576) (hl1:x.binds.length≤1048576) (hl2:x.sess.length≤1048576) (hgb:∀ q∈x.binds,BdGood q) (hgs:∀ s∈x.sess,SsGood s) (q1:q.src.size≤1048576) (q2:q.dst.size≤1048576) (q3:q.opts.size≤1048576) (q4:q.data.size≤1048576) (hp:SlIs strL1 1 w pa p.addrs) (hx:BbIs w ba bo x) :
  Calls Tryz.prog 22 #[plC pa pc p,bbC ba bo ca cb x,p4C q,iV now] w fun e w'=>NoRet w.heap.size (natComeV p x q now) e w'∧Below w.heap.size w w':=by
 have HIN:Hid (∀ W,Below w.heap.size w W→Calls Tryz.prog 35 #[.iface 80 (.agg #[.slice pa p.addrs.length pc]),plC pa pc p,bbC ba bo ca cb x,p4C q,iV now] W fun e w'=>NoRet W.heap.size (natComeV p x q now) e w'∧Below W.heap.size W w'):=fun W hW=>natPassI_any pa pc p ba bo ca cb x q now W (hT.below hW) hlp hpc hsz hl1 hl2 hgb hgs q1 q2 q3 q4 (hp.below hW) (hx.below hW)
 generalize natComeV p x q now=nv at *;clear hT hlp hpc hsz hl1 hl2 hgb hgs hp hx q1 q2 q3 q4;unfold plC bbC p4C at *;have HS0:=bx4 w (PlV pa pc p) 48 (BbV ba ca bo cb x) 39 (P4V q) 40 [.slice none 0 0,.slice none 0 0,iV 0,iV 0,.bool false,.bool false,iV 0,iV 0,iV 0,.string ⟨#[]⟩,.string ⟨#[]⟩,.string ⟨#[]⟩,.string ⟨#[]⟩,iV 0,iV 0,iV 0,iV 0,.string ⟨#[]⟩,.string ⟨#[]⟩,.bool false,.bool false,iV 0,iV 0,.string ⟨#[]⟩,iV 0] 44 (by simp) (by simp) (by simp) (by simp)
 skip;have hRw:w.heap.size≤w.heap.size+1+1+1:=by omega
 go_enter Tryz.func22,Tryz.ntmps22
 go_upto_region 1 with fail
 generalize ((aW (aW (aW w (PlV pa pc p) 48) (BbV ba ca bo cb x) 39) (P4V q) 40).alloc (.cells #[.slice none 0 0,.slice none 0 0,iV 0,iV 0,.bool false,.bool false,iV 0,iV 0,iV 0,.string ⟨#[]⟩,.string ⟨#[]⟩,.string ⟨#[]⟩,.string ⟨#[]⟩,iV 0,iV 0,iV 0,iV 0,.string ⟨#[]⟩,.string ⟨#[]⟩,.bool false,.bool false,iV 0,iV 0,.string ⟨#[]⟩,iV 0] 44))=W0 at *;have HHk:=HS0.out.at mE0;have k0:=HHk.cell (j:=0) rfl;have k1:=HHk.cell (j:=1) rfl;have k2:=HHk.cell (j:=2) rfl;have k3:=HHk.cell (j:=3) rfl;have k4:=HHk.cell (j:=4) rfl;have k5:=HHk.cell (j:=5) rfl;have k6:=HHk.cell (j:=6) rfl;have k7:=HHk.cell (j:=7) rfl;have k8:=HHk.cell (j:=8) rfl;have k9:=HHk.cell (j:=9) rfl;clear HHk;have HHl:=HS0.out.at mE1;have l0:=HHl.cell (j:=0) rfl;have l1:=HHl.cell (j:=1) rfl;clear HHl;have HHm:=HS0.out.at mE2;have m0:=HHm.cell (j:=0) rfl;have m1:=HHm.cell (j:=1) rfl;have m2:=HHm.cell (j:=2) rfl;have m3:=HHm.cell (j:=3) rfl;have m4:=HHm.cell (j:=4) rfl;have m5:=HHm.cell (j:=5) rfl;have m6:=HHm.cell (j:=6) rfl;have m7:=HHm.cell (j:=7) rfl;have m8:=HHm.cell (j:=8) rfl;have m9:=HHm.cell (j:=9) rfl;have m10:=HHm.cell (j:=10) rfl;clear HHm;have hR2:w.heap.size+1+1+1 < W0.heap.size:=(HS0.out.k _ mE3).lt (by simp);have hw2:w.heap.size≤W0.heap.size:=HS0.out.b.size;go_wp2_with fail
 refine (HIN.out W0 HS0.out.b).mono ?_;rintro e W3 ⟨⟨a9,b9,c9,d9,rfl,hown⟩,r3⟩;have S3:Hid _:=HS0.out.kept r3;clear r3 HS0 HIN k0 k1 k2 k3 k4 k5 k6 k7 k8 k9 l0 l1 m0 m1 m2 m3 m4 m5 m6 m7 m8 m9 m10;have HTH:Hid (W3.there (w.heap.size+1+1+1) 0 (noL a9 b9 c9 d9 nv).toArray.size):=noL_there (show HoldsL W3 (w.heap.size+1+1+1) (noL none none 0 0 (noE 0)) from S3.out.k _ mE3) _ _ _ _ _;have HRR:Hid (HoldsL (W3.setCells (w.heap.size+1+1+1) 0 (noL a9 b9 c9 d9 nv).toArray.toList) (w.heap.size+1+1+1) (noL a9 b9 c9 d9 nv)):=(show HoldsL W3 (w.heap.size+1+1+1) (noL none none 0 0 (noE 0)) from S3.out.k _ mE3).mid rfl;have RB:Hid (Below w.heap.size w (W3.setCells (w.heap.size+1+1+1) 0 (noL a9 b9 c9 d9 nv).toArray.toList)):=Below.mid S3.out.b hRw _;have HOW:Hid (BbOwn w.heap.size (W3.setCells (w.heap.size+1+1+1) 0 (noL a9 b9 c9 d9 nv).toArray.toList) a9 b9 nv.bib):=(BbOwn.mid hown hR2 _).lowN hw2;clear hown S3;unfold noC;go_wp2_with (refine wpList_store_mid (by rfl) 44 (.tmp 8) (.tmp 17) (by rfl) (w.heap.size+1+1+1) 0 (noL a9 b9 c9 d9 nv).toArray (by rfl) (by rfl) HTH.out no_info (noL_one _ _ _ _ _) ?_)
 exact bodyPost_ret (results_mid Tryz.results22 _ _ (w.heap.size+1+1+1) (noL a9 b9 c9 d9 nv) _ rfl HRR.out Tryz.underlying44 rfl no_info) rfl (And.intro ⟨a9,b9,c9,d9,rfl,HOW.out⟩ RB.out)
end Go.Proofs.YtcckaeppiamebaaGreatDoor
namespace Go.Proofs.YtcckaeppiamebaaGreatDoor
open Go.RowKit
theorem natComeWalk (a0:Option Addr) (cap0:Nat) (p0:Pl) (a1 b1:Option Addr) (ca1 cb1:Nat) (y1:Bb) (p2:P4) (a3:Int) (w:World) (w0:PlWf p0) (x0:SlIs strL1 1 w a0 p0.addrs) (w1:BbWf y1) (x1:BbIs w a1 b1 y1) (w2:P4Wf p2) (w3:(Lit.int .i64 a3).wf=true) (hE:TabB w) :
  Cb 4 #[plC a0 cap0 p0,bbC a1 b1 ca1 cb1 y1,p4C p2,iV a3] w (.bool true):=by
 have HTB:Hid (TabB w):=hE;clear hE;have HX0:Hid (SlIs strL1 1 w a0 p0.addrs):=x0;have HW0:Hid (PlWf p0):=w0;obtain ⟨s0,hs0⟩ : ∃ s,s=szSl strN p0.addrs 1048576:=⟨_,rfl⟩;have HS0:Hid (s0=szSl strN p0.addrs 1048576):=hs0;have HX1:Hid (BbIs w a1 b1 y1):=x1;have HW1:Hid (BbWf y1):=w1;obtain ⟨s1,hs1⟩ : ∃ s,s=szBb y1 s0:=⟨_,rfl⟩;have HS1:Hid (s1=szBb y1 s0):=hs1;have HW2:Hid (P4Wf p2):=w2;obtain ⟨s2,hs2⟩ : ∃ s,s=szN (v4AN p2) s1:=⟨_,rfl⟩;have HS2:Hid (s2=szN (v4AN p2) s1):=hs2;clear x0 w0 hs0 x1 w1 hs1 w2 hs2;have hr0 : -1≤s0∧s0≤1048576:=by rw [HS0.out]; exact szSl_range strN p0.addrs _ (by omega)
 obtain ⟨hra0,hrb0⟩:=hr0;by_cases hz0:s0 < 0
 case pos =>
  have HZ0:Hid (Below w.heap.size w ((aW (aW w (PlV a0 cap0 p0) 26) (BbV a1 ca1 b1 cb1 y1) 30).alloc (.cells (P4V p2).toArray 32))):=((((Below.refl _ _).alloc (by (try simp only [World.size_alloc]); omega) _).alloc (by (try simp only [World.size_alloc]); omega) _).alloc (by (try simp only [World.size_alloc]); omega) _);have HB0:Hid (HoldsL ((aW (aW w (PlV a0 cap0 p0) 26) (BbV a1 ca1 b1 cb1 y1) 30).alloc (.cells (P4V p2).toArray 32)) (w.heap.size) (PlV a0 cap0 p0)):=by
   have h:=HoldsL.new w (PlV a0 cap0 p0) 26;try simp only [World.size_alloc] at h
   exact ((h.alloc _).alloc _)
  have HB1:Hid (HoldsL ((aW (aW w (PlV a0 cap0 p0) 26) (BbV a1 ca1 b1 cb1 y1) 30).alloc (.cells (P4V p2).toArray 32)) (w.heap.size+1) (BbV a1 ca1 b1 cb1 y1)):=by
   have h:=HoldsL.new (w.alloc (.cells (PlV a0 cap0 p0).toArray 26)) (BbV a1 ca1 b1 cb1 y1) 30;try simp only [World.size_alloc] at h
   exact (h.alloc _)
  have HB2:Hid (HoldsL ((aW (aW w (PlV a0 cap0 p0) 26) (BbV a1 ca1 b1 cb1 y1) 30).alloc (.cells (P4V p2).toArray 32)) (w.heap.size+1+1) (P4V p2)):=by
   have h:=HoldsL.new ((aW w (PlV a0 cap0 p0) 26).alloc (.cells (BbV a1 ca1 b1 cb1 y1).toArray 30)) (P4V p2) 32;try simp only [World.size_alloc] at h
   exact h
  have hun:undef=Value.tuple #[]:=rfl;unfold plC bbC p4C;go_enter Tryz.func4,Tryz.ntmps4
  go_upto_region 1 with fail
  generalize ((aW (aW w (PlV a0 cap0 p0) 26) (BbV a1 ca1 b1 cb1 y1) 30).alloc (.cells (P4V p2).toArray 32))=W0 at *;have A_0:Hid (Below w.heap.size w W0):=HZ0.out;have P0_0:Hid (HoldsL W0 w.heap.size (PlV a0 cap0 p0)):=HB0.out;have P1_0:Hid (HoldsL W0 (w.heap.size+1) (BbV a1 ca1 b1 cb1 y1)):=HB1.out;have P2_0:Hid (HoldsL W0 (w.heap.size+1+1) (P4V p2)):=HB2.out;clear HZ0 HB0 HB1 HB2;have cP00:=P0_0.out.cell (j:=0) rfl;have cP01:=P0_0.out.cell (j:=1) rfl;have cP02:=P0_0.out.cell (j:=2) rfl;have cP03:=P0_0.out.cell (j:=3) rfl;have cP04:=P0_0.out.cell (j:=4) rfl;have cP05:=P0_0.out.cell (j:=5) rfl;have cP06:=P0_0.out.cell (j:=6) rfl;have cP07:=P0_0.out.cell (j:=7) rfl;have cP08:=P0_0.out.cell (j:=8) rfl;have cP09:=P0_0.out.cell (j:=9) rfl;go_wp2_with fail
  refine (szPool_at p0 a0 cap0 1048576 _ HW0.out (HX0.out.below A_0.out) (by omega) (by omega)).mono ?_;rw [← HS0.out];rintro e v1 ⟨rfl,q⟩;clear cP00 cP01 cP02 cP03 cP04 cP05 cP06 cP07 cP08 cP09;have A_1:Hid _:=A_0.out.trans (q.mono A_0.out.size);have P0_1:Hid _:=P0_0.out.kept (by simp) q;have P1_1:Hid _:=P1_0.out.kept (by simp) q;have P2_1:Hid _:=P2_0.out.kept (by simp) q;clear A_0 P0_0 P1_0 P2_0;clear q;go_wp2_with fail
  go_ret;exact ⟨rfl,A_1.out⟩
 have hnn0:0≤s0:=by omega
 have hpi:Hid (p0.addrs.length≤1048576∧∀ s∈p0.addrs,s.size≤1048576):=strs_in (left:=1048576) (by omega) (by omega) (by rw [← HS0.out]; omega);have hpl:=hpi.out.1;have hr1 : -1≤s1∧s1≤s0:=by rw [HS1.out]; exact szBb_range y1 _ (by omega)
 obtain ⟨hra1,hrb1⟩:=hr1;by_cases hz1:s1 < 0
 case pos =>
  have HZ0:Hid (Below w.heap.size w ((aW (aW w (PlV a0 cap0 p0) 26) (BbV a1 ca1 b1 cb1 y1) 30).alloc (.cells (P4V p2).toArray 32))):=((((Below.refl _ _).alloc (by (try simp only [World.size_alloc]); omega) _).alloc (by (try simp only [World.size_alloc]); omega) _).alloc (by (try simp only [World.size_alloc]); omega) _);have HB0:Hid (HoldsL ((aW (aW w (PlV a0 cap0 p0) 26) (BbV a1 ca1 b1 cb1 y1) 30).alloc (.cells (P4V p2).toArray 32)) (w.heap.size) (PlV a0 cap0 p0)):=by
   have h:=HoldsL.new w (PlV a0 cap0 p0) 26;try simp only [World.size_alloc] at h
   exact ((h.alloc _).alloc _)
  have HB1:Hid (HoldsL ((aW (aW w (PlV a0 cap0 p0) 26) (BbV a1 ca1 b1 cb1 y1) 30).alloc (.cells (P4V p2).toArray 32)) (w.heap.size+1) (BbV a1 ca1 b1 cb1 y1)):=by
   have h:=HoldsL.new (w.alloc (.cells (PlV a0 cap0 p0).toArray 26)) (BbV a1 ca1 b1 cb1 y1) 30;try simp only [World.size_alloc] at h
   exact (h.alloc _)
  have HB2:Hid (HoldsL ((aW (aW w (PlV a0 cap0 p0) 26) (BbV a1 ca1 b1 cb1 y1) 30).alloc (.cells (P4V p2).toArray 32)) (w.heap.size+1+1) (P4V p2)):=by
   have h:=HoldsL.new ((aW w (PlV a0 cap0 p0) 26).alloc (.cells (BbV a1 ca1 b1 cb1 y1).toArray 30)) (P4V p2) 32;try simp only [World.size_alloc] at h
   exact h
  have hun:undef=Value.tuple #[]:=rfl;unfold plC bbC p4C;go_enter Tryz.func4,Tryz.ntmps4
  go_upto_region 1 with fail
  generalize ((aW (aW w (PlV a0 cap0 p0) 26) (BbV a1 ca1 b1 cb1 y1) 30).alloc (.cells (P4V p2).toArray 32))=W0 at *;have A_0:Hid (Below w.heap.size w W0):=HZ0.out;have P0_0:Hid (HoldsL W0 w.heap.size (PlV a0 cap0 p0)):=HB0.out;have P1_0:Hid (HoldsL W0 (w.heap.size+1) (BbV a1 ca1 b1 cb1 y1)):=HB1.out;have P2_0:Hid (HoldsL W0 (w.heap.size+1+1) (P4V p2)):=HB2.out;clear HZ0 HB0 HB1 HB2;have cP00:=P0_0.out.cell (j:=0) rfl;have cP01:=P0_0.out.cell (j:=1) rfl;have cP02:=P0_0.out.cell (j:=2) rfl;have cP03:=P0_0.out.cell (j:=3) rfl;have cP04:=P0_0.out.cell (j:=4) rfl;have cP05:=P0_0.out.cell (j:=5) rfl;have cP06:=P0_0.out.cell (j:=6) rfl;have cP07:=P0_0.out.cell (j:=7) rfl;have cP08:=P0_0.out.cell (j:=8) rfl;have cP09:=P0_0.out.cell (j:=9) rfl;go_wp2_with fail
  refine (szPool_at p0 a0 cap0 1048576 _ HW0.out (HX0.out.below A_0.out) (by omega) (by omega)).mono ?_;rw [← HS0.out];rintro e v1 ⟨rfl,q⟩;clear cP00 cP01 cP02 cP03 cP04 cP05 cP06 cP07 cP08 cP09;have A_1:Hid _:=A_0.out.trans (q.mono A_0.out.size);have P0_1:Hid _:=P0_0.out.kept (by simp) q;have P1_1:Hid _:=P1_0.out.kept (by simp) q;have P2_1:Hid _:=P2_0.out.kept (by simp) q;clear A_0 P0_0 P1_0 P2_0;clear q;have cP10:=P1_1.out.cell (j:=0) rfl;have cP11:=P1_1.out.cell (j:=1) rfl;go_wp2_with fail
  refine (szBib_at y1 a1 b1 ca1 cb1 s0 _ HW1.out (HX1.out.below A_1.out) (by omega) (by omega)).mono ?_;rw [← HS1.out];rintro e v2 ⟨rfl,q⟩;clear cP10 cP11;have A_2:Hid _:=A_1.out.trans (q.mono A_1.out.size);have P0_2:Hid _:=P0_1.out.kept (by simp) q;have P1_2:Hid _:=P1_1.out.kept (by simp) q;have P2_2:Hid _:=P2_1.out.kept (by simp) q;clear A_1 P0_1 P1_1 P2_1;clear q;go_wp2_with fail
  go_ret;exact ⟨rfl,A_2.out⟩
 have hnn1:0≤s1:=by omega
 have hbi:Hid (BbSm y1):=bb_in (left:=s0) (by omega) (by omega) (by rw [← HS1.out]; omega);have hbl1:=hbi.out.1;have hbl2:=hbi.out.2.1;have hr2 : -1≤s2∧s2≤s1:=by rw [HS2.out]; exact szN_range _ _ (by omega)
 obtain ⟨hra2,hrb2⟩:=hr2;by_cases hz2:s2 < 0
 case pos =>
  have HZ0:Hid (Below w.heap.size w ((aW (aW w (PlV a0 cap0 p0) 26) (BbV a1 ca1 b1 cb1 y1) 30).alloc (.cells (P4V p2).toArray 32))):=((((Below.refl _ _).alloc (by (try simp only [World.size_alloc]); omega) _).alloc (by (try simp only [World.size_alloc]); omega) _).alloc (by (try simp only [World.size_alloc]); omega) _);have HB0:Hid (HoldsL ((aW (aW w (PlV a0 cap0 p0) 26) (BbV a1 ca1 b1 cb1 y1) 30).alloc (.cells (P4V p2).toArray 32)) (w.heap.size) (PlV a0 cap0 p0)):=by
   have h:=HoldsL.new w (PlV a0 cap0 p0) 26;try simp only [World.size_alloc] at h
   exact ((h.alloc _).alloc _)
  have HB1:Hid (HoldsL ((aW (aW w (PlV a0 cap0 p0) 26) (BbV a1 ca1 b1 cb1 y1) 30).alloc (.cells (P4V p2).toArray 32)) (w.heap.size+1) (BbV a1 ca1 b1 cb1 y1)):=by
   have h:=HoldsL.new (w.alloc (.cells (PlV a0 cap0 p0).toArray 26)) (BbV a1 ca1 b1 cb1 y1) 30;try simp only [World.size_alloc] at h
   exact (h.alloc _)
  have HB2:Hid (HoldsL ((aW (aW w (PlV a0 cap0 p0) 26) (BbV a1 ca1 b1 cb1 y1) 30).alloc (.cells (P4V p2).toArray 32)) (w.heap.size+1+1) (P4V p2)):=by
   have h:=HoldsL.new ((aW w (PlV a0 cap0 p0) 26).alloc (.cells (BbV a1 ca1 b1 cb1 y1).toArray 30)) (P4V p2) 32;try simp only [World.size_alloc] at h
   exact h
  have hun:undef=Value.tuple #[]:=rfl;unfold plC bbC p4C;go_enter Tryz.func4,Tryz.ntmps4
  go_upto_region 1 with fail
  generalize ((aW (aW w (PlV a0 cap0 p0) 26) (BbV a1 ca1 b1 cb1 y1) 30).alloc (.cells (P4V p2).toArray 32))=W0 at *;have A_0:Hid (Below w.heap.size w W0):=HZ0.out;have P0_0:Hid (HoldsL W0 w.heap.size (PlV a0 cap0 p0)):=HB0.out;have P1_0:Hid (HoldsL W0 (w.heap.size+1) (BbV a1 ca1 b1 cb1 y1)):=HB1.out;have P2_0:Hid (HoldsL W0 (w.heap.size+1+1) (P4V p2)):=HB2.out;clear HZ0 HB0 HB1 HB2;have cP00:=P0_0.out.cell (j:=0) rfl;have cP01:=P0_0.out.cell (j:=1) rfl;have cP02:=P0_0.out.cell (j:=2) rfl;have cP03:=P0_0.out.cell (j:=3) rfl;have cP04:=P0_0.out.cell (j:=4) rfl;have cP05:=P0_0.out.cell (j:=5) rfl;have cP06:=P0_0.out.cell (j:=6) rfl;have cP07:=P0_0.out.cell (j:=7) rfl;have cP08:=P0_0.out.cell (j:=8) rfl;have cP09:=P0_0.out.cell (j:=9) rfl;go_wp2_with fail
  refine (szPool_at p0 a0 cap0 1048576 _ HW0.out (HX0.out.below A_0.out) (by omega) (by omega)).mono ?_;rw [← HS0.out];rintro e v1 ⟨rfl,q⟩;clear cP00 cP01 cP02 cP03 cP04 cP05 cP06 cP07 cP08 cP09;have A_1:Hid _:=A_0.out.trans (q.mono A_0.out.size);have P0_1:Hid _:=P0_0.out.kept (by simp) q;have P1_1:Hid _:=P1_0.out.kept (by simp) q;have P2_1:Hid _:=P2_0.out.kept (by simp) q;clear A_0 P0_0 P1_0 P2_0;clear q;have cP10:=P1_1.out.cell (j:=0) rfl;have cP11:=P1_1.out.cell (j:=1) rfl;go_wp2_with fail
  refine (szBib_at y1 a1 b1 ca1 cb1 s0 _ HW1.out (HX1.out.below A_1.out) (by omega) (by omega)).mono ?_;rw [← HS1.out];rintro e v2 ⟨rfl,q⟩;clear cP10 cP11;have A_2:Hid _:=A_1.out.trans (q.mono A_1.out.size);have P0_2:Hid _:=P0_1.out.kept (by simp) q;have P1_2:Hid _:=P1_1.out.kept (by simp) q;have P2_2:Hid _:=P2_1.out.kept (by simp) q;clear A_1 P0_1 P1_1 P2_1;clear q;have cP20:=P2_2.out.cell (j:=0) rfl;have cP21:=P2_2.out.cell (j:=1) rfl;have cP22:=P2_2.out.cell (j:=2) rfl;have cP23:=P2_2.out.cell (j:=3) rfl;have cP24:=P2_2.out.cell (j:=4) rfl;have cP25:=P2_2.out.cell (j:=5) rfl;have cP26:=P2_2.out.cell (j:=6) rfl;have cP27:=P2_2.out.cell (j:=7) rfl;have cP28:=P2_2.out.cell (j:=8) rfl;have cP29:=P2_2.out.cell (j:=9) rfl;have cP210:=P2_2.out.cell (j:=10) rfl;go_wp2_with fail
  refine (szV4A_at p2 s1 _ HW2.out (by omega) (by omega)).mono ?_;rw [← HS2.out];rintro e v3 ⟨rfl,q⟩;clear cP20 cP21 cP22 cP23 cP24 cP25 cP26 cP27 cP28 cP29 cP210;have A_3:Hid _:=A_2.out.trans (q.mono A_2.out.size);have P0_3:Hid _:=P0_2.out.kept (by simp) q;have P1_3:Hid _:=P1_2.out.kept (by simp) q;have P2_3:Hid _:=P2_2.out.kept (by simp) q;clear A_2 P0_2 P1_2 P2_2;clear q;go_wp2_with fail
  go_ret;exact ⟨rfl,A_3.out⟩
 have hnn2:0≤s2:=by omega
 have hvi:Hid _:=v4N_in (p:=p2) (left:=s1) (by omega) (by rw [← HS2.out]; omega);have HZ0:Hid (Below w.heap.size w ((aW (aW w (PlV a0 cap0 p0) 26) (BbV a1 ca1 b1 cb1 y1) 30).alloc (.cells (P4V p2).toArray 32))):=((((Below.refl _ _).alloc (by (try simp only [World.size_alloc]); omega) _).alloc (by (try simp only [World.size_alloc]); omega) _).alloc (by (try simp only [World.size_alloc]); omega) _);have HB0:Hid (HoldsL ((aW (aW w (PlV a0 cap0 p0) 26) (BbV a1 ca1 b1 cb1 y1) 30).alloc (.cells (P4V p2).toArray 32)) (w.heap.size) (PlV a0 cap0 p0)):=by
  have h:=HoldsL.new w (PlV a0 cap0 p0) 26;try simp only [World.size_alloc] at h
  exact ((h.alloc _).alloc _)
 have HB1:Hid (HoldsL ((aW (aW w (PlV a0 cap0 p0) 26) (BbV a1 ca1 b1 cb1 y1) 30).alloc (.cells (P4V p2).toArray 32)) (w.heap.size+1) (BbV a1 ca1 b1 cb1 y1)):=by
  have h:=HoldsL.new (w.alloc (.cells (PlV a0 cap0 p0).toArray 26)) (BbV a1 ca1 b1 cb1 y1) 30;try simp only [World.size_alloc] at h
  exact (h.alloc _)
 have HB2:Hid (HoldsL ((aW (aW w (PlV a0 cap0 p0) 26) (BbV a1 ca1 b1 cb1 y1) 30).alloc (.cells (P4V p2).toArray 32)) (w.heap.size+1+1) (P4V p2)):=by
  have h:=HoldsL.new ((aW w (PlV a0 cap0 p0) 26).alloc (.cells (BbV a1 ca1 b1 cb1 y1).toArray 30)) (P4V p2) 32;try simp only [World.size_alloc] at h
  exact h
 have hun:undef=Value.tuple #[]:=rfl;unfold plC bbC p4C;go_enter Tryz.func4,Tryz.ntmps4
 go_upto_region 1 with fail
 generalize ((aW (aW w (PlV a0 cap0 p0) 26) (BbV a1 ca1 b1 cb1 y1) 30).alloc (.cells (P4V p2).toArray 32))=W0 at *;have A_0:Hid (Below w.heap.size w W0):=HZ0.out;have P0_0:Hid (HoldsL W0 w.heap.size (PlV a0 cap0 p0)):=HB0.out;have P1_0:Hid (HoldsL W0 (w.heap.size+1) (BbV a1 ca1 b1 cb1 y1)):=HB1.out;have P2_0:Hid (HoldsL W0 (w.heap.size+1+1) (P4V p2)):=HB2.out;clear HZ0 HB0 HB1 HB2;have cP00:=P0_0.out.cell (j:=0) rfl;have cP01:=P0_0.out.cell (j:=1) rfl;have cP02:=P0_0.out.cell (j:=2) rfl;have cP03:=P0_0.out.cell (j:=3) rfl;have cP04:=P0_0.out.cell (j:=4) rfl;have cP05:=P0_0.out.cell (j:=5) rfl;have cP06:=P0_0.out.cell (j:=6) rfl;have cP07:=P0_0.out.cell (j:=7) rfl;have cP08:=P0_0.out.cell (j:=8) rfl;have cP09:=P0_0.out.cell (j:=9) rfl;go_wp2_with fail
 refine (szPool_at p0 a0 cap0 1048576 _ HW0.out (HX0.out.below A_0.out) (by omega) (by omega)).mono ?_;rw [← HS0.out];rintro e v1 ⟨rfl,q⟩;clear cP00 cP01 cP02 cP03 cP04 cP05 cP06 cP07 cP08 cP09;have A_1:Hid _:=A_0.out.trans (q.mono A_0.out.size);have P0_1:Hid _:=P0_0.out.kept (by simp) q;have P1_1:Hid _:=P1_0.out.kept (by simp) q;have P2_1:Hid _:=P2_0.out.kept (by simp) q;clear A_0 P0_0 P1_0 P2_0;clear q;have cP10:=P1_1.out.cell (j:=0) rfl;have cP11:=P1_1.out.cell (j:=1) rfl;go_wp2_with fail
 refine (szBib_at y1 a1 b1 ca1 cb1 s0 _ HW1.out (HX1.out.below A_1.out) (by omega) (by omega)).mono ?_;rw [← HS1.out];rintro e v2 ⟨rfl,q⟩;clear cP10 cP11;have A_2:Hid _:=A_1.out.trans (q.mono A_1.out.size);have P0_2:Hid _:=P0_1.out.kept (by simp) q;have P1_2:Hid _:=P1_1.out.kept (by simp) q;have P2_2:Hid _:=P2_1.out.kept (by simp) q;clear A_1 P0_1 P1_1 P2_1;clear q;have cP20:=P2_2.out.cell (j:=0) rfl;have cP21:=P2_2.out.cell (j:=1) rfl;have cP22:=P2_2.out.cell (j:=2) rfl;have cP23:=P2_2.out.cell (j:=3) rfl;have cP24:=P2_2.out.cell (j:=4) rfl;have cP25:=P2_2.out.cell (j:=5) rfl;have cP26:=P2_2.out.cell (j:=6) rfl;have cP27:=P2_2.out.cell (j:=7) rfl;have cP28:=P2_2.out.cell (j:=8) rfl;have cP29:=P2_2.out.cell (j:=9) rfl;have cP210:=P2_2.out.cell (j:=10) rfl;go_wp2_with fail
 refine (szV4A_at p2 s1 _ HW2.out (by omega) (by omega)).mono ?_;rw [← HS2.out];rintro e v3 ⟨rfl,q⟩;clear cP20 cP21 cP22 cP23 cP24 cP25 cP26 cP27 cP28 cP29 cP210;have A_3:Hid _:=A_2.out.trans (q.mono A_2.out.size);have P0_3:Hid _:=P0_2.out.kept (by simp) q;have P1_3:Hid _:=P1_2.out.kept (by simp) q;have P2_3:Hid _:=P2_2.out.kept (by simp) q;clear A_2 P0_2 P1_2 P2_2;clear q;have HGB:Hid (∀ q∈y1.binds,BdGood q):=fun q hq=>⟨(hbi.out.2.2.1 q hq).1,(hbi.out.2.2.1 q hq).2,(HW1.out.1.2 q hq).1,(HW1.out.1.2 q hq).2.2.1,(HW1.out.1.2 q hq).2.2.2.2⟩
 have HGS:Hid (∀ s∈y1.sess,SsGood s):=fun s hs=>⟨(hbi.out.2.2.2 s hs).1,(hbi.out.2.2.2 s hs).2,(HW1.out.2.2 s hs).1,(HW1.out.2.2 s hs).2.2.1⟩
 have hzP:w.heap.size+1+1 < v3.heap.size:=P2_3.out.lt (by simp);obtain ⟨o,ho⟩ : ∃ y,y=natComeV p0 y1 p2 a3:=⟨_,rfl⟩;have HSM:Hid (o.bib.binds.length≤1048576∧o.bib.sess.length≤1048576):=by rw [ho]; exact no_len_NatCome p0 y1 p2 a3 hpi.out.2
 obtain ⟨hol1,hol2⟩:=HSM.out;have HSP:Hid (∀ W b ta tb tc td,Below w.heap.size w W→SlIs strL1 1 W (some ⟨b,0,none⟩) p0.addrs→BbIs W ta tb y1→Calls Tryz.prog 21 #[plC (some ⟨b,0,none⟩) p0.addrs.length p0,bbC ta tb tc td y1,p4C p2,iV a3] W fun e w'=>NoRet W.heap.size o e w'∧Below W.heap.size W w'):=fun W b ta tb tc td h0 h h2=>by rw [ho]; exact specNatCome_any _ _ p0 ta tb tc td y1 p2 a3 W hpl (Nat.le_refl _) hpi.out.2 hbl1 hbl2 hvi.out.1 hvi.out.2.1 hvi.out.2.2.1 hvi.out.2.2.2 h h2
 have HIP:Hid (∀ W b ta tb tc td,Below w.heap.size w W→SlIs strL1 1 W (some ⟨b,0,none⟩) p0.addrs→BbIs W ta tb y1→Calls Tryz.prog 22 #[plC (some ⟨b,0,none⟩) p0.addrs.length p0,bbC ta tb tc td y1,p4C p2,iV a3] W fun e w'=>NoRet W.heap.size o e w'∧Below W.heap.size W w'):=fun W b ta tb tc td h0 h h2=>by rw [ho]; exact implNatCome_any _ _ p0 ta tb tc td y1 p2 a3 W (HTB.out.below h0) hpl (Nat.le_refl _) hpi.out.2 hbl1 hbl2 HGB.out HGS.out hvi.out.1 hvi.out.2.1 hvi.out.2.2.1 hvi.out.2.2.2 h h2
 clear ho;go_upto_region 11 with fail
 go_cut [10] (fun v wx=>∃ (g6:Nat) (oa ob:Option Addr) (oc od:Nat),v=.pointer (some ⟨g6,0,none⟩)∧v3.heap.size≤g6∧HoldsL wx g6 (noL oa ob oc od o)∧BbOwn v3.heap.size wx oa ob o.bib∧Below v3.heap.size v3 wx)
 case first =>
  rename_i J K2 hJ hK2;clear hun;have HCP:Hid (∀ wy,Below v3.drew.heap.size v3.drew wy→HoldsL wy w.heap.size (PlV a0 cap0 p0)∧HoldsL wy (w.heap.size+1) (BbV a1 ca1 b1 cb1 y1)∧HoldsL wy (w.heap.size+1+1) (P4V p2)∧Below w.heap.size w wy∧Below v3.heap.size v3 wy):=fun wy hy=>⟨P0_3.out.drew.kept (by simp) hy,P1_3.out.drew.kept (by simp) hy,P2_3.out.drew.kept (by simp) hy,A_3.out.drew.trans (hy.mono A_3.out.size),(Below.refl _ _).drew.trans hy⟩
  refine wp_region_growV [33,34,35,36,37,38,39,40,10] (by kernel_rfl) (by kernel_rfl) ?_;refine GChV.val (n:=0) (fun v=>[IsV v]) (fun _=>rfl) rfl ?_;apply Exists.intro;refine And.intro ?_ ?_
  ·intro K' a wy ho hd hb hK;rw [wN rfl];have o4:=ho 4 (by decide);simp [slot] at o4;clear hd ho;obtain ⟨hq0,hq1,hq2,-,-⟩:=HCP.out wy hb;have u0_0:=hq0.cell (j:=0) rfl;have u0_1:=hq0.cell (j:=1) rfl;have u0_2:=hq0.cell (j:=2) rfl;have u0_3:=hq0.cell (j:=3) rfl;have u0_4:=hq0.cell (j:=4) rfl;have u0_5:=hq0.cell (j:=5) rfl;have u0_6:=hq0.cell (j:=6) rfl;have u0_7:=hq0.cell (j:=7) rfl;have u0_8:=hq0.cell (j:=8) rfl;have u0_9:=hq0.cell (j:=9) rfl;have u1_0:=hq1.cell (j:=0) rfl;have u1_1:=hq1.cell (j:=1) rfl;have u2_0:=hq2.cell (j:=0) rfl;have u2_1:=hq2.cell (j:=1) rfl;have u2_2:=hq2.cell (j:=2) rfl;have u2_3:=hq2.cell (j:=3) rfl;have u2_4:=hq2.cell (j:=4) rfl;have u2_5:=hq2.cell (j:=5) rfl;have u2_6:=hq2.cell (j:=6) rfl;have u2_7:=hq2.cell (j:=7) rfl;have u2_8:=hq2.cell (j:=8) rfl;have u2_9:=hq2.cell (j:=9) rfl;have u2_10:=hq2.cell (j:=10) rfl;go_simp;try go_bits
   exact hK _ _ rfl (Below.refl _ _)
  refine GChV.rel (n:=1) (IsPl v3.drew.heap.size p0) (stable_isPl _ _) [_,IsPl v3.drew.heap.size p0] rfl rfl ?_ ?_
  ·intro K' a wy ho hd hb hK;rw [wN rfl];have q0:=hd ⟨0,.data⟩ (by simp) rfl;simp [rAt,IsV,slot] at q0;clear hd ho;go_simp;refine (toPool_any p0 a0 cap0 wy hpl (HX0.out.below (HCP.out wy hb).2.2.2.1)).mono ?_;rintro e wz ⟨⟨gg,rfl,hg,hl⟩,hz⟩;exact hK _ _ ⟨gg,rfl,Nat.le_trans hb.size hg,hl⟩ hz
  refine GChV.val (n:=2) (fun v=>[_,_,IsV v]) (fun _=>rfl) rfl ?_;apply Exists.intro;refine And.intro ?_ ?_
  ·intro K' a wy ho hd hb hK;rw [wN rfl];have o5:=ho 5 (by decide);simp [slot] at o5;clear hd ho;obtain ⟨hq0,hq1,hq2,-,-⟩:=HCP.out wy hb;have u0_0:=hq0.cell (j:=0) rfl;have u0_1:=hq0.cell (j:=1) rfl;have u0_2:=hq0.cell (j:=2) rfl;have u0_3:=hq0.cell (j:=3) rfl;have u0_4:=hq0.cell (j:=4) rfl;have u0_5:=hq0.cell (j:=5) rfl;have u0_6:=hq0.cell (j:=6) rfl;have u0_7:=hq0.cell (j:=7) rfl;have u0_8:=hq0.cell (j:=8) rfl;have u0_9:=hq0.cell (j:=9) rfl;have u1_0:=hq1.cell (j:=0) rfl;have u1_1:=hq1.cell (j:=1) rfl;have u2_0:=hq2.cell (j:=0) rfl;have u2_1:=hq2.cell (j:=1) rfl;have u2_2:=hq2.cell (j:=2) rfl;have u2_3:=hq2.cell (j:=3) rfl;have u2_4:=hq2.cell (j:=4) rfl;have u2_5:=hq2.cell (j:=5) rfl;have u2_6:=hq2.cell (j:=6) rfl;have u2_7:=hq2.cell (j:=7) rfl;have u2_8:=hq2.cell (j:=8) rfl;have u2_9:=hq2.cell (j:=9) rfl;have u2_10:=hq2.cell (j:=10) rfl;go_simp;try go_bits
   exact hK _ _ rfl (Below.refl _ _)
  refine GChV.rel (n:=3) (IsBb v3.drew.heap.size y1) (stable_isBb _ _) [_,_,_,IsBb v3.drew.heap.size y1] rfl rfl ?_ ?_
  ·intro K' a wy ho hd hb hK;rw [wN rfl];have q2:=hd ⟨2,.data⟩ (by simp) rfl;simp [rAt,IsV,slot] at q2;clear hd ho;go_simp;refine (toBib_any y1 a1 b1 ca1 cb1 wy hbl1 hbl2 (HX1.out.below (HCP.out wy hb).2.2.2.1)).mono ?_;rintro e wz ⟨⟨xa,xb,xc,xd,rfl,hl⟩,hz⟩;exact hK _ _ ⟨xa,xb,xc,xd,rfl,hl.low hb.size⟩ hz
  refine GChV.val (n:=4) (fun v=>[_,_,_,_,IsV v]) (fun _=>rfl) rfl ?_;apply Exists.intro;refine And.intro ?_ ?_
  ·intro K' a wy ho hd hb hK;rw [wN rfl];have o6:=ho 6 (by decide);simp [slot] at o6;clear hd ho;obtain ⟨hq0,hq1,hq2,-,-⟩:=HCP.out wy hb;have u0_0:=hq0.cell (j:=0) rfl;have u0_1:=hq0.cell (j:=1) rfl;have u0_2:=hq0.cell (j:=2) rfl;have u0_3:=hq0.cell (j:=3) rfl;have u0_4:=hq0.cell (j:=4) rfl;have u0_5:=hq0.cell (j:=5) rfl;have u0_6:=hq0.cell (j:=6) rfl;have u0_7:=hq0.cell (j:=7) rfl;have u0_8:=hq0.cell (j:=8) rfl;have u0_9:=hq0.cell (j:=9) rfl;have u1_0:=hq1.cell (j:=0) rfl;have u1_1:=hq1.cell (j:=1) rfl;have u2_0:=hq2.cell (j:=0) rfl;have u2_1:=hq2.cell (j:=1) rfl;have u2_2:=hq2.cell (j:=2) rfl;have u2_3:=hq2.cell (j:=3) rfl;have u2_4:=hq2.cell (j:=4) rfl;have u2_5:=hq2.cell (j:=5) rfl;have u2_6:=hq2.cell (j:=6) rfl;have u2_7:=hq2.cell (j:=7) rfl;have u2_8:=hq2.cell (j:=8) rfl;have u2_9:=hq2.cell (j:=9) rfl;have u2_10:=hq2.cell (j:=10) rfl;go_simp;try go_bits
   exact hK _ _ rfl (Below.refl _ _)
  refine GChV.val (n:=5) (fun v=>[_,_,_,_,_,IsV v]) (fun _=>rfl) rfl ?_;apply Exists.intro;refine And.intro ?_ ?_
  ·intro K' a wy ho hd hb hK;rw [wN rfl];have q4:=hd ⟨4,.data⟩ (by simp) rfl;simp [rAt,IsV,slot] at q4;clear hd ho;go_simp;refine (toV4_any p2 wy).mono ?_;rintro e wz ⟨rfl,hz⟩;exact hK _ _ rfl hz
  refine GChV.val (n:=6) (fun v=>[_,_,_,_,_,_,IsV v]) (fun _=>rfl) rfl ?_;apply Exists.intro;refine And.intro ?_ ?_
  ·intro K' a wy ho hd hb hK;rw [wN rfl];have o3:=ho 3 (by decide);simp [slot] at o3;clear hd ho;go_simp;try go_bits
   exact hK _ _ rfl (Below.refl _ _)
  refine GChV.rel (n:=7) (IsNoL v3.drew.heap.size o) (stable_isNoL _ _) [_,_,_,_,_,_,_,IsNoL v3.drew.heap.size o] rfl rfl ?_ ?_
  ·intro K' a wy ho hd hb hK;rw [wN rfl];obtain ⟨g1,e1,b1,l1⟩ : IsPl v3.drew.heap.size p0 (slot a 34) wy:=hd ⟨1,.data⟩ (by simp) rfl;simp [slot] at e1;obtain ⟨xa,xb,xc,xd,e3,l3⟩ : IsBb v3.drew.heap.size y1 (slot a 36) wy:=hd ⟨3,.data⟩ (by simp) rfl;simp [slot] at e3;have q5:=hd ⟨5,.data⟩ (by simp) rfl;have q6:=hd ⟨6,.data⟩ (by simp) rfl;simp [rAt,IsV,slot] at q5 q6;clear hd ho;go_simp;refine (HSP.out wy g1 xa xb xc xd (HCP.out wy hb).2.2.2.1 l1.is l3.is).mono ?_;rintro e wz ⟨⟨oa,ob,oc,od,rfl,hl⟩,hz⟩;exact hK _ _ ⟨oa,ob,oc,od,rfl,hl.low hb.size⟩ hz
  refine GChV.rel (n:=8) (IsZx v3.drew.heap.size [.slice none 0 0,.slice none 0 0,iV 0,iV 0,.bool false,.bool false,iV 0,iV 0,iV 0,.string ⟨#[]⟩,.string ⟨#[]⟩,.string ⟨#[]⟩,.string ⟨#[]⟩,iV 0,iV 0,iV 0,iV 0,.string ⟨#[]⟩,.string ⟨#[]⟩,.bool false,.bool false,iV 0,iV 0,.string ⟨#[]⟩,iV 0]) (stable_isZx _ _ (by simp)) [_,_,_,_,_,_,_,_,IsZx v3.drew.heap.size [.slice none 0 0,.slice none 0 0,iV 0,iV 0,.bool false,.bool false,iV 0,iV 0,iV 0,.string ⟨#[]⟩,.string ⟨#[]⟩,.string ⟨#[]⟩,.string ⟨#[]⟩,iV 0,iV 0,iV 0,iV 0,.string ⟨#[]⟩,.string ⟨#[]⟩,.bool false,.bool false,iV 0,iV 0,.string ⟨#[]⟩,iV 0]] rfl rfl ?_ ?_
  ·intro K' a wy ho hd hb hK;rw [wN rfl];clear hd ho;go_simp;exact hK _ _ ⟨wy.heap.size,rfl,hb.size,HoldsL.new wy [.slice none 0 0,.slice none 0 0,iV 0,iV 0,.bool false,.bool false,iV 0,iV 0,iV 0,.string ⟨#[]⟩,.string ⟨#[]⟩,.string ⟨#[]⟩,.string ⟨#[]⟩,iV 0,iV 0,iV 0,iV 0,.string ⟨#[]⟩,.string ⟨#[]⟩,.bool false,.bool false,iV 0,iV 0,.string ⟨#[]⟩,iV 0] 44⟩ ((Below.refl _ _).alloc (Nat.le_refl _) _)
  intro X wz hR hz;obtain ⟨x0,x1,x2,x3,x4,x5,x6,x7,x8,-⟩:=hR;obtain ⟨oa,ob,oc,od,e7,o5⟩:=x7;obtain ⟨g6,e6,b6,zz6⟩:=x8;obtain ⟨g1,e1,-,-⟩:=x1;obtain ⟨xa,xb,xc,xd,e3,-⟩:=x3;simp only [IsV] at x0 x2 x4 x5 x6;simp only [putsFrom,x0,e1,x2,e3,x4,x5,x6,e7,e6];clear x0 x2 x4 x5 x6;have hz0:Below v3.heap.size v3 wz:=(Below.refl _ _).drew.trans hz;have b6':v3.heap.size≤g6:=b6;have zz7:HoldsL wz g6 (noL none none 0 0 (noE 0)):=zz6;have HTH:Hid (wz.there g6 0 (noL oa ob oc od o).toArray.size):=noL_there zz7 _ _ _ _ _;have HH6:Hid (HoldsL (wz.setCells g6 0 (noL oa ob oc od o).toArray.toList) g6 (noL oa ob oc od o)):=zz7.mid rfl;have HO6:Hid (BbOwn v3.heap.size (wz.setCells g6 0 (noL oa ob oc od o).toArray.toList) oa ob o.bib):=o5.midNe (o5.not_box zz6) _;have HB6:Hid (Below v3.heap.size v3 (wz.setCells g6 0 (noL oa ob oc od o).toArray.toList)):=Below.mid hz0 b6' _;clear o5 zz6 zz7 b6 hz hz0;unfold noC at *;simp only [List.length_cons,List.length_nil,List.drop_succ_cons,List.drop_zero,Nat.zero_add,Nat.reduceAdd];with_reducible refine wpSeq_store 44 (.tmp 10) (.tmp 40) rfl g6 0 (noL oa ob oc od o).toArray ?_ ?_ ?_ ?_ ?_ ?_
  ·first | (simp [Act.eval,Act.put]; done) | (simp [Act.eval,Act.put,slot] at *; assumption)
  ·first | (simp [Act.eval,Act.put,noL]; done) | (simp [Act.eval,Act.put,slot,noL] at *; assumption)
  ·exact HTH.out
  ·exact no_info
  ·exact noL_one _ _ _ _ _
  simp only [Act.put,List.set_toArray,List.setIfInBounds_toArray,List.set_cons_succ,List.set_cons_zero];show Exit.then _ _ _ _ _;refine hK2 _ _ (hJ _ _ ?_);(repeat apply Exists.intro)
  exact ⟨⟨g6,oa,ob,oc,od,rfl,b6',HH6.out,HO6.out,HB6.out⟩,rfl⟩
 case rest =>
 obtain ⟨g4,oa4,ob4,oc4,od4,rfl,hgl,hgh,hgo,q⟩:=hcut;generalize wc=v4 at *;have A_4:Hid _:=A_3.out.trans (q.mono A_3.out.size);have P0_4:Hid _:=P0_3.out.kept (by simp) q;have P1_4:Hid _:=P1_3.out.kept (by simp) q;have P2_4:Hid _:=P2_3.out.kept (by simp) q;clear A_3 P0_3 P1_3 P2_3;have hz104:v3.heap.size≤v4.heap.size:=q.size;clear q;have S_4:Hid (HoldsL v4 g4 (noL oa4 ob4 oc4 od4 o)):=hgh;have So_4:Hid (BbIn v3.heap.size v4.heap.size v4 oa4 ob4 o.bib):=BbIn.of_own hgo (Nat.le_refl _);have hSl:g4 < v4.heap.size:=hgh.lt (by rw [noL_len]; omega);have hSg:v3.heap.size≤g4:=hgl;clear hgh hgo hgl;have cP00:=P0_4.out.cell (j:=0) rfl;have cP01:=P0_4.out.cell (j:=1) rfl;have cP02:=P0_4.out.cell (j:=2) rfl;have cP03:=P0_4.out.cell (j:=3) rfl;have cP04:=P0_4.out.cell (j:=4) rfl;have cP05:=P0_4.out.cell (j:=5) rfl;have cP06:=P0_4.out.cell (j:=6) rfl;have cP07:=P0_4.out.cell (j:=7) rfl;have cP08:=P0_4.out.cell (j:=8) rfl;have cP09:=P0_4.out.cell (j:=9) rfl;go_wp2_with fail
 refine (toPool_any p0 a0 cap0 _ hpl (HX0.out.below A_4.out)).mono ?_;rintro e v5 ⟨⟨g5,rfl,hg,hl⟩,q⟩;clear cP00 cP01 cP02 cP03 cP04 cP05 cP06 cP07 cP08 cP09;have A_5:Hid _:=A_4.out.trans (q.mono A_4.out.size);have P0_5:Hid _:=P0_4.out.kept (by simp) q;have P1_5:Hid _:=P1_4.out.kept (by simp) q;have P2_5:Hid _:=P2_4.out.kept (by simp) q;have S_5:Hid _:=S_4.out.kept (by rw [noL_len]; omega) q;have So_5:Hid _:=So_4.out.kept q;clear A_4 P0_4 P1_4 P2_4 S_4 So_4;have hz105:v4.heap.size≤v5.heap.size:=q.size;clear q;have T0_5:Hid (SlLaid strL1 1 v5 g5 p0.addrs p0.addrs.length p0.addrs.length):=hl;have hgx:=hg;clear hg hl;unfold plC;have hT:SlIn strL1 1 v4.heap.size v5.heap.size v5 (some ⟨g5,0,none⟩) p0.addrs:=.inr ⟨g5,rfl,hgx,T0_5.out.blk,T0_5.out⟩;clear T0_5;have T0_5:Hid (SlIn strL1 1 v4.heap.size v5.heap.size v5 (some ⟨g5,0,none⟩) p0.addrs):=hT;clear hT;go_upto_region 13 with fail
 have bn:Below v5.heap.size v5 (v5.alloc (.cells (PlV (some ⟨g5,0,none⟩) p0.addrs.length p0).toArray 48)):=(Below.refl _ _).alloc (Nat.le_refl _) _;have hn:HoldsL (v5.alloc (.cells (PlV (some ⟨g5,0,none⟩) p0.addrs.length p0).toArray 48)) v5.heap.size (PlV (some ⟨g5,0,none⟩) p0.addrs.length p0):=HoldsL.new v5 (PlV (some ⟨g5,0,none⟩) p0.addrs.length p0) 48;generalize (v5.alloc (.cells (PlV (some ⟨g5,0,none⟩) p0.addrs.length p0).toArray 48))=v6 at *;have A_6:Hid _:=A_5.out.trans (bn.mono A_5.out.size);have P0_6:Hid _:=P0_5.out.kept (by simp) bn;have P1_6:Hid _:=P1_5.out.kept (by simp) bn;have P2_6:Hid _:=P2_5.out.kept (by simp) bn;have S_6:Hid _:=S_5.out.kept (by rw [noL_len]; omega) bn;have So_6:Hid _:=So_5.out.kept bn;have T0_6:Hid (SlIn strL1 1 v4.heap.size v5.heap.size v6 (some ⟨g5,0,none⟩) p0.addrs):=T0_5.out.kept bn;clear A_5 P0_5 P1_5 P2_5 S_5 So_5 T0_5;have hz106:v5.heap.size≤v6.heap.size:=bn.size;have X_6:Hid (HoldsL v6 v5.heap.size (PlV (some ⟨g5,0,none⟩) p0.addrs.length p0)):=hn;have hXl:v5.heap.size < v6.heap.size:=hn.lt (by simp);clear bn hn;have cP10:=P1_6.out.cell (j:=0) rfl;have cP11:=P1_6.out.cell (j:=1) rfl;go_wp2_with fail
 refine (toBib_any y1 a1 b1 ca1 cb1 _ hbl1 hbl2 (HX1.out.below A_6.out)).mono ?_;rintro e v7 ⟨⟨ta7,tb7,tc7,td7,rfl,ho⟩,q⟩;clear cP10 cP11;have A_7:Hid _:=A_6.out.trans (q.mono A_6.out.size);have P0_7:Hid _:=P0_6.out.kept (by simp) q;have P1_7:Hid _:=P1_6.out.kept (by simp) q;have P2_7:Hid _:=P2_6.out.kept (by simp) q;have S_7:Hid _:=S_6.out.kept (by rw [noL_len]; omega) q;have So_7:Hid _:=So_6.out.kept q;have T0_7:Hid (SlIn strL1 1 v4.heap.size v5.heap.size v7 (some ⟨g5,0,none⟩) p0.addrs):=T0_6.out.kept q;have X_7:Hid _:=X_6.out.kept (by simp) q;clear A_6 P0_6 P1_6 P2_6 S_6 So_6 T0_6 X_6;have hz107:v6.heap.size≤v7.heap.size:=q.size;clear q;have T1_7:Hid (BbOwn v6.heap.size v7 ta7 tb7 y1):=ho;clear ho;unfold bbC;have hT:BbIn v6.heap.size v7.heap.size v7 ta7 tb7 y1:=BbIn.of_own T1_7.out (Nat.le_refl _);clear T1_7;have T1_7:Hid (BbIn v6.heap.size v7.heap.size v7 ta7 tb7 y1):=hT;clear hT;go_upto_region 14 with fail
 have bn:Below v7.heap.size v7 (v7.alloc (.cells (BbV ta7 tc7 tb7 td7 y1).toArray 39)):=(Below.refl _ _).alloc (Nat.le_refl _) _;have hn:HoldsL (v7.alloc (.cells (BbV ta7 tc7 tb7 td7 y1).toArray 39)) v7.heap.size (BbV ta7 tc7 tb7 td7 y1):=HoldsL.new v7 (BbV ta7 tc7 tb7 td7 y1) 39;generalize (v7.alloc (.cells (BbV ta7 tc7 tb7 td7 y1).toArray 39))=v8 at *;have A_8:Hid _:=A_7.out.trans (bn.mono A_7.out.size);have P0_8:Hid _:=P0_7.out.kept (by simp) bn;have P1_8:Hid _:=P1_7.out.kept (by simp) bn;have P2_8:Hid _:=P2_7.out.kept (by simp) bn;have S_8:Hid _:=S_7.out.kept (by rw [noL_len]; omega) bn;have So_8:Hid _:=So_7.out.kept bn;have T0_8:Hid (SlIn strL1 1 v4.heap.size v5.heap.size v8 (some ⟨g5,0,none⟩) p0.addrs):=T0_7.out.kept bn;have X_8:Hid _:=X_7.out.kept (by simp) bn;have T1_8:Hid _:=T1_7.out.kept bn;clear A_7 P0_7 P1_7 P2_7 S_7 So_7 T0_7 X_7 T1_7;have hz108:v7.heap.size≤v8.heap.size:=bn.size;have Y_8:Hid (HoldsL v8 v7.heap.size (BbV ta7 tc7 tb7 td7 y1)):=hn;have hYl:v7.heap.size < v8.heap.size:=hn.lt (by simp);clear bn hn;go_upto_region 14 with fail
 go_cut [13] (fun v wx=>∃ (g6:Nat) (oa ob:Option Addr) (oc od:Nat),v=.pointer (some ⟨g6,0,none⟩)∧v8.heap.size≤g6∧HoldsL wx g6 (noL oa ob oc od o)∧BbOwn v8.heap.size wx oa ob o.bib∧Below v8.heap.size v8 wx)
 case first =>
  rename_i J K2 hJ hK2;clear hun;have HCP:Hid (∀ wy,Below v8.drew.heap.size v8.drew wy→HoldsL wy v5.heap.size (PlV (some ⟨g5,0,none⟩) p0.addrs.length p0)∧HoldsL wy v7.heap.size (BbV ta7 tc7 tb7 td7 y1)∧HoldsL wy (w.heap.size+1+1) (P4V p2)∧Below w.heap.size w wy∧Below v8.heap.size v8 wy):=fun wy hy=>⟨X_8.out.drew.kept (by simp) hy,Y_8.out.drew.kept (by simp) hy,P2_8.out.drew.kept (by simp) hy,A_8.out.drew.trans (hy.mono A_8.out.size),(Below.refl _ _).drew.trans hy⟩
  refine wp_region_growV [45,46,47,48,49,50,13] (by kernel_rfl) (by kernel_rfl) ?_;refine GChV.val (n:=0) (fun v=>[IsV v]) (fun _=>rfl) rfl ?_;apply Exists.intro;refine And.intro ?_ ?_
  ·intro K' a wy ho hd hb hK;rw [wN rfl];have o11:=ho 11 (by decide);simp [slot] at o11;clear hd ho;obtain ⟨hq0,hq1,hq2,-,-⟩:=HCP.out wy hb;have u0_0:=hq0.cell (j:=0) rfl;have u0_1:=hq0.cell (j:=1) rfl;have u0_2:=hq0.cell (j:=2) rfl;have u0_3:=hq0.cell (j:=3) rfl;have u0_4:=hq0.cell (j:=4) rfl;have u0_5:=hq0.cell (j:=5) rfl;have u0_6:=hq0.cell (j:=6) rfl;have u0_7:=hq0.cell (j:=7) rfl;have u0_8:=hq0.cell (j:=8) rfl;have u0_9:=hq0.cell (j:=9) rfl;have u1_0:=hq1.cell (j:=0) rfl;have u1_1:=hq1.cell (j:=1) rfl;have u2_0:=hq2.cell (j:=0) rfl;have u2_1:=hq2.cell (j:=1) rfl;have u2_2:=hq2.cell (j:=2) rfl;have u2_3:=hq2.cell (j:=3) rfl;have u2_4:=hq2.cell (j:=4) rfl;have u2_5:=hq2.cell (j:=5) rfl;have u2_6:=hq2.cell (j:=6) rfl;have u2_7:=hq2.cell (j:=7) rfl;have u2_8:=hq2.cell (j:=8) rfl;have u2_9:=hq2.cell (j:=9) rfl;have u2_10:=hq2.cell (j:=10) rfl;go_simp;try go_bits
   exact hK _ _ rfl (Below.refl _ _)
  refine GChV.val (n:=1) (fun v=>[_,IsV v]) (fun _=>rfl) rfl ?_;apply Exists.intro;refine And.intro ?_ ?_
  ·intro K' a wy ho hd hb hK;rw [wN rfl];have o12:=ho 12 (by decide);simp [slot] at o12;clear hd ho;obtain ⟨hq0,hq1,hq2,-,-⟩:=HCP.out wy hb;have u0_0:=hq0.cell (j:=0) rfl;have u0_1:=hq0.cell (j:=1) rfl;have u0_2:=hq0.cell (j:=2) rfl;have u0_3:=hq0.cell (j:=3) rfl;have u0_4:=hq0.cell (j:=4) rfl;have u0_5:=hq0.cell (j:=5) rfl;have u0_6:=hq0.cell (j:=6) rfl;have u0_7:=hq0.cell (j:=7) rfl;have u0_8:=hq0.cell (j:=8) rfl;have u0_9:=hq0.cell (j:=9) rfl;have u1_0:=hq1.cell (j:=0) rfl;have u1_1:=hq1.cell (j:=1) rfl;have u2_0:=hq2.cell (j:=0) rfl;have u2_1:=hq2.cell (j:=1) rfl;have u2_2:=hq2.cell (j:=2) rfl;have u2_3:=hq2.cell (j:=3) rfl;have u2_4:=hq2.cell (j:=4) rfl;have u2_5:=hq2.cell (j:=5) rfl;have u2_6:=hq2.cell (j:=6) rfl;have u2_7:=hq2.cell (j:=7) rfl;have u2_8:=hq2.cell (j:=8) rfl;have u2_9:=hq2.cell (j:=9) rfl;have u2_10:=hq2.cell (j:=10) rfl;go_simp;try go_bits
   exact hK _ _ rfl (Below.refl _ _)
  refine GChV.val (n:=2) (fun v=>[_,_,IsV v]) (fun _=>rfl) rfl ?_;apply Exists.intro;refine And.intro ?_ ?_
  ·intro K' a wy ho hd hb hK;rw [wN rfl];have o6:=ho 6 (by decide);simp [slot] at o6;clear hd ho;obtain ⟨hq0,hq1,hq2,-,-⟩:=HCP.out wy hb;have u0_0:=hq0.cell (j:=0) rfl;have u0_1:=hq0.cell (j:=1) rfl;have u0_2:=hq0.cell (j:=2) rfl;have u0_3:=hq0.cell (j:=3) rfl;have u0_4:=hq0.cell (j:=4) rfl;have u0_5:=hq0.cell (j:=5) rfl;have u0_6:=hq0.cell (j:=6) rfl;have u0_7:=hq0.cell (j:=7) rfl;have u0_8:=hq0.cell (j:=8) rfl;have u0_9:=hq0.cell (j:=9) rfl;have u1_0:=hq1.cell (j:=0) rfl;have u1_1:=hq1.cell (j:=1) rfl;have u2_0:=hq2.cell (j:=0) rfl;have u2_1:=hq2.cell (j:=1) rfl;have u2_2:=hq2.cell (j:=2) rfl;have u2_3:=hq2.cell (j:=3) rfl;have u2_4:=hq2.cell (j:=4) rfl;have u2_5:=hq2.cell (j:=5) rfl;have u2_6:=hq2.cell (j:=6) rfl;have u2_7:=hq2.cell (j:=7) rfl;have u2_8:=hq2.cell (j:=8) rfl;have u2_9:=hq2.cell (j:=9) rfl;have u2_10:=hq2.cell (j:=10) rfl;go_simp;try go_bits
   exact hK _ _ rfl (Below.refl _ _)
  refine GChV.val (n:=3) (fun v=>[_,_,_,IsV v]) (fun _=>rfl) rfl ?_;apply Exists.intro;refine And.intro ?_ ?_
  ·intro K' a wy ho hd hb hK;rw [wN rfl];have q2:=hd ⟨2,.data⟩ (by simp) rfl;simp [rAt,IsV,slot] at q2;clear hd ho;go_simp;refine (toV4_any p2 wy).mono ?_;rintro e wz ⟨rfl,hz⟩;exact hK _ _ rfl hz
  refine GChV.val (n:=4) (fun v=>[_,_,_,_,IsV v]) (fun _=>rfl) rfl ?_;apply Exists.intro;refine And.intro ?_ ?_
  ·intro K' a wy ho hd hb hK;rw [wN rfl];have o3:=ho 3 (by decide);simp [slot] at o3;clear hd ho;go_simp;try go_bits
   exact hK _ _ rfl (Below.refl _ _)
  refine GChV.rel (n:=5) (IsNoL v8.drew.heap.size o) (stable_isNoL _ _) [_,_,_,_,_,IsNoL v8.drew.heap.size o] rfl rfl ?_ ?_
  ·intro K' a wy ho hd hb hK;rw [wN rfl];have q0:=hd ⟨0,.data⟩ (by simp) rfl;have q1:=hd ⟨1,.data⟩ (by simp) rfl;have q3:=hd ⟨3,.data⟩ (by simp) rfl;have q4:=hd ⟨4,.data⟩ (by simp) rfl;simp [rAt,IsV,slot] at q0 q1 q3 q4;clear hd ho;go_simp;refine (HIP.out wy _ _ _ _ _ (HCP.out wy hb).2.2.2.1 (T0_8.out.kept (HCP.out wy hb).2.2.2.2).is (T1_8.out.kept (HCP.out wy hb).2.2.2.2).is).mono ?_;rintro e wz ⟨⟨oa,ob,oc,od,rfl,hl⟩,hz⟩;exact hK _ _ ⟨oa,ob,oc,od,rfl,hl.low hb.size⟩ hz
  refine GChV.rel (n:=6) (IsZx v8.drew.heap.size [.slice none 0 0,.slice none 0 0,iV 0,iV 0,.bool false,.bool false,iV 0,iV 0,iV 0,.string ⟨#[]⟩,.string ⟨#[]⟩,.string ⟨#[]⟩,.string ⟨#[]⟩,iV 0,iV 0,iV 0,iV 0,.string ⟨#[]⟩,.string ⟨#[]⟩,.bool false,.bool false,iV 0,iV 0,.string ⟨#[]⟩,iV 0]) (stable_isZx _ _ (by simp)) [_,_,_,_,_,_,IsZx v8.drew.heap.size [.slice none 0 0,.slice none 0 0,iV 0,iV 0,.bool false,.bool false,iV 0,iV 0,iV 0,.string ⟨#[]⟩,.string ⟨#[]⟩,.string ⟨#[]⟩,.string ⟨#[]⟩,iV 0,iV 0,iV 0,iV 0,.string ⟨#[]⟩,.string ⟨#[]⟩,.bool false,.bool false,iV 0,iV 0,.string ⟨#[]⟩,iV 0]] rfl rfl ?_ ?_
  ·intro K' a wy ho hd hb hK;rw [wN rfl];clear hd ho;go_simp;exact hK _ _ ⟨wy.heap.size,rfl,hb.size,HoldsL.new wy [.slice none 0 0,.slice none 0 0,iV 0,iV 0,.bool false,.bool false,iV 0,iV 0,iV 0,.string ⟨#[]⟩,.string ⟨#[]⟩,.string ⟨#[]⟩,.string ⟨#[]⟩,iV 0,iV 0,iV 0,iV 0,.string ⟨#[]⟩,.string ⟨#[]⟩,.bool false,.bool false,iV 0,iV 0,.string ⟨#[]⟩,iV 0] 44⟩ ((Below.refl _ _).alloc (Nat.le_refl _) _)
  intro X wz hR hz;obtain ⟨x0,x1,x2,x3,x4,x5,x6,-⟩:=hR;obtain ⟨oa,ob,oc,od,e5,o5⟩:=x5;obtain ⟨g6,e6,b6,zz6⟩:=x6;simp only [IsV] at x0 x1 x2 x3 x4;simp only [putsFrom,x0,x1,x2,x3,x4,e5,e6];clear x0 x1 x2 x3 x4;have hz0:Below v8.heap.size v8 wz:=(Below.refl _ _).drew.trans hz;have b6':v8.heap.size≤g6:=b6;have zz7:HoldsL wz g6 (noL none none 0 0 (noE 0)):=zz6;have HTH:Hid (wz.there g6 0 (noL oa ob oc od o).toArray.size):=noL_there zz7 _ _ _ _ _;have HH6:Hid (HoldsL (wz.setCells g6 0 (noL oa ob oc od o).toArray.toList) g6 (noL oa ob oc od o)):=zz7.mid rfl;have HO6:Hid (BbOwn v8.heap.size (wz.setCells g6 0 (noL oa ob oc od o).toArray.toList) oa ob o.bib):=o5.midNe (o5.not_box zz6) _;have HB6:Hid (Below v8.heap.size v8 (wz.setCells g6 0 (noL oa ob oc od o).toArray.toList)):=Below.mid hz0 b6' _;clear o5 zz6 zz7 b6 hz hz0;unfold noC at *;simp only [List.length_cons,List.length_nil,List.drop_succ_cons,List.drop_zero,Nat.zero_add,Nat.reduceAdd];with_reducible refine wpSeq_store 44 (.tmp 13) (.tmp 50) rfl g6 0 (noL oa ob oc od o).toArray ?_ ?_ ?_ ?_ ?_ ?_
  ·first | (simp [Act.eval,Act.put]; done) | (simp [Act.eval,Act.put,slot] at *; assumption)
  ·first | (simp [Act.eval,Act.put,noL]; done) | (simp [Act.eval,Act.put,slot,noL] at *; assumption)
  ·exact HTH.out
  ·exact no_info
  ·exact noL_one _ _ _ _ _
  simp only [Act.put,List.set_toArray,List.setIfInBounds_toArray,List.set_cons_succ,List.set_cons_zero];show Exit.then _ _ _ _ _;refine hK2 _ _ (hJ _ _ ?_);(repeat apply Exists.intro)
  exact ⟨⟨g6,oa,ob,oc,od,rfl,b6',HH6.out,HO6.out,HB6.out⟩,rfl⟩
 case rest =>
 obtain ⟨g9,oa9,ob9,oc9,od9,rfl,hgl,hgh,hgo,q⟩:=hcut;generalize wc=v9 at *;have A_9:Hid _:=A_8.out.trans (q.mono A_8.out.size);have P0_9:Hid _:=P0_8.out.kept (by simp) q;have P1_9:Hid _:=P1_8.out.kept (by simp) q;have P2_9:Hid _:=P2_8.out.kept (by simp) q;have S_9:Hid _:=S_8.out.kept (by rw [noL_len]; omega) q;have So_9:Hid _:=So_8.out.kept q;have T0_9:Hid (SlIn strL1 1 v4.heap.size v5.heap.size v9 (some ⟨g5,0,none⟩) p0.addrs):=T0_8.out.kept q;have X_9:Hid _:=X_8.out.kept (by simp) q;have T1_9:Hid _:=T1_8.out.kept q;have Y_9:Hid _:=Y_8.out.kept (by simp) q;clear A_8 P0_8 P1_8 P2_8 S_8 So_8 T0_8 X_8 T1_8 Y_8;have hz109:v8.heap.size≤v9.heap.size:=q.size;clear q;have Z_9:Hid (HoldsL v9 g9 (noL oa9 ob9 oc9 od9 o)):=hgh;have Zo_9:Hid (BbIn v8.heap.size v9.heap.size v9 oa9 ob9 o.bib):=BbIn.of_own hgo (Nat.le_refl _);have hZl:g9 < v9.heap.size:=hgh.lt (by rw [noL_len]; omega);have hZg:v8.heap.size≤g9:=hgl;clear hgh hgo hgl;go_wp2_with (first | (refine wpList_load_mid (by rfl) 44 (.tmp 13) (by rfl) g9 0 (by rfl) (noL oa9 ob9 oc9 od9 o) _ Z_9.out.at0 Tryz.underlying44 rfl no_info ?_) | (refine wpList_load_mid (by rfl) 44 (.tmp 10) (by rfl) g4 0 (by rfl) (noL oa4 ob4 oc4 od4 o) _ S_9.out.at0 Tryz.underlying44 rfl no_info ?_))
 refine (eqNatOut_same o _ _ _ _ _ _ _ _ _ hol1 hol2 Zo_9.out.is So_9.out.is).mono ?_;rintro e v10 ⟨rfl,q⟩;have A_10:Hid _:=A_9.out.trans (q.mono A_9.out.size);have P0_10:Hid _:=P0_9.out.kept (by simp) q;have P1_10:Hid _:=P1_9.out.kept (by simp) q;have P2_10:Hid _:=P2_9.out.kept (by simp) q;have S_10:Hid _:=S_9.out.kept (by rw [noL_len]; omega) q;have So_10:Hid _:=So_9.out.kept q;have T0_10:Hid (SlIn strL1 1 v4.heap.size v5.heap.size v10 (some ⟨g5,0,none⟩) p0.addrs):=T0_9.out.kept q;have X_10:Hid _:=X_9.out.kept (by simp) q;have T1_10:Hid _:=T1_9.out.kept q;have Y_10:Hid _:=Y_9.out.kept (by simp) q;have Z_10:Hid _:=Z_9.out.kept (by rw [noL_len]; omega) q;have Zo_10:Hid _:=Zo_9.out.kept q;clear A_9 P0_9 P1_9 P2_9 S_9 So_9 T0_9 X_9 T1_9 Y_9 Z_9 Zo_9;have hz110:v9.heap.size≤v10.heap.size:=q.size;clear q;go_upto_region 17 with fail
 go_cut [59] (fun v wx=>v=.bool false∧Below v10.heap.size v10 wx)
 case first =>
  rename_i J K2 hJ hK2;clear hun;have HCP:Hid (∀ wy,Below v10.drew.heap.size v10.drew wy→HoldsL wy v5.heap.size (PlV (some ⟨g5,0,none⟩) p0.addrs.length p0)∧HoldsL wy w.heap.size (PlV a0 cap0 p0)∧Below w.heap.size w wy∧Below v10.heap.size v10 wy):=fun wy hy=>⟨X_10.out.drew.kept (by simp) hy,P0_10.out.drew.kept (by simp) hy,A_10.out.drew.trans (hy.mono A_10.out.size),(Below.refl _ _).drew.trans hy⟩
  have HE:Hid (∀ wy b2,SlIs strL1 1 wy (some ⟨g5,0,none⟩) p0.addrs→SlIs strL1 1 wy (some ⟨b2,0,none⟩) p0.addrs→Cb 15 #[.agg (PlV (some ⟨g5,0,none⟩) p0.addrs.length p0).toArray,plC (some ⟨b2,0,none⟩) p0.addrs.length p0] wy (.bool true)):=fun wy b2 h1 h2=>eqPool_same p0 _ _ _ _ wy hpl h1 h2
  refine wp_region_growH [55,56,57,58,59] (by kernel_rfl) (by kernel_rfl) ?_;refine GCh.val (n:=0) (fun v=>[IsV v]) (fun _=>rfl) rfl ?_;apply Exists.intro;refine And.intro ?_ ?_
  ·intro K' a wy ho hd hb hK;rw [wN rfl];have o11:=ho 11 (by decide);simp [slot] at o11;clear hd ho;obtain ⟨hq1,hq2,-,-⟩:=HCP.out wy hb;have u0:=hq1.cell (j:=0) rfl;have u1:=hq1.cell (j:=1) rfl;have u2:=hq1.cell (j:=2) rfl;have u3:=hq1.cell (j:=3) rfl;have u4:=hq1.cell (j:=4) rfl;have u5:=hq1.cell (j:=5) rfl;have u6:=hq1.cell (j:=6) rfl;have u7:=hq1.cell (j:=7) rfl;have u8:=hq1.cell (j:=8) rfl;have u9:=hq1.cell (j:=9) rfl;have t0:=hq2.cell (j:=0) rfl;have t1:=hq2.cell (j:=1) rfl;have t2:=hq2.cell (j:=2) rfl;have t3:=hq2.cell (j:=3) rfl;have t4:=hq2.cell (j:=4) rfl;have t5:=hq2.cell (j:=5) rfl;have t6:=hq2.cell (j:=6) rfl;have t7:=hq2.cell (j:=7) rfl;have t8:=hq2.cell (j:=8) rfl;have t9:=hq2.cell (j:=9) rfl;go_simp;try go_bits
   exact hK _ _ rfl (Below.refl _ _)
  refine GCh.val (n:=1) (fun v=>[_,IsV v]) (fun _=>rfl) rfl ?_;apply Exists.intro;refine And.intro ?_ ?_
  ·intro K' a wy ho hd hb hK;rw [wN rfl];have o4:=ho 4 (by decide);simp [slot] at o4;clear hd ho;obtain ⟨hq1,hq2,-,-⟩:=HCP.out wy hb;have u0:=hq1.cell (j:=0) rfl;have u1:=hq1.cell (j:=1) rfl;have u2:=hq1.cell (j:=2) rfl;have u3:=hq1.cell (j:=3) rfl;have u4:=hq1.cell (j:=4) rfl;have u5:=hq1.cell (j:=5) rfl;have u6:=hq1.cell (j:=6) rfl;have u7:=hq1.cell (j:=7) rfl;have u8:=hq1.cell (j:=8) rfl;have u9:=hq1.cell (j:=9) rfl;have t0:=hq2.cell (j:=0) rfl;have t1:=hq2.cell (j:=1) rfl;have t2:=hq2.cell (j:=2) rfl;have t3:=hq2.cell (j:=3) rfl;have t4:=hq2.cell (j:=4) rfl;have t5:=hq2.cell (j:=5) rfl;have t6:=hq2.cell (j:=6) rfl;have t7:=hq2.cell (j:=7) rfl;have t8:=hq2.cell (j:=8) rfl;have t9:=hq2.cell (j:=9) rfl;go_simp;try go_bits
   exact hK _ _ rfl (Below.refl _ _)
  refine GCh.rel (n:=2) (IsPl v10.drew.heap.size p0) (stable_isPl _ _) [_,_,IsPl v10.drew.heap.size p0] rfl rfl ?_ ?_
  ·intro K' a wy ho hd hb hK;rw [wN rfl];have q1:=hd ⟨1,.data⟩ (by simp) rfl;simp [rAt,IsV,slot] at q1;clear hd ho;go_simp;refine (toPool_any p0 a0 cap0 wy hpl (HX0.out.below (HCP.out wy hb).2.2.1)).mono ?_;rintro e wz ⟨⟨gg,rfl,hg,hl⟩,hz⟩;exact hK _ _ ⟨gg,rfl,Nat.le_trans hb.size hg,hl⟩ hz
  refine GCh.val (n:=3) (fun v=>[_,_,_,IsV v]) (fun _=>rfl) rfl ?_;apply Exists.intro;refine And.intro ?_ ?_
  ·intro K' a wy ho hd hb hK;rw [wN rfl];have q0:=hd ⟨0,.data⟩ (by simp) rfl;simp [rAt,IsV,slot] at q0;obtain ⟨g2,e2,b2,l2⟩ : IsPl v10.drew.heap.size p0 (slot a 57) wy:=hd ⟨2,.data⟩ (by simp) rfl;simp [slot] at e2;clear hd ho;go_simp;refine (HE.out wy g2 (T0_10.out.kept (HCP.out wy hb).2.2.2).is l2.is).mono ?_;rintro e wz ⟨rfl,hz⟩;exact hK _ _ rfl hz
  refine GCh.val (n:=4) (fun v=>[_,_,_,_,IsV v]) (fun _=>rfl) rfl ?_;apply Exists.intro;refine And.intro ?_ ?_
  ·intro K' a wy ho hd hb hK;rw [wN rfl];have q3:=hd ⟨3,.data⟩ (by simp) rfl;simp [rAt,IsV,slot] at q3;clear hd ho;go_simp;try go_bits
   exact hK _ _ rfl (Below.refl _ _)
  intro X wz hR hz;obtain ⟨x0,x1,x2,x3,x4,-⟩:=hR;obtain ⟨g2,e2,-,-⟩:=x2;simp only [IsV] at x0 x1 x3 x4;simp only [putsFrom,x0,x1,e2,x3,x4];clear x0 x1 x3 x4;go_simp;refine hK2 _ _ (hJ _ _ ?_);(repeat apply Exists.intro)
  refine ⟨⟨rfl,(Below.refl _ _).drew.trans hz⟩,rfl⟩
 case rest =>
 obtain ⟨rfl,q⟩:=hcut;generalize wc=v11 at *;have A_11:Hid _:=A_10.out.trans (q.mono A_10.out.size);have P0_11:Hid _:=P0_10.out.kept (by simp) q;have P1_11:Hid _:=P1_10.out.kept (by simp) q;have P2_11:Hid _:=P2_10.out.kept (by simp) q;have S_11:Hid _:=S_10.out.kept (by rw [noL_len]; omega) q;have So_11:Hid _:=So_10.out.kept q;have T0_11:Hid (SlIn strL1 1 v4.heap.size v5.heap.size v11 (some ⟨g5,0,none⟩) p0.addrs):=T0_10.out.kept q;have X_11:Hid _:=X_10.out.kept (by simp) q;have T1_11:Hid _:=T1_10.out.kept q;have Y_11:Hid _:=Y_10.out.kept (by simp) q;have Z_11:Hid _:=Z_10.out.kept (by rw [noL_len]; omega) q;have Zo_11:Hid _:=Zo_10.out.kept q;clear A_10 P0_10 P1_10 P2_10 S_10 So_10 T0_10 X_10 T1_10 Y_10 Z_10 Zo_10;have hz111:v10.heap.size≤v11.heap.size:=q.size;clear q;go_upto_region 19 with fail
 go_cut [64] (fun v wx=>v=.bool false∧Below v11.heap.size v11 wx)
 case first =>
  rename_i J K2 hJ hK2;clear hun;have HCP:Hid (∀ wy,Below v11.drew.heap.size v11.drew wy→HoldsL wy v7.heap.size (BbV ta7 tc7 tb7 td7 y1)∧HoldsL wy (w.heap.size+1) (BbV a1 ca1 b1 cb1 y1)∧Below w.heap.size w wy∧Below v11.heap.size v11 wy):=fun wy hy=>⟨Y_11.out.drew.kept (by simp) hy,P1_11.out.drew.kept (by simp) hy,A_11.out.drew.trans (hy.mono A_11.out.size),(Below.refl _ _).drew.trans hy⟩
  have HE:Hid (∀ wy xa xb xc xd,BbIs wy ta7 tb7 y1→BbIs wy xa xb y1→Cb 16 #[.agg (BbV ta7 tc7 tb7 td7 y1).toArray,bbC xa xb xc xd y1] wy (.bool true)):=fun wy xa xb xc xd h1 h2=>eqBib_same y1 _ _ _ _ _ _ _ _ wy hbl1 hbl2 h1 h2
  refine wp_region_growH [60,61,62,63,64] (by kernel_rfl) (by kernel_rfl) ?_;refine GCh.val (n:=0) (fun v=>[IsV v]) (fun _=>rfl) rfl ?_;apply Exists.intro;refine And.intro ?_ ?_
  ·intro K' a wy ho hd hb hK;rw [wN rfl];have o12:=ho 12 (by decide);simp [slot] at o12;clear hd ho;obtain ⟨hq1,hq2,-,-⟩:=HCP.out wy hb;have u0:=hq1.cell (j:=0) rfl;have u1:=hq1.cell (j:=1) rfl;have t0:=hq2.cell (j:=0) rfl;have t1:=hq2.cell (j:=1) rfl;go_simp;try go_bits
   exact hK _ _ rfl (Below.refl _ _)
  refine GCh.val (n:=1) (fun v=>[_,IsV v]) (fun _=>rfl) rfl ?_;apply Exists.intro;refine And.intro ?_ ?_
  ·intro K' a wy ho hd hb hK;rw [wN rfl];have o5:=ho 5 (by decide);simp [slot] at o5;clear hd ho;obtain ⟨hq1,hq2,-,-⟩:=HCP.out wy hb;have u0:=hq1.cell (j:=0) rfl;have u1:=hq1.cell (j:=1) rfl;have t0:=hq2.cell (j:=0) rfl;have t1:=hq2.cell (j:=1) rfl;go_simp;try go_bits
   exact hK _ _ rfl (Below.refl _ _)
  refine GCh.rel (n:=2) (IsBb v11.drew.heap.size y1) (stable_isBb _ _) [_,_,IsBb v11.drew.heap.size y1] rfl rfl ?_ ?_
  ·intro K' a wy ho hd hb hK;rw [wN rfl];have q1:=hd ⟨1,.data⟩ (by simp) rfl;simp [rAt,IsV,slot] at q1;clear hd ho;go_simp;refine (toBib_any y1 a1 b1 ca1 cb1 wy hbl1 hbl2 (HX1.out.below (HCP.out wy hb).2.2.1)).mono ?_;rintro e wz ⟨⟨xa,xb,xc,xd,rfl,hl⟩,hz⟩;exact hK _ _ ⟨xa,xb,xc,xd,rfl,hl.low hb.size⟩ hz
  refine GCh.val (n:=3) (fun v=>[_,_,_,IsV v]) (fun _=>rfl) rfl ?_;apply Exists.intro;refine And.intro ?_ ?_
  ·intro K' a wy ho hd hb hK;rw [wN rfl];have q0:=hd ⟨0,.data⟩ (by simp) rfl;simp [rAt,IsV,slot] at q0;obtain ⟨xa,xb,xc,xd,e2,l2⟩ : IsBb v11.drew.heap.size y1 (slot a 62) wy:=hd ⟨2,.data⟩ (by simp) rfl;simp [slot] at e2;clear hd ho;go_simp;refine (HE.out wy xa xb xc xd (T1_11.out.kept (HCP.out wy hb).2.2.2).is l2.is).mono ?_;rintro e wz ⟨rfl,hz⟩;exact hK _ _ rfl hz
  refine GCh.val (n:=4) (fun v=>[_,_,_,_,IsV v]) (fun _=>rfl) rfl ?_;apply Exists.intro;refine And.intro ?_ ?_
  ·intro K' a wy ho hd hb hK;rw [wN rfl];have q3:=hd ⟨3,.data⟩ (by simp) rfl;simp [rAt,IsV,slot] at q3;clear hd ho;go_simp;try go_bits
   exact hK _ _ rfl (Below.refl _ _)
  intro X wz hR hz;obtain ⟨x0,x1,x2,x3,x4,-⟩:=hR;obtain ⟨xa,xb,xc,xd,e2,-⟩:=x2;simp only [IsV] at x0 x1 x3 x4;simp only [putsFrom,x0,x1,e2,x3,x4];clear x0 x1 x3 x4;go_simp;refine hK2 _ _ (hJ _ _ ?_);(repeat apply Exists.intro)
  refine ⟨⟨rfl,(Below.refl _ _).drew.trans hz⟩,rfl⟩
 case rest =>
 obtain ⟨rfl,q⟩:=hcut;generalize wc=v12 at *;have A_12:Hid _:=A_11.out.trans (q.mono A_11.out.size);have P0_12:Hid _:=P0_11.out.kept (by simp) q;have P1_12:Hid _:=P1_11.out.kept (by simp) q;have P2_12:Hid _:=P2_11.out.kept (by simp) q;have S_12:Hid _:=S_11.out.kept (by rw [noL_len]; omega) q;have So_12:Hid _:=So_11.out.kept q;have T0_12:Hid (SlIn strL1 1 v4.heap.size v5.heap.size v12 (some ⟨g5,0,none⟩) p0.addrs):=T0_11.out.kept q;have X_12:Hid _:=X_11.out.kept (by simp) q;have T1_12:Hid _:=T1_11.out.kept q;have Y_12:Hid _:=Y_11.out.kept (by simp) q;have Z_12:Hid _:=Z_11.out.kept (by rw [noL_len]; omega) q;have Zo_12:Hid _:=Zo_11.out.kept q;clear A_11 P0_11 P1_11 P2_11 S_11 So_11 T0_11 X_11 T1_11 Y_11 Z_11 Zo_11;have hz112:v11.heap.size≤v12.heap.size:=q.size;clear q;have cX0:=X_12.out.cell (j:=0) rfl;have cX1:=X_12.out.cell (j:=1) rfl;have cX2:=X_12.out.cell (j:=2) rfl;have cX3:=X_12.out.cell (j:=3) rfl;have cX4:=X_12.out.cell (j:=4) rfl;have cX5:=X_12.out.cell (j:=5) rfl;have cX6:=X_12.out.cell (j:=6) rfl;have cX7:=X_12.out.cell (j:=7) rfl;have cX8:=X_12.out.cell (j:=8) rfl;have cX9:=X_12.out.cell (j:=9) rfl;obtain ⟨k1,hk1⟩ : ∃ k,k=1+1*p0.addrs.length:=⟨_,rfl⟩;have HK1:Hid (k1=1+1*p0.addrs.length):=hk1;have hk1a:0 < k1:=by omega
 have hk1b:k1≤1048577:=by omega
 clear hk1;obtain ⟨k2,hk2⟩ : ∃ k,k=k1+5*y1.binds.length+7*y1.sess.length:=⟨_,rfl⟩;have HK2:Hid (k2=k1+5*y1.binds.length+7*y1.sess.length):=hk2;clear hk2;obtain ⟨k3,hk3⟩ : ∃ k,k=1+5*o.bib.binds.length+7*o.bib.sess.length:=⟨_,rfl⟩;have HK3:Hid (k3=1+5*o.bib.binds.length+7*o.bib.sess.length):=hk3;clear hk3;go_wp2_with fail
 refine (markPool_out _ _ p0 _ _ 1 _ (by omega) (by omega) T0_12.out).mono ?_;rw [← HK1.out];rintro e v13 ⟨rfl,oo⟩;clear cX0 cX1 cX2 cX3 cX4 cX5 cX6 cX7 cX8 cX9;have A_13:Hid _:=A_12.out.trans (oo.below (by omega) A_12.out.size);have P0_13:Hid _:=P0_12.out.outOf (by simp) oo (by omega);have P1_13:Hid _:=P1_12.out.outOf (by simp) oo (by omega);have P2_13:Hid _:=P2_12.out.outOf (by simp) oo (by omega);have S_13:Hid _:=S_12.out.outOf (by rw [noL_len]; omega) oo (by omega);have So_13:Hid _:=So_12.out.outOf oo (by omega);have X_13:Hid _:=X_12.out.outOf (by simp) oo (by omega);have T1_13:Hid _:=T1_12.out.outOf oo (by omega);have Y_13:Hid _:=Y_12.out.outOf (by simp) oo (by omega);have Z_13:Hid _:=Z_12.out.outOf (by rw [noL_len]; omega) oo (by omega);have Zo_13:Hid _:=Zo_12.out.outOf oo (by omega);have hz113:v12.heap.size≤v13.heap.size:=oo.size;clear A_12 P0_12 P1_12 P2_12 S_12 So_12 X_12 T1_12 Y_12 Z_12 Zo_12;clear oo;clear T0_12;clear X_13;have cY0:=Y_13.out.cell (j:=0) rfl;have cY1:=Y_13.out.cell (j:=1) rfl;go_wp2_with fail
 refine (markBib_out _ _ y1 _ _ _ _ k1 _ (by omega) (by omega) (by omega) T1_13.out).mono ?_;rw [← HK2.out];rintro e v14 ⟨rfl,-,oo⟩;clear cY0 cY1;have A_14:Hid _:=A_13.out.trans (oo.below (by omega) A_13.out.size);have P0_14:Hid _:=P0_13.out.outOf (by simp) oo (by omega);have P1_14:Hid _:=P1_13.out.outOf (by simp) oo (by omega);have P2_14:Hid _:=P2_13.out.outOf (by simp) oo (by omega);have S_14:Hid _:=S_13.out.outOf (by rw [noL_len]; omega) oo (by omega);have So_14:Hid _:=So_13.out.outOf oo (by omega);have Y_14:Hid _:=Y_13.out.outOf (by simp) oo (by omega);have Z_14:Hid _:=Z_13.out.outOf (by rw [noL_len]; omega) oo (by omega);have Zo_14:Hid _:=Zo_13.out.outOf oo (by omega);have hz114:v13.heap.size≤v14.heap.size:=oo.size;clear A_13 P0_13 P1_13 P2_13 S_13 So_13 Y_13 Z_13 Zo_13;clear oo;clear T1_13;clear Y_14;go_wp2_with (first | (refine wpList_load_g (by first | rfl | (simp [Region.wanted,yielded]; done)) 44 (.tmp 13) (by rfl) g9 0 (by rfl) (noL oa9 ob9 oc9 od9 o) _ Z_14.out.at0 Tryz.underlying44 rfl no_info ?_) | (refine wpList_load_g (by first | rfl | (simp [Region.wanted,yielded]; done)) 44 (.tmp 10) (by rfl) g4 0 (by rfl) (noL oa4 ob4 oc4 od4 o) _ S_14.out.at0 Tryz.underlying44 rfl no_info ?_))
 refine (eqNatOut_same o _ _ _ _ _ _ _ _ _ hol1 hol2 Zo_14.out.is So_14.out.is).mono ?_;rintro e v15 ⟨rfl,q⟩;have A_15:Hid _:=A_14.out.trans (q.mono A_14.out.size);have P0_15:Hid _:=P0_14.out.kept (by simp) q;have P1_15:Hid _:=P1_14.out.kept (by simp) q;have P2_15:Hid _:=P2_14.out.kept (by simp) q;have S_15:Hid _:=S_14.out.kept (by rw [noL_len]; omega) q;have So_15:Hid _:=So_14.out.kept q;have Z_15:Hid _:=Z_14.out.kept (by rw [noL_len]; omega) q;have Zo_15:Hid _:=Zo_14.out.kept q;clear A_14 P0_14 P1_14 P2_14 S_14 So_14 Z_14 Zo_14;have hz115:v14.heap.size≤v15.heap.size:=q.size;clear q;have hzn:=Zo_15.out.own.not_box Z_15.out;have hzl:g9 < v15.heap.size:=Z_15.out.lt (by rw [noL_len]; omega);have HZN:Hid _:=hzn;clear hzn;go_wp2_with ((refine wpList_load_mid (by rfl) 44 (.tmp 13) (by rfl) g9 0 (by rfl) (noL oa9 ob9 oc9 od9 o) _ Z_15.out.at0 Tryz.underlying44 rfl no_info ?_))
 refine (markNatOut_but _ _ o _ _ _ _ 1 _ (by omega) (by omega) (by omega) Zo_15.out _ hzl HZN.out).mono ?_;rw [← HK3.out];rintro e v16 ⟨rfl,hmk,oo,hbx⟩;have A_16:Hid _:=A_15.out.trans (oo.below (by omega) A_15.out.size);have P0_16:Hid _:=P0_15.out.outOf (by simp) oo (by omega);have P1_16:Hid _:=P1_15.out.outOf (by simp) oo (by omega);have P2_16:Hid _:=P2_15.out.outOf (by simp) oo (by omega);have S_16:Hid _:=S_15.out.outOf (by rw [noL_len]; omega) oo (by omega);have So_16:Hid _:=So_15.out.outOf oo (by omega);have hz116:v15.heap.size≤v16.heap.size:=oo.size;clear A_15 P0_15 P1_15 P2_15 S_15 So_15;clear oo;have Z_16:Hid (HoldsL v16 g9 (noL oa9 ob9 oc9 od9 o)):=HoldsL.of_block hbx Z_15.out;clear hbx hzl HZN Z_15 Zo_15;have M_16:Hid (BbMk v8.heap.size v16 oa9 ob9 1 o.bib.binds.length o.bib.sess.length):=hmk;clear hmk;go_wp2_with ((refine wpList_load_mid (by rfl) 44 (.tmp 13) (by rfl) g9 0 (by rfl) (noL oa9 ob9 oc9 od9 o) _ Z_16.out.at0 Tryz.underlying44 rfl no_info ?_))
 refine (heldNatOut_own _ o oa9 ob9 oc9 od9 1 _ (by omega) (by omega) M_16.out).mono ?_;rw [← HK3.out];rintro e v17 ⟨rfl,q⟩;have A_17:Hid _:=A_16.out.trans (q.mono A_16.out.size);have P0_17:Hid _:=P0_16.out.kept (by simp) q;have P1_17:Hid _:=P1_16.out.kept (by simp) q;have P2_17:Hid _:=P2_16.out.kept (by simp) q;have S_17:Hid _:=S_16.out.kept (by rw [noL_len]; omega) q;have So_17:Hid _:=So_16.out.kept q;have Z_17:Hid _:=Z_16.out.kept (by rw [noL_len]; omega) q;have M_17:Hid (BbMk v8.heap.size v17 oa9 ob9 1 o.bib.binds.length o.bib.sess.length):=M_16.out.kept q;clear A_16 P0_16 P1_16 P2_16 S_16 So_16 Z_16 M_16;have hz117:v16.heap.size≤v17.heap.size:=q.size;clear q;go_upto_region 34 with fail
 go_cut [17] (fun v wx=>∃ (g6:Nat) (oa ob:Option Addr) (oc od:Nat),v=.pointer (some ⟨g6,0,none⟩)∧v17.heap.size≤g6∧HoldsL wx g6 (noL oa ob oc od o)∧BbOwn v17.heap.size wx oa ob o.bib∧Below v17.heap.size v17 wx)
 case first =>
  rename_i J K2 hJ hK2;clear hun;have HCP:Hid (∀ wy,Below v17.drew.heap.size v17.drew wy→HoldsL wy w.heap.size (PlV a0 cap0 p0)∧HoldsL wy (w.heap.size+1) (BbV a1 ca1 b1 cb1 y1)∧HoldsL wy (w.heap.size+1+1) (P4V p2)∧Below w.heap.size w wy∧Below v17.heap.size v17 wy):=fun wy hy=>⟨P0_17.out.drew.kept (by simp) hy,P1_17.out.drew.kept (by simp) hy,P2_17.out.drew.kept (by simp) hy,A_17.out.drew.trans (hy.mono A_17.out.size),(Below.refl _ _).drew.trans hy⟩
  refine wp_region_growV [90,91,92,93,94,95,96,97,17] (by kernel_rfl) (by kernel_rfl) ?_;refine GChV.val (n:=0) (fun v=>[IsV v]) (fun _=>rfl) rfl ?_;apply Exists.intro;refine And.intro ?_ ?_
  ·intro K' a wy ho hd hb hK;rw [wN rfl];have o4:=ho 4 (by decide);simp [slot] at o4;clear hd ho;obtain ⟨hq0,hq1,hq2,-,-⟩:=HCP.out wy hb;have u0_0:=hq0.cell (j:=0) rfl;have u0_1:=hq0.cell (j:=1) rfl;have u0_2:=hq0.cell (j:=2) rfl;have u0_3:=hq0.cell (j:=3) rfl;have u0_4:=hq0.cell (j:=4) rfl;have u0_5:=hq0.cell (j:=5) rfl;have u0_6:=hq0.cell (j:=6) rfl;have u0_7:=hq0.cell (j:=7) rfl;have u0_8:=hq0.cell (j:=8) rfl;have u0_9:=hq0.cell (j:=9) rfl;have u1_0:=hq1.cell (j:=0) rfl;have u1_1:=hq1.cell (j:=1) rfl;have u2_0:=hq2.cell (j:=0) rfl;have u2_1:=hq2.cell (j:=1) rfl;have u2_2:=hq2.cell (j:=2) rfl;have u2_3:=hq2.cell (j:=3) rfl;have u2_4:=hq2.cell (j:=4) rfl;have u2_5:=hq2.cell (j:=5) rfl;have u2_6:=hq2.cell (j:=6) rfl;have u2_7:=hq2.cell (j:=7) rfl;have u2_8:=hq2.cell (j:=8) rfl;have u2_9:=hq2.cell (j:=9) rfl;have u2_10:=hq2.cell (j:=10) rfl;go_simp;try go_bits
   exact hK _ _ rfl (Below.refl _ _)
  refine GChV.rel (n:=1) (IsPl v17.drew.heap.size p0) (stable_isPl _ _) [_,IsPl v17.drew.heap.size p0] rfl rfl ?_ ?_
  ·intro K' a wy ho hd hb hK;rw [wN rfl];have q0:=hd ⟨0,.data⟩ (by simp) rfl;simp [rAt,IsV,slot] at q0;clear hd ho;go_simp;refine (toPool_any p0 a0 cap0 wy hpl (HX0.out.below (HCP.out wy hb).2.2.2.1)).mono ?_;rintro e wz ⟨⟨gg,rfl,hg,hl⟩,hz⟩;exact hK _ _ ⟨gg,rfl,Nat.le_trans hb.size hg,hl⟩ hz
  refine GChV.val (n:=2) (fun v=>[_,_,IsV v]) (fun _=>rfl) rfl ?_;apply Exists.intro;refine And.intro ?_ ?_
  ·intro K' a wy ho hd hb hK;rw [wN rfl];have o5:=ho 5 (by decide);simp [slot] at o5;clear hd ho;obtain ⟨hq0,hq1,hq2,-,-⟩:=HCP.out wy hb;have u0_0:=hq0.cell (j:=0) rfl;have u0_1:=hq0.cell (j:=1) rfl;have u0_2:=hq0.cell (j:=2) rfl;have u0_3:=hq0.cell (j:=3) rfl;have u0_4:=hq0.cell (j:=4) rfl;have u0_5:=hq0.cell (j:=5) rfl;have u0_6:=hq0.cell (j:=6) rfl;have u0_7:=hq0.cell (j:=7) rfl;have u0_8:=hq0.cell (j:=8) rfl;have u0_9:=hq0.cell (j:=9) rfl;have u1_0:=hq1.cell (j:=0) rfl;have u1_1:=hq1.cell (j:=1) rfl;have u2_0:=hq2.cell (j:=0) rfl;have u2_1:=hq2.cell (j:=1) rfl;have u2_2:=hq2.cell (j:=2) rfl;have u2_3:=hq2.cell (j:=3) rfl;have u2_4:=hq2.cell (j:=4) rfl;have u2_5:=hq2.cell (j:=5) rfl;have u2_6:=hq2.cell (j:=6) rfl;have u2_7:=hq2.cell (j:=7) rfl;have u2_8:=hq2.cell (j:=8) rfl;have u2_9:=hq2.cell (j:=9) rfl;have u2_10:=hq2.cell (j:=10) rfl;go_simp;try go_bits
   exact hK _ _ rfl (Below.refl _ _)
  refine GChV.rel (n:=3) (IsBb v17.drew.heap.size y1) (stable_isBb _ _) [_,_,_,IsBb v17.drew.heap.size y1] rfl rfl ?_ ?_
  ·intro K' a wy ho hd hb hK;rw [wN rfl];have q2:=hd ⟨2,.data⟩ (by simp) rfl;simp [rAt,IsV,slot] at q2;clear hd ho;go_simp;refine (toBib_any y1 a1 b1 ca1 cb1 wy hbl1 hbl2 (HX1.out.below (HCP.out wy hb).2.2.2.1)).mono ?_;rintro e wz ⟨⟨xa,xb,xc,xd,rfl,hl⟩,hz⟩;exact hK _ _ ⟨xa,xb,xc,xd,rfl,hl.low hb.size⟩ hz
  refine GChV.val (n:=4) (fun v=>[_,_,_,_,IsV v]) (fun _=>rfl) rfl ?_;apply Exists.intro;refine And.intro ?_ ?_
  ·intro K' a wy ho hd hb hK;rw [wN rfl];have o6:=ho 6 (by decide);simp [slot] at o6;clear hd ho;obtain ⟨hq0,hq1,hq2,-,-⟩:=HCP.out wy hb;have u0_0:=hq0.cell (j:=0) rfl;have u0_1:=hq0.cell (j:=1) rfl;have u0_2:=hq0.cell (j:=2) rfl;have u0_3:=hq0.cell (j:=3) rfl;have u0_4:=hq0.cell (j:=4) rfl;have u0_5:=hq0.cell (j:=5) rfl;have u0_6:=hq0.cell (j:=6) rfl;have u0_7:=hq0.cell (j:=7) rfl;have u0_8:=hq0.cell (j:=8) rfl;have u0_9:=hq0.cell (j:=9) rfl;have u1_0:=hq1.cell (j:=0) rfl;have u1_1:=hq1.cell (j:=1) rfl;have u2_0:=hq2.cell (j:=0) rfl;have u2_1:=hq2.cell (j:=1) rfl;have u2_2:=hq2.cell (j:=2) rfl;have u2_3:=hq2.cell (j:=3) rfl;have u2_4:=hq2.cell (j:=4) rfl;have u2_5:=hq2.cell (j:=5) rfl;have u2_6:=hq2.cell (j:=6) rfl;have u2_7:=hq2.cell (j:=7) rfl;have u2_8:=hq2.cell (j:=8) rfl;have u2_9:=hq2.cell (j:=9) rfl;have u2_10:=hq2.cell (j:=10) rfl;go_simp;try go_bits
   exact hK _ _ rfl (Below.refl _ _)
  refine GChV.val (n:=5) (fun v=>[_,_,_,_,_,IsV v]) (fun _=>rfl) rfl ?_;apply Exists.intro;refine And.intro ?_ ?_
  ·intro K' a wy ho hd hb hK;rw [wN rfl];have q4:=hd ⟨4,.data⟩ (by simp) rfl;simp [rAt,IsV,slot] at q4;clear hd ho;go_simp;refine (toV4_any p2 wy).mono ?_;rintro e wz ⟨rfl,hz⟩;exact hK _ _ rfl hz
  refine GChV.val (n:=6) (fun v=>[_,_,_,_,_,_,IsV v]) (fun _=>rfl) rfl ?_;apply Exists.intro;refine And.intro ?_ ?_
  ·intro K' a wy ho hd hb hK;rw [wN rfl];have o3:=ho 3 (by decide);simp [slot] at o3;clear hd ho;go_simp;try go_bits
   exact hK _ _ rfl (Below.refl _ _)
  refine GChV.rel (n:=7) (IsNoL v17.drew.heap.size o) (stable_isNoL _ _) [_,_,_,_,_,_,_,IsNoL v17.drew.heap.size o] rfl rfl ?_ ?_
  ·intro K' a wy ho hd hb hK;rw [wN rfl];obtain ⟨g1,e1,b1,l1⟩ : IsPl v17.drew.heap.size p0 (slot a 91) wy:=hd ⟨1,.data⟩ (by simp) rfl;simp [slot] at e1;obtain ⟨xa,xb,xc,xd,e3,l3⟩ : IsBb v17.drew.heap.size y1 (slot a 93) wy:=hd ⟨3,.data⟩ (by simp) rfl;simp [slot] at e3;have q5:=hd ⟨5,.data⟩ (by simp) rfl;have q6:=hd ⟨6,.data⟩ (by simp) rfl;simp [rAt,IsV,slot] at q5 q6;clear hd ho;go_simp;refine (HIP.out wy g1 xa xb xc xd (HCP.out wy hb).2.2.2.1 l1.is l3.is).mono ?_;rintro e wz ⟨⟨oa,ob,oc,od,rfl,hl⟩,hz⟩;exact hK _ _ ⟨oa,ob,oc,od,rfl,hl.low hb.size⟩ hz
  refine GChV.rel (n:=8) (IsZx v17.drew.heap.size [.slice none 0 0,.slice none 0 0,iV 0,iV 0,.bool false,.bool false,iV 0,iV 0,iV 0,.string ⟨#[]⟩,.string ⟨#[]⟩,.string ⟨#[]⟩,.string ⟨#[]⟩,iV 0,iV 0,iV 0,iV 0,.string ⟨#[]⟩,.string ⟨#[]⟩,.bool false,.bool false,iV 0,iV 0,.string ⟨#[]⟩,iV 0]) (stable_isZx _ _ (by simp)) [_,_,_,_,_,_,_,_,IsZx v17.drew.heap.size [.slice none 0 0,.slice none 0 0,iV 0,iV 0,.bool false,.bool false,iV 0,iV 0,iV 0,.string ⟨#[]⟩,.string ⟨#[]⟩,.string ⟨#[]⟩,.string ⟨#[]⟩,iV 0,iV 0,iV 0,iV 0,.string ⟨#[]⟩,.string ⟨#[]⟩,.bool false,.bool false,iV 0,iV 0,.string ⟨#[]⟩,iV 0]] rfl rfl ?_ ?_
  ·intro K' a wy ho hd hb hK;rw [wN rfl];clear hd ho;go_simp;exact hK _ _ ⟨wy.heap.size,rfl,hb.size,HoldsL.new wy [.slice none 0 0,.slice none 0 0,iV 0,iV 0,.bool false,.bool false,iV 0,iV 0,iV 0,.string ⟨#[]⟩,.string ⟨#[]⟩,.string ⟨#[]⟩,.string ⟨#[]⟩,iV 0,iV 0,iV 0,iV 0,.string ⟨#[]⟩,.string ⟨#[]⟩,.bool false,.bool false,iV 0,iV 0,.string ⟨#[]⟩,iV 0] 44⟩ ((Below.refl _ _).alloc (Nat.le_refl _) _)
  intro X wz hR hz;obtain ⟨x0,x1,x2,x3,x4,x5,x6,x7,x8,-⟩:=hR;obtain ⟨oa,ob,oc,od,e7,o5⟩:=x7;obtain ⟨g6,e6,b6,zz6⟩:=x8;obtain ⟨g1,e1,-,-⟩:=x1;obtain ⟨xa,xb,xc,xd,e3,-⟩:=x3;simp only [IsV] at x0 x2 x4 x5 x6;simp only [putsFrom,x0,e1,x2,e3,x4,x5,x6,e7,e6];clear x0 x2 x4 x5 x6;have hz0:Below v17.heap.size v17 wz:=(Below.refl _ _).drew.trans hz;have b6':v17.heap.size≤g6:=b6;have zz7:HoldsL wz g6 (noL none none 0 0 (noE 0)):=zz6;have HTH:Hid (wz.there g6 0 (noL oa ob oc od o).toArray.size):=noL_there zz7 _ _ _ _ _;have HH6:Hid (HoldsL (wz.setCells g6 0 (noL oa ob oc od o).toArray.toList) g6 (noL oa ob oc od o)):=zz7.mid rfl;have HO6:Hid (BbOwn v17.heap.size (wz.setCells g6 0 (noL oa ob oc od o).toArray.toList) oa ob o.bib):=o5.midNe (o5.not_box zz6) _;have HB6:Hid (Below v17.heap.size v17 (wz.setCells g6 0 (noL oa ob oc od o).toArray.toList)):=Below.mid hz0 b6' _;clear o5 zz6 zz7 b6 hz hz0;unfold noC at *;simp only [List.length_cons,List.length_nil,List.drop_succ_cons,List.drop_zero,Nat.zero_add,Nat.reduceAdd];with_reducible refine wpSeq_store 44 (.tmp 17) (.tmp 97) rfl g6 0 (noL oa ob oc od o).toArray ?_ ?_ ?_ ?_ ?_ ?_
  ·first | (simp [Act.eval,Act.put]; done) | (simp [Act.eval,Act.put,slot] at *; assumption)
  ·first | (simp [Act.eval,Act.put,noL]; done) | (simp [Act.eval,Act.put,slot,noL] at *; assumption)
  ·exact HTH.out
  ·exact no_info
  ·exact noL_one _ _ _ _ _
  simp only [Act.put,List.set_toArray,List.setIfInBounds_toArray,List.set_cons_succ,List.set_cons_zero];show Exit.then _ _ _ _ _;refine hK2 _ _ (hJ _ _ ?_);(repeat apply Exists.intro)
  exact ⟨⟨g6,oa,ob,oc,od,rfl,b6',HH6.out,HO6.out,HB6.out⟩,rfl⟩
 case rest =>
 obtain ⟨g18,oa18,ob18,oc18,od18,rfl,hgl,hgh,hgo,q⟩:=hcut;generalize wc=v18 at *;have A_18:Hid _:=A_17.out.trans (q.mono A_17.out.size);have P0_18:Hid _:=P0_17.out.kept (by simp) q;have P1_18:Hid _:=P1_17.out.kept (by simp) q;have P2_18:Hid _:=P2_17.out.kept (by simp) q;have S_18:Hid _:=S_17.out.kept (by rw [noL_len]; omega) q;have So_18:Hid _:=So_17.out.kept q;have Z_18:Hid _:=Z_17.out.kept (by rw [noL_len]; omega) q;have M_18:Hid (BbMk v8.heap.size v18 oa9 ob9 1 o.bib.binds.length o.bib.sess.length):=M_17.out.kept q;clear A_17 P0_17 P1_17 P2_17 S_17 So_17 Z_17 M_17;have hz118:v17.heap.size≤v18.heap.size:=q.size;clear q;have H_18:Hid (HoldsL v18 g18 (noL oa18 ob18 oc18 od18 o)):=hgh;have Ho_18:Hid (BbIn v17.heap.size v18.heap.size v18 oa18 ob18 o.bib):=BbIn.of_own hgo (Nat.le_refl _);have hHl:g18 < v18.heap.size:=hgh.lt (by rw [noL_len]; omega);have hHg:v17.heap.size≤g18:=hgl;clear hgh hgo hgl;go_wp2_with (first | (refine wpList_load_mid (by rfl) 44 (.tmp 17) (by rfl) g18 0 (by rfl) (noL oa18 ob18 oc18 od18 o) _ H_18.out.at0 Tryz.underlying44 rfl no_info ?_) | (refine wpList_load_mid (by rfl) 44 (.tmp 10) (by rfl) g4 0 (by rfl) (noL oa4 ob4 oc4 od4 o) _ S_18.out.at0 Tryz.underlying44 rfl no_info ?_))
 refine (eqNatOut_same o _ _ _ _ _ _ _ _ _ hol1 hol2 Ho_18.out.is So_18.out.is).mono ?_;rintro e v19 ⟨rfl,q⟩;have A_19:Hid _:=A_18.out.trans (q.mono A_18.out.size);have P0_19:Hid _:=P0_18.out.kept (by simp) q;have P1_19:Hid _:=P1_18.out.kept (by simp) q;have P2_19:Hid _:=P2_18.out.kept (by simp) q;have S_19:Hid _:=S_18.out.kept (by rw [noL_len]; omega) q;have So_19:Hid _:=So_18.out.kept q;have Z_19:Hid _:=Z_18.out.kept (by rw [noL_len]; omega) q;have M_19:Hid (BbMk v8.heap.size v19 oa9 ob9 1 o.bib.binds.length o.bib.sess.length):=M_18.out.kept q;have H_19:Hid _:=H_18.out.kept (by rw [noL_len]; omega) q;have Ho_19:Hid _:=Ho_18.out.kept q;clear A_18 P0_18 P1_18 P2_18 S_18 So_18 Z_18 M_18 H_18 Ho_18;have hz119:v18.heap.size≤v19.heap.size:=q.size;clear q;go_wp2_with ((refine wpList_load_mid (by rfl) 44 (.tmp 13) (by rfl) g9 0 (by rfl) (noL oa9 ob9 oc9 od9 o) _ Z_19.out.at0 Tryz.underlying44 rfl no_info ?_))
 refine (heldNatOut_own _ o oa9 ob9 oc9 od9 1 _ (by omega) (by omega) M_19.out).mono ?_;rw [← HK3.out];rintro e v20 ⟨rfl,q⟩;have A_20:Hid _:=A_19.out.trans (q.mono A_19.out.size);have P0_20:Hid _:=P0_19.out.kept (by simp) q;have P1_20:Hid _:=P1_19.out.kept (by simp) q;have P2_20:Hid _:=P2_19.out.kept (by simp) q;have S_20:Hid _:=S_19.out.kept (by rw [noL_len]; omega) q;have So_20:Hid _:=So_19.out.kept q;have Z_20:Hid _:=Z_19.out.kept (by rw [noL_len]; omega) q;have M_20:Hid (BbMk v8.heap.size v20 oa9 ob9 1 o.bib.binds.length o.bib.sess.length):=M_19.out.kept q;have H_20:Hid _:=H_19.out.kept (by rw [noL_len]; omega) q;have Ho_20:Hid _:=Ho_19.out.kept q;clear A_19 P0_19 P1_19 P2_19 S_19 So_19 Z_19 M_19 H_19 Ho_19;have hz120:v19.heap.size≤v20.heap.size:=q.size;clear q;go_wp2_with fail
 go_ret;exact ⟨rfl,A_20.out⟩
open Go.ChangeShapes Go.WideShapes Go.ChangeShapes
def pairD {H:Type} (z:Int × Int):DataW H:=.agg [.lit (.int .i64 z.1),.lit (.int .i64 z.2)]
theorem cells_of_pairs {H:Type} {enc:TypeId × Value→H} {P:Program} {w:World} {base:Nat} {sp:Nat→Bool} {held:Bool} {fuel:Nat} {t e ty:TypeId} {n:Nat} {f0 f1:Field} {cs:List Value} {zs:List (Int × Int)} {p:List MemPlace}
  (ht:P.underlying t=some (.array n e)) (he:P.underlying e=some (.struct #[f0,f1])) (h0:f0.offset=0) (h1:f1.offset=1) (t0:f0.type=ty) (t1:f1.type=ty) (hty:P.underlying ty=some (.int .i64)) (hc1:P.cellsOf ty=1) (hce:P.cellsOf e=2)
  (h:DataW.trod enc P w base sp held fuel t cs=some (.agg (zs.map pairD),p)) (i:Nat) (z:Int × Int) (hz:zs[i]?=some z):cs[2*i]?=some (.int .i64 z.1)∧cs[2*i+1]?=some (.int .i64 z.2):=by
 obtain ⟨xs,m,_,hx,hlen,hn,hel⟩:=DataW.trod_array ht h;have hxs:xs.map (·.1)=zs.map pairD:=by
  have:=congrArg Prod.fst hx;simpa using this.symm
 have hi:i < zs.length:=(List.getElem?_eq_some_iff.1 hz).1;have hl:xs.length=zs.length:=by have:=congrArg List.length hxs; simpa using this
 have hxi:i < xs.length:=by omega
 have h2:=hel i (by omega);rw [List.getElem?_eq_getElem hxi,hce] at h2;obtain ⟨y0,y1,k,hy,_,g0,g1⟩:=trod_struct2 he h2;rw [h0,t0,hc1] at g0;rw [h1,t1,hc1] at g1;obtain ⟨a,ea,da,_⟩:=DataW.trod_int hty g0;obtain ⟨b,eb,db,_⟩:=DataW.trod_int hty g1;have hd:(xs[i]).1=pairD z:=by
  have:=congrArg (fun l=>l[i]?) hxs;simp only [List.getElem?_map,List.getElem?_eq_getElem hxi,hz,Option.map_some] at this;exact Option.some.inj this
 rw [hy,da,db] at hd;unfold pairD at hd;simp only [DataW.agg.injEq,List.cons.injEq,DataW.lit.injEq,Lit.int.injEq,true_and,and_true] at hd;obtain ⟨rfl,rfl⟩:=hd;have ea':=congrArg (fun l=>l[0]?) ea;have eb':=congrArg (fun l=>l[0]?) eb;simp [List.getElem?_take,List.getElem?_drop] at ea' eb';exact ⟨by rw [Nat.mul_comm]; exact ea',by rw [Nat.mul_comm]; exact eb'⟩
theorem var_pairs {P:Program} {W:World} {name:String} {zs:List (Int × Int)} {rest:List (String × DataW Unit)} {g:Nat} {t e ty:TypeId} {n:Nat} {f0 f1:Field}
  (hg:P.globalNamed name=some g) (hgt:(P.globals[g]?).map (·.type)=some t) (ht:P.underlying t=some (.array n e)) (he:P.underlying e=some (.struct #[f0,f1])) (h0:f0.offset=0) (h1:f1.offset=1) (t0:f0.type=ty) (t1:f1.type=ty) (hty:P.underlying ty=some (.int .i64)) (hc1:P.cellsOf ty=1) (hce:P.cellsOf e=2)
  (h:laidMet P ((name,.agg (zs.map pairD))::rest) W) (i:Nat) (z:Int × Int) (hz:zs[i]?=some z):W.cell? ⟨g,2*i,none⟩=some (.int .i64 z.1)∧W.cell? ⟨g,2*i+1,none⟩=some (.int .i64 z.2):=by
 obtain ⟨ps,⟨g',t',cs,fuel,p,q,hg',ht',hvar,hd,_,_⟩,_⟩:=h;obtain rfl:=Option.some.inj (hg.symm.trans hg');obtain rfl:=Option.some.inj (hgt.symm.trans ht');obtain ⟨c0,c1⟩:=cells_of_pairs ht he h0 h1 t0 t1 hty hc1 hce hd i z hz;have v0:=World.var?_cell hg hvar (2*i);have v1:=World.var?_cell hg hvar (2*i+1);exact ⟨by rw [v0]; simpa using c0,by rw [v1]; simpa using c1⟩
end Go.Proofs.YtcckaeppiamebaaGreatDoor
