import Derived.Test.YtcckaeppiamebaaGreatDoorAb
import Derived.WalkKit
import Derived.PlainAid
import Derived.Test.YtcckaeppiamebaaGreatDoorMerged9
import Derived.Test.YtcckaeppiamebaaGreatDoorMerged1
import Derived.Laws.StructEq
import Derived.BigQuiet
import Derived.Lib.QuietBelow
import Derived.Deep.DeepCutAuto
import Derived.Test.YtcckaeppiamebaaGreatDoorMerged6
import Derived.Lib.LazyBuf
import Derived.Test.YtcckaeppiamebaaGreatDoorMerged2
import Derived.Deep.MidRow
import Derived.Deep.AppendLies
import Derived.Great.BuildSlice
import Derived.Test.YtcckaeppiamebaaGreatDoorMerged3
import Derived.Test.YtcckaeppiamebaaGreatDoorMerged8
import Derived.Test.YtcckaeppiamebaaGreatDoorMerged13
import Derived.Test.YtcckaeppiamebaaGreatDoorMerged14
import Derived.Test.YtcckaeppiamebaaGreatDoorMerged10
import Derived.Test.YtcckaeppiamebaaGreatDoorMerged12
import Derived.Test.YtcckaeppiamebaaGreatDoorMerged15
set_option linter.unusedVariables false
set_option linter.unusedSimpArgs false
set_option maxRecDepth 100000
set_option maxHeartbeats 8000000
namespace Go.Proofs.YtcckaeppiamebaaGreatDoor
open Go.RowKit Go.PlainAid
def maskOf (p:Nat→Bool):Nat→Nat
 | 0=>0
 | n+1=>maskOf p n+if p n then 2 ^ n else 0
def cntOf (p:Nat→Bool):Nat→Nat
 | 0=>0
 | n+1=>cntOf p n+if p n then 1 else 0
def cntMask (m:Nat):Nat→Nat
 | 0=>0
 | b+1=>cntMask m b+m / 2 ^ b % 2
def pick {α:Type} (p:Nat→Bool) (f:Nat→α):Nat→List α
 | 0=>[]
 | n+1=>pick p f n++if p n then [f n] else []
theorem pick_length {α:Type} (p:Nat→Bool) (f:Nat→α):∀ n,(pick p f n).length=cntOf p n
 | 0=>rfl
 | n+1=>by
  unfold pick cntOf;rw [List.length_append,pick_length p f n];split<;>simp
def lastV (kid:Nat→Bool) (val:Nat→Int):Nat→Int
 | 0=>-1
 | j+1=>if kid j then lastV kid val j else val j
def leafAt (kid:Nat→Bool) (val:Nat→Int) (j:Nat):Bool:=!kid j&&val j != lastV kid val j
structure Nd where
 kids:Nat
 leaf:Nat
 base:Nat
 leafs:Nat
structure Tb where
 rows:List (Nat × Nat)
 nodes:List Nd
 leaves:List Int
section
variable (kid:Nat × Nat→Nat→Bool) (val:Nat × Nat→Nat→Int)
def nodeOf (r:Nat × Nat) (r0 l0:Nat):Nd :=
 ⟨maskOf (kid r) 16,maskOf (leafAt (kid r) (val r)) 16,if cntOf (kid r) 16=0 then 0 else r0,if cntOf (leafAt (kid r) (val r)) 16=0 then 0 else l0⟩
def kidRow (r:Nat × Nat) (k:Nat):Nat × Nat:=(r.1+1,16*r.2+k)
def tbStep (t:Tb) (r:Nat × Nat):Tb :=
 ⟨t.rows++pick (kid r) (kidRow r) 16,t.nodes++[nodeOf kid val r t.rows.length t.leaves.length],t.leaves++pick (leafAt (kid r) (val r)) (val r) 16⟩
structure NodeAt (t:Tb) (i:Nat):Prop where
 ex:∃ r r0 l0 rr ll,t.rows[i]?=some r∧t.nodes[i]?=some (nodeOf kid val r r0 l0)∧i < r0∧t.rows=rr∧t.leaves=ll ∧
  (∀ j x,(pick (kid r) (kidRow r) 16)[j]?=some x→t.rows[r0+j]?=some x)∧(∀ j x,(pick (leafAt (kid r) (val r)) (val r) 16)[j]?=some x→t.leaves[l0+j]?=some x) ∧
  r0+cntOf (kid r) 16≤t.rows.length∧l0+cntOf (leafAt (kid r) (val r)) 16≤t.leaves.length
theorem get_app {α:Type} {a b:List α} {i:Nat} {x:α} (h:a[i]?=some x):(a++b)[i]?=some x:=by
 have hl:i < a.length:=by
  by_cases e:i < a.length
  ·exact e
  ·rw [List.getElem?_eq_none (by omega)] at h; simp at h
 rw [List.getElem?_append_left hl]; exact h
theorem NodeAt.step {t:Tb} {i:Nat} (h:NodeAt kid val t i) (r:Nat × Nat):NodeAt kid val (tbStep kid val t r) i:=by
 obtain ⟨q,r0,l0,_,_,h1,h2,h3,_,_,h4,h5,h6,h7⟩:=h.ex;refine ⟨q,r0,l0,_,_,get_app h1,get_app h2,h3,rfl,rfl,fun j x hx=>get_app (h4 j x hx),fun j x hx=>get_app (h5 j x hx),?_,?_⟩
 ·show _≤(t.rows++_).length; rw [List.length_append]; omega
 ·show _≤(t.leaves++_).length; rw [List.length_append]; omega
theorem NodeAt.new {t:Tb} {r:Nat × Nat} (hr:t.rows[t.nodes.length]?=some r):NodeAt kid val (tbStep kid val t r) t.nodes.length:=by
 have hlt:t.nodes.length < t.rows.length:=by
  by_cases e:t.nodes.length < t.rows.length
  ·exact e
  ·rw [List.getElem?_eq_none (by omega)] at hr; simp at hr
 refine ⟨r,t.rows.length,t.leaves.length,_,_,get_app hr,?_,hlt,rfl,rfl,?_,?_,?_,?_⟩
 ·show (t.nodes++[_])[t.nodes.length]?=_;rw [List.getElem?_append_right (Nat.le_refl _),Nat.sub_self]; rfl
 ·intro j x hx;show (t.rows++_)[t.rows.length+j]?=_;rw [List.getElem?_append_right (by omega),show t.rows.length+j-t.rows.length=j by omega]; exact hx
 ·intro j x hx;show (t.leaves++_)[t.leaves.length+j]?=_;rw [List.getElem?_append_right (by omega),show t.leaves.length+j-t.leaves.length=j by omega]; exact hx
 ·show _≤(t.rows++_).length; rw [List.length_append,pick_length]; exact Nat.le_refl _
 ·show _≤(t.leaves++_).length; rw [List.length_append,pick_length]; exact Nat.le_refl _
structure TbOk (t:Tb):Prop where
 nodes:∀ i,i < t.nodes.length→NodeAt kid val t i
 le:t.nodes.length≤t.rows.length
 root:t.rows[0]?=some (0,0)
 leaves:∀ x∈t.leaves,∃ r k,x=val r k
theorem TbOk.start:TbOk kid val ⟨[(0,0)],[],[]⟩:=⟨fun i h=>by simp at h,by simp,rfl,by simp⟩
theorem mem_pick {α:Type} (p:Nat→Bool) (f:Nat→α):∀ n x,x∈pick p f n→∃ k,k < n∧p k=true∧x=f k
 | 0,x,h=>by simp [pick] at h
 | n+1,x,h=>by
  unfold pick at h;rcases List.mem_append.1 h with h | h
  ·obtain ⟨k,hk,hp,e⟩:=mem_pick p f n x h; exact ⟨k,by omega,hp,e⟩
  ·by_cases hp:p n=true
   ·rw [if_pos hp] at h; simp at h; exact ⟨n,by omega,hp,h⟩
   ·rw [if_neg hp] at h; simp at h
theorem TbOk.step {t:Tb} (h:TbOk kid val t) {r:Nat × Nat} (hr:t.rows[t.nodes.length]?=some r):TbOk kid val (tbStep kid val t r):=by
 have hlt:t.nodes.length < t.rows.length:=by
  by_cases e:t.nodes.length < t.rows.length
  ·exact e
  ·rw [List.getElem?_eq_none (by omega)] at hr; simp at hr
 refine ⟨fun i hi=>?_,?_,get_app h.root,?_⟩
 ·have hi':i < t.nodes.length+1:=by
   have:(tbStep kid val t r).nodes.length=t.nodes.length+1:=by show (t.nodes++[_]).length=_; simp
   omega
  by_cases e:i=t.nodes.length
  ·rw [e]; exact NodeAt.new kid val hr
  ·exact (h.nodes i (by omega)).step kid val r
 ·show (t.nodes++[_]).length≤(t.rows++_).length;simp; omega
 ·intro x hx;rcases List.mem_append.1 hx with hx | hx
  ·exact h.leaves x hx
  ·obtain ⟨k,_,_,e⟩:=mem_pick _ _ _ _ hx; exact ⟨r,k,e⟩
end
theorem len_of_sub {α:Type} [DecidableEq α]:∀ (l m:List α),l.Pairwise (·≠·)→(∀ x∈l,x∈m)→l.length≤m.length
 | [],m,_,_=>Nat.zero_le _
 | a::l,m,hp,hs=>by
  have ha:a∈m:=hs a (by simp);have hp':=List.pairwise_cons.1 hp;have:=len_of_sub l (m.erase a) hp'.2 (fun x hx=>(List.mem_erase_of_ne (fun e=>hp'.1 x hx e.symm)).2 (hs x (by simp [hx])));rw [List.length_erase_of_mem ha] at this;have hpos:0 < m.length:=List.length_pos_of_mem ha;simp; omega
def rlt (a b:Nat × Nat):Prop:=a.1 < b.1∨(a.1=b.1∧a.2 < b.2)
theorem rlt_ne {a b:Nat × Nat} (h:rlt a b):a≠b:=by
 intro e; subst e; unfold rlt at h; omega
section
variable (kid:Nat × Nat→Nat→Bool) (val:Nat × Nat→Nat→Int)
structure TbSort (S:List (Nat × Nat)) (t:Tb):Prop where
 sorted:t.rows.Pairwise rlt
 next:∀ r,t.rows[t.nodes.length]?=some r→∀ x∈t.rows,x.1≤r.1+1∧(x.1=r.1+1→x.2 < 16*r.2)
 sub:∀ x∈t.rows,x=(0,0)∨x∈S
theorem TbSort.start (S:List (Nat × Nat)):TbSort S ⟨[(0,0)],[],[]⟩ :=
 ⟨by simp,fun r h x hx=>by simp at h hx; subst h hx; simp,by simp⟩
theorem pick_sorted (r:Nat × Nat) (p:Nat→Bool):∀ n,(pick p (kidRow r) n).Pairwise rlt
 | 0=>by simp [pick]
 | n+1=>by
  unfold pick;rw [List.pairwise_append];refine ⟨pick_sorted r p n,?_,?_⟩
  ·split<;>simp
  ·intro a ha b hb;obtain ⟨k,hk,_,rfl⟩:=mem_pick _ _ _ _ ha;by_cases hp:p n=true
   ·rw [if_pos hp] at hb; simp at hb; subst hb; exact .inr ⟨rfl,by simp [kidRow]; omega⟩
   ·rw [if_neg hp] at hb; simp at hb
theorem TbSort.step {S:List (Nat × Nat)} {t:Tb} (h:TbSort S t) (hS:∀ r k,k < 16→kid r k=true→kidRow r k∈S) {r:Nat × Nat} (hr:t.rows[t.nodes.length]?=some r):TbSort S (tbStep kid val t r):=by
 have hnx:=h.next r hr;have hnl:(tbStep kid val t r).nodes.length=t.nodes.length+1:=by show (t.nodes++[_]).length=_; simp
 have hsrt:(tbStep kid val t r).rows.Pairwise rlt:=by
  show (t.rows++_).Pairwise rlt;rw [List.pairwise_append];refine ⟨h.sorted,pick_sorted r _ 16,fun a ha b hb=>?_⟩;obtain ⟨k,hk,_,rfl⟩:=mem_pick _ _ _ _ hb;have:=hnx a ha;by_cases e:a.1=r.1+1
  ·exact .inr ⟨e,by have:=this.2 e; show a.2 < 16*r.2+k; omega⟩
  ·exact .inl (by show a.1 < r.1+1; omega)
 refine ⟨hsrt,fun q hq x hx=>?_,fun x hx=>?_⟩
 ·rw [hnl] at hq;have hlt:t.nodes.length+1 < (tbStep kid val t r).rows.length:=by
   by_cases e:t.nodes.length+1 < (tbStep kid val t r).rows.length
   ·exact e
   ·rw [List.getElem?_eq_none (by omega)] at hq; simp at hq
  have hr2:(tbStep kid val t r).rows[t.nodes.length]?=some r:=get_app hr;have hrq:rlt r q:=by
   have:=List.pairwise_iff_getElem.1 hsrt t.nodes.length (t.nodes.length+1) (by omega) hlt (by omega);rw [List.getElem?_eq_getElem (by omega)] at hr2;rw [List.getElem?_eq_getElem hlt] at hq;injection hr2 with hr2; injection hq with hq
   rw [hr2,hq] at this; exact this
  unfold rlt at hrq;rcases List.mem_append.1 hx with hx | hx
  ·have:=hnx x hx;exact ⟨by omega,fun e=>by have:=this.2 (by omega); omega⟩
  ·obtain ⟨k,hk,_,rfl⟩:=mem_pick _ _ _ _ hx;simp only [kidRow];exact ⟨by omega,fun e=>by omega⟩
 ·rcases List.mem_append.1 hx with hx | hx
  ·exact h.sub x hx
  ·obtain ⟨k,hk,hp,rfl⟩:=mem_pick _ _ _ _ hx;exact .inr (hS r k hk hp)
theorem TbSort.length {S:List (Nat × Nat)} {t:Tb} (h:TbSort S t):t.rows.length≤S.length+1:=by
 have:=len_of_sub t.rows ((0,0)::S) (h.sorted.imp rlt_ne) (fun x hx=>by rcases h.sub x hx with e | e<;>simp [e]);simpa using this
structure NdRight (n leaves i:Nat) (x:Nd):Prop where
 kids:x.kids < 65536
 leaf:x.leaf < 65536
 apart:∀ k,¬ (x.kids / 2 ^ k % 2=1∧x.leaf / 2 ^ k % 2=1)
 base:x.kids≠0→i < x.base∧x.base+cntMask x.kids 16≤n
 base0:x.kids=0→x.base=0
 leafs:x.leaf≠0→x.leafs+cntMask x.leaf 16≤leaves
 leafs0:x.leaf=0→x.leafs=0
 first:∀ k,k < 16→(∀ j,j < k→x.kids / 2 ^ j % 2=1)→x.kids / 2 ^ k % 2=0→x.leaf / 2 ^ k % 2=1
end
structure Rt where
 addr:ByteArray
 bits:Int
 hop:Int
section
variable (n:Nat) (l:List Rt)
end
structure RtsAt (w:World) (b off:Nat) (rs:List Rt):Prop where
 c0:∀ i (h:i < rs.length),w.cell? ⟨b,off+i*3,none⟩=some (.string rs[i].addr)
 c1:∀ i (h:i < rs.length),w.cell? ⟨b,off+i*3+1,none⟩=some (iV rs[i].bits)
 c2:∀ i (h:i < rs.length),w.cell? ⟨b,off+i*3+2,none⟩=some (iV rs[i].hop)
theorem RtsAt.below {w W:World} {b off:Nat} {rs:List Rt} (h:RtsAt w b off rs) (hb:b < w.heap.size) (hB:Below w.heap.size w W):RtsAt W b off rs :=
 ⟨fun i hi=>((bcell hB).1 b _ hb).trans (h.c0 i hi),fun i hi=>((bcell hB).1 b _ hb).trans (h.c1 i hi),fun i hi=>((bcell hB).1 b _ hb).trans (h.c2 i hi)⟩
theorem Holds.setCells {w:World} {B n:Nat} {f:Nat→Int} (h:Holds w B n f) (t:ByteArray) (ht:t.size≤n):Holds (w.setCells B 0 (t.data.toList.map fun x=>Value.int .u8 (x.toNat:Int))) B n (fun i=>if i < t.size then bt t i else f i):=by
 have hl:(t.data.toList.map fun x=>Value.int .u8 (x.toNat:Int)).length=t.size:=by rw [List.length_map,Array.length_toList]; rfl
 refine ⟨fun i hi=>⟨?_,by rw [World.frozen?_setCells]; exact (h.get i hi).2⟩⟩;by_cases e:i < t.size
 ·have:=World.cell?_setCells_in B (t.data.toList.map fun x=>Value.int .u8 (x.toNat:Int)) 0 w (fun j hj=>by rw [Nat.zero_add,(h.get j (by rw [hl] at hj; omega)).1]; rfl) i (by rw [hl]; exact e);rw [Nat.zero_add] at this;show _=some (Value.int .u8 (if i < t.size then bt t i else f i));rw [if_pos e,this,← get_bt t i e,ByteArray.getElem_eq_getElem_data];simp
 ·show _=some (Value.int .u8 (if i < t.size then bt t i else f i));rw [if_neg e,World.cell?_setCells_out B _ 0 w _ (fun _ _=>.inr (by rw [hl]; show 0+t.size≤i; omega))];exact (h.get i hi).1
theorem Holds.drew {w:World} {B n:Nat} {f:Nat→Int} (h:Holds w B n f):Holds w.drew B n f:=⟨h.get⟩
theorem Holds.congr {w:World} {B n:Nat} {f g:Nat→Int} (h:Holds w B n f) (e:∀ i,i < n→f i=g i):Holds w B n g:=⟨fun i hi=>by rw [← e i hi]; exact h.get i hi⟩
section
variable (n:Nat)
end
def bytesC (a:ByteArray):List Value:=a.data.toList.map fun x=>Value.int .u8 (x.toNat:Int)
def rowC (a:ByteArray) (b:Int):List Value:=bytesC a++[iV b]
theorem bytesC_length (a:ByteArray):(bytesC a).length=a.size:=by unfold bytesC; rw [List.length_map,Array.length_toList]; rfl
theorem rowC_length (a:ByteArray) (b:Int):(rowC a b).length=a.size+1:=by unfold rowC; rw [List.length_append,bytesC_length]; rfl
def hopC (q:Rt):List Value:=rowC q.addr q.bits++[iV q.hop]
def flatH (ms:List Rt):List Value:=ms.flatMap hopC
theorem hopC_length (q:Rt):(hopC q).length=q.addr.size+2:=by unfold hopC; rw [List.length_append,rowC_length]; rfl
section
variable {w W:World} {B o:Nat} {xs ys:List Value}
theorem rangeAt_left (h:w.rangeAt B o (xs++ys)):w.rangeAt B o xs:=fun j v hv=>h j v (by rw [List.getElem?_append_left (List.getElem?_eq_some_iff.1 hv).1]; exact hv)
theorem HoldsL.left (h:HoldsL w B (xs++ys)):w.rangeAt B 0 xs:=rangeAt_left h.at0
end
theorem flatH_get (n:Nat):∀ (ms:List Rt) (hm:∀ q∈ms,q.addr.size=n) (i:Nat) (h:i < ms.length) (j:Nat) (v:Value),(hopC ms[i])[j]?=some v→(flatH ms)[i*(n+2)+j]?=some v
 | [],_,i,h,_,_,_=>by simp at h
 | q::ms,hm,0,h,j,v,hv=>by
  have hv:(hopC q)[j]?=some v:=hv;unfold flatH;rw [List.flatMap_cons,Nat.zero_mul,Nat.zero_add,List.getElem?_append_left (List.getElem?_eq_some_iff.1 hv).1]; exact hv
 | q::ms,hm,i+1,h,j,v,hv=>by
  have ih:=flatH_get n ms (fun x hx=>hm x (by simp [hx])) i (by simpa using h) j v (by simpa using hv);unfold flatH at *;have hl:(hopC q).length=n+2:=by rw [hopC_length,hm q (by simp)]
  rw [List.flatMap_cons,List.getElem?_append_right (by rw [hl,Nat.succ_mul]; omega),hl];rw [show (i+1)*(n+2)+j-(n+2)=i*(n+2)+j by rw [Nat.succ_mul]; omega];exact ih
def MoreAt (w:World) (n:Nat) (E:TypeId) (mv:Value) (ms:List Rt):Prop:=w.ownsRow 0 E (n+2) mv ms.length (flatH ms)
section
variable {w W:World} {n E:Nat} {mv:Value} {ms:List Rt}
theorem MoreAt.nil:MoreAt w n E (.slice none 0 0) []:=⟨by simp [flatH],.inl ⟨rfl,rfl⟩⟩
theorem MoreAt.shape (h:MoreAt w n E mv ms):(mv=.slice none 0 0∧ms=[])∨∃ g cap,mv=.slice (some ⟨g,0,none⟩) ms.length cap∧ms.length≤cap∧g < w.heap.size:=by
 rcases h.2 with ⟨h1,h2⟩ | ⟨g,cap,cur,h1,_,hg,hc,_⟩
 ·exact .inl ⟨h1,List.length_eq_zero_iff.1 h2⟩
 ·exact .inr ⟨g,cap,h1,hc,(Array.getElem?_eq_some_iff.1 hg).1⟩
theorem MoreAt.one (h:MoreAt w n E mv ms):mv.oneCell'=true:=by
 rcases h.shape with ⟨rfl,_⟩ | ⟨g,cap,rfl,_,_⟩<;>rfl
theorem MoreAt.get {g cap:Nat} (h:MoreAt w n E (.slice (some ⟨g,0,none⟩) ms.length cap) ms) (hm:∀ q∈ms,q.addr.size=n) (i:Nat) (hi:i < ms.length):w.rangeAt g (i*(n+2)) (hopC ms[i]):=fun j v hv=>by
 have hj:j < n+2:=by have:=(List.getElem?_eq_some_iff.1 hv).1; rwa [hopC_length,hm _ (List.getElem_mem hi)] at this
 have hlt:i*(n+2)+j < ms.length*(n+2):=by
  have:=Nat.mul_le_mul_right (n+2) (show i+1≤ms.length from hi);rw [Nat.succ_mul] at this; omega
 rw [World.ownsRow.cellAt h _ hlt];exact flatH_get n ms hm i hi j v hv
theorem MoreAt.kept {row:Option Nat} (h:MoreAt w n E mv ms) (hg:w.grownBy W row) (hne:mv.ownBlock=none∨mv.ownBlock≠row):MoreAt W n E mv ms:=World.ownsRow.kept h hg hne
theorem MoreAt.below (h:MoreAt w n E mv ms) (hB:Below w.heap.size w W):MoreAt W n E mv ms:=h.kept (grown_of_below (r:=none) hB) (by cases mv.ownBlock<;>simp)
end
structure FSt (w:World) (m X:Nat) (cs zs:List Value) (mv:Value) (wx:World):Prop where
 x:HoldsL wx X cs
 z:HoldsL wx (w.heap.size+1) zs
 c:wx.cell? ⟨w.heap.size,m,none⟩=some mv
 b:Below w.heap.size w wx
 le:w.heap.size+1+1≤X
section
variable {w wx wy:World} {m X:Nat} {cs zs:List Value} {mv:Value}
theorem FSt.set (h:FSt w m X cs zs mv wx) (j:Nat) (v:Value):FSt w m X (cs.set j v) zs mv (wx.setCell ⟨X,j,none⟩ v):=by
 have hle:=h.le;exact ⟨h.x.set j v,h.z.setOther (by omega) v,(World.cell?_setCell_other _ _ _ _ (fun e=>by injection e with e1 _; omega)).trans h.c,h.b.setCell (by show w.heap.size≤X; omega) v,hle⟩
theorem FSt.below (h:FSt w m X cs zs mv wx) (hx:0 < cs.length) (hz:0 < zs.length) (hB:Below wx.heap.size wx wy):FSt w m X cs zs mv wy :=
 ⟨h.x.kept hx hB,h.z.kept hz hB,((bcell hB).1 _ _ (World.block_lt_of_cell? wx _ h.c)).trans h.c,h.b.trans (hB.mono h.b.size),h.le⟩
theorem FSt.grown {row:Option Nat} (h:FSt w m X cs zs mv wx) (hx:0 < cs.length) (hz:0 < zs.length) (hg:wx.grownBy wy row) (hr:∀ g,row=some g→w.heap.size+1+1≤g∧g≠X):FSt w m X cs zs mv wy:=by
 have h1:some X≠row:=fun e=>(hr X e.symm).2 rfl
 have h2:some (w.heap.size+1)≠row:=fun e=>by have:=(hr _ e.symm).1; omega
 have h3:some w.heap.size≠row:=fun e=>by have:=(hr _ e.symm).1; omega
 refine ⟨h.x.grown hx hg h1,h.z.grown hz hg h2,hg.cell h.c h3,?_,h.le⟩;exact ⟨hg.os.trans h.b.os,hg.tape.trans h.b.tape,hg.output.trans h.b.output,Nat.le_trans h.b.size hg.size,fun k hk=>by
  rw [hg.block k (Nat.lt_of_lt_of_le hk h.b.size) (fun e=>by have:=(hr k e.symm).1; omega)]; exact h.b.block k hk⟩
theorem FSt.alloc (h:FSt w m X cs zs mv wx) (hx:0 < cs.length) (hz:0 < zs.length) (o:Obj):FSt w m X cs zs mv (wx.alloc o):=h.below hx hz ((Below.refl _ _).alloc (Nat.le_refl _) o)
theorem FSt.drew (h:FSt w m X cs zs mv wx):FSt w m X cs zs mv wx.drew:=⟨h.x.drew,h.z.drew,h.c,h.b.drew,h.le⟩
end
theorem wpSeq_store {P:Program} {Q:Exit→Act→World→Prop} {op:Oper} {a:Act} {w:World} (ty:TypeId) (x y:Operand) (ho:op.op=.store ty x y) (b o:Nat) (cells:Array Value) (hx:a.eval x=.pointer (some ⟨b,o,none⟩)) (hy:a.eval y=.agg cells)
  (ht:w.there b o cells.size) (hi:(P.info? ty).map (·.size)=some cells.size) (h1:cells.all (·.oneCell')=true) (h:Q .normal (a.put op.dst undef) (w.setCells b o cells.toList)):wpSeq P Q [op] a w :=
 fun K' hK=>wp_store_mid ty x y ho b o cells hx hy ht hi h1 (hK _ _ h)
structure PassO (p:Pl) (x:Bb) (q:P4) (now:Int) (ans:No) (ft cd:Int) (ld:Bool) (fl:Fl) (nv:Bo) (gg:Fl):Prop where
 a1:ft≠0→ans=noE ft
 a2:ft=0→ld=false→ans=noE 6
 a3:ft=0→ld=true→cd≠0→ans=noE cd
 tc:ft=0→cd=0→q.proto=6→20≤q.data.size
 sz:ft=0→q.data.size≤20000
 tb:ft=0→cd=0→bibTouchV p x ⟨fl.proto,true,fl.src,fl.sp,fl.dst,peerV fl.proto fl.dp,flagV q.proto q.data⟩ now=nv
 fs:ft=0→cd=0→fl.src.size=4∧fl.dst.size=4
 a4:ft=0→ld=true→cd=0→nv.code≠0→ans=noE nv.code
 a5:ft=0→ld=true→cd=0→nv.code=0→nv.bind.inn.size≠4→ans=noE 11
 ns:ft=0→cd=0→nv.code=0→nv.bind.inn.size≤16
 gs:ft=0→cd=0→nv.code=0→nv.bind.inn.size=4→gg.src.size=4∧gg.dst.size=4
 a6:ft=0→ld=true→cd=0→nv.code=0→nv.bind.inn.size=4→ans=⟨nv.bib,{ q with src:=gg.src,dst:=gg.dst,data:=setData fl gg q.data },p6Zero,0⟩
structure PassI (p:Pl) (x:Bb) (q:P4) (now:Int) (ans:No) (ft cd:Int) (ld:Bool) (fl:Fl) (nv:Bo) (gg:Fl):Prop where
 a1:ft≠0→ans=noE ft
 a2:ft=0→ld=false→ans=noE 6
 a3:ft=0→ld=true→cd≠0→ans=noE cd
 tc:ft=0→cd=0→q.proto=6→20≤q.data.size
 sz:ft=0→q.data.size≤20000
 tb:ft=0→cd=0→bibTouchV p x ⟨fl.proto,false,fl.dst,fl.dp,fl.src,peerV fl.proto fl.sp,flagV q.proto q.data⟩ now=nv
 fs:ft=0→cd=0→fl.src.size=4∧fl.dst.size=4
 a4:ft=0→ld=true→cd=0→nv.code≠0→ans=noE nv.code
 a5:ft=0→ld=true→cd=0→nv.code=0→nv.bind.inn.size≠4→ans=noE 11
 ns:ft=0→cd=0→nv.code=0→nv.bind.inn.size≤16
 gs:ft=0→cd=0→nv.code=0→nv.bind.inn.size=4→gg.src.size=4∧gg.dst.size=4
 a6:ft=0→ld=true→cd=0→nv.code=0→nv.bind.inn.size=4→ans=⟨nv.bib,{ q with src:=gg.src,dst:=gg.dst,data:=setData fl gg q.data },p6Zero,0⟩
theorem passI_is (p:Pl) (x:Bb) (q:P4) (now:Int):∃ nv gg,PassI p x q now (natComeV p x q now) (natFt p x q now) (flowCode q.src q.dst q.proto q.data) (inL p.addrs q.dst) (flowOfV q.src q.dst q.proto q.data) nv gg∧gg=⟨(flowOfV q.src q.dst q.proto q.data).proto,(flowOfV q.src q.dst q.proto q.data).src,nv.bind.inn,if echoP (flowOfV q.src q.dst q.proto q.data).proto=true then nv.bind.inPort else (flowOfV q.src q.dst q.proto q.data).sp,nv.bind.inPort⟩:=by
 obtain ⟨nv,hnv⟩ : ∃ nv,nv=goV p x (comeT (ofFl q.src q.dst q.proto q.data) q.data) now:=⟨_,rfl⟩;refine ⟨nv,_,?_,rfl⟩;have hv:natFt p x q now=0→natComeV p x q now=natComeIn p x q now:=fun h=>by unfold natComeV; rw [if_neg (by simp [h])]
 have hft:natFt p x q now=0→v4Ok q=true:=fun h=>(nat_parts h).2.1
 have hcd:natFt p x q now=0→flowCode q.src q.dst q.proto q.data=ofCode q.src.size q.proto q.data:=fun h=>(flow_four (hft h)).1
 have hfl:natFt p x q now=0→flowCode q.src q.dst q.proto q.data=0→flowOfV q.src q.dst q.proto q.data=ofFl q.src q.dst q.proto q.data:=fun h h2=>(flow_four (hft h)).2 (by rw [← hcd h]; exact h2)
 have hpass:=fun (h:natFt p x q now=0) (h2:flowCode q.src q.dst q.proto q.data=0)=>pass_in (p:=p) (x:=x) (q:=q) (now:=now) h (by rw [← hcd h]; exact h2) (flowOfV q.src q.dst q.proto q.data) (hfl h h2) nv (by rw [hfl h h2]; exact hnv)
 refine ⟨fun h=>?_,fun h hl=>?_,fun h hl c=>?_,fun h c hp=>?_,fun h=>?_,fun h c=>(hpass h c).1,fun h c=>⟨(hpass h c).2.1,(hpass h c).2.2.1⟩,fun h hl c n=>?_,fun h hl c n i=>?_,fun h c n=>?_,fun h c n i=>?_,fun h hl c n i=>?_⟩
 ·unfold natComeV; rw [if_pos h]
 ·rw [hv h]; unfold natComeIn; rw [if_pos hl]
 ·rw [hv h]; unfold natComeIn; rw [if_neg (by rw [hl]; simp)]; rw [if_pos (by rw [← hcd h]; exact c),hcd h]
 ·have c2:ofCode q.src.size q.proto q.data=0:=by rw [← hcd h]; exact c
  rw [hp] at c2; exact tcp_long c2
 ·have:=(v4_sizes (hft h)).2.2.2; omega
 ·rw [hv h]; unfold natComeIn; rw [if_neg (by rw [hl]; simp)]; rw [if_neg (by rw [← hcd h]; simp [c]),← hnv,if_pos n]
 ·rw [hv h]; unfold natComeIn; rw [if_neg (by rw [hl]; simp)]; rw [if_neg (by rw [← hcd h]; simp [c]),← hnv,if_neg (by simp [n]),if_pos i]
 ·exact ((hpass h c).2.2.2 n).1
 ·obtain ⟨G,hG,-,-,e4,e5⟩:=((hpass h c).2.2.2 n).2 i;rw [hG,e4,e5]; exact ⟨(v4_sizes (hft h)).1,i⟩
 ·obtain ⟨G,hG,hG2,hS,e4,e5⟩:=((hpass h c).2.2.2 n).2 i;rw [hv h,hG,hS,e4,e5]; unfold natComeIn;rw [if_neg (by rw [hl]; simp),if_neg (by rw [← hcd h]; simp [c]),← hnv,if_neg (by simp [n]),if_neg (by simp [i]),hG2,hfl h c]
theorem natPassI_any (pa:Option Addr) (pc:Nat) (p:Pl) (ba bo:Option Addr) (ca cb:Nat) (x:Bb) (q:P4) (now:Int) (w:World) (hT:TabB w) (hlp:p.addrs.length≤1048576) (hpc:p.addrs.length≤pc) (hsz:∀ s∈p.addrs,s.size≤1048576) (hl1:x.binds.length≤1048576) (hl2:x.sess.length≤1048576) (hgb:∀ q∈x.binds,BdGood q) (hgs:∀ s∈x.sess,SsGood s) (q1:q.src.size≤1048576) (q2:q.dst.size≤1048576) (q3:q.opts.size≤1048576) (q4:q.data.size≤1048576) (hp:SlIs strL1 1 w pa p.addrs) (hx:BbIs w ba bo x) :
  Calls Tryz.prog 35 #[.iface 80 (.agg #[.slice pa p.addrs.length pc]),plC pa pc p,bbC ba bo ca cb x,p4C q,iV now] w fun e w'=>NoRet w.heap.size (natComeV p x q now) e w'∧Below w.heap.size w w':=by
 obtain ⟨nv,gg,HPS,hgg⟩:=passI_is p x q now;have CFT:Hid (∀ W,Below w.heap.size w W→Cb 47 #[plC pa pc p,bbC ba bo ca cb x,p4C q,iV now] W (iV (natFt p x q now))):=fun W hW=>ip9Ok_any pa pc p ba bo ca cb x q now W hlp hpc hsz hl1 hl2 hgb hgs q1 q2 q3 q4 (hp.below hW) (hx.below hW)
 have CLD:Hid (∀ W,Below w.heap.size w W→Cb 59 #[.iface 80 (.agg #[.slice pa p.addrs.length pc]),.string q.dst] W (.bool (inL p.addrs q.dst))):=fun W hW=>leadsI_any p.addrs q.dst pa pc W hlp (hp.below hW)
 have CFO:Hid (∀ W,Cb 60 #[.string q.src,.string q.dst,iV q.proto,.string q.data] W (fwCO (flowOfV q.src q.dst q.proto q.data) (flowCode q.src q.dst q.proto q.data))):=fun W=>implFlowOf_any _ _ _ _ W q1 q2 q4
 generalize flowOfV q.src q.dst q.proto q.data=fl at *;generalize flowCode q.src q.dst q.proto q.data=cd at *;generalize natFt p x q now=ft at *;generalize natComeV p x q now=ans at *;generalize inL p.addrs q.dst=ld at *;have CTO:Hid (∀ W,Cb 206 #[.agg #[.slice pa p.addrs.length pc],fwC fl] W (tcC ⟨fl.proto,false,fl.dst,fl.dp,fl.src,peerV fl.proto fl.sp,0⟩)):=fun W=>ipTouchI_any fl pa p.addrs.length pc W
 have CFL:Hid (ft=0→cd=0→∀ W,Cb 61 #[iV q.proto,.string q.data] W (iV (flagV q.proto q.data))):=fun h c W=>ipFlags_any _ _ W (HPS.sz h) (HPS.tc h c)
 have CBT:Hid (ft=0→cd=0→∀ W,Below w.heap.size w W→Calls Tryz.prog 62 #[plC pa pc p,bbC ba bo ca cb x,tcC ⟨fl.proto,false,fl.dst,fl.dp,fl.src,peerV fl.proto fl.sp,(flagV q.proto q.data)⟩,iV now] W fun e w'=>BoRet W.heap.size nv e w'∧Below W.heap.size W w'):=fun h c W hW=>by
  have:=implBibTouch_any pa pc p ba bo ca cb x ⟨fl.proto,false,fl.dst,fl.dp,fl.src,peerV fl.proto fl.sp,(flagV q.proto q.data)⟩ now W (hT.below hW) (by dsimp only; have:=HPS.fs h c; omega) (by dsimp only; have:=HPS.fs h c; omega) hlp hpc hsz hl1 hl2 hgb hgs (hp.below hW) (hx.below hW);rw [HPS.tb h c] at this; exact this
 have CTU:Hid (∀ W,Cb 207 #[.agg #[.slice pa p.addrs.length pc],fwC fl,bdC nv.bind] W (fwC gg)):=fun W=>by rw [hgg]; exact ipTurnI_any fl nv.bind pa p.addrs.length pc W
 have CAS:Hid (ft=0→cd=0→nv.code=0→nv.bind.inn.size=4→∀ W,Cb 63 #[p4C q,fwC fl,fwC gg] W (p4C { q with src:=gg.src,dst:=gg.dst,data:=setData fl gg q.data })):=fun h c n i W=>by
  have hf:=HPS.fs h c;have hg:=HPS.gs h c n i;exact asFlow_any q fl gg _ _ W q1 q2 q3 q4 (fun W=>implCarrySet_any fl gg q.data W (by omega) (by omega) (by omega) (by omega) q4 (by omega))
 have HPS:Hid (PassI p x q now ans ft cd ld fl nv gg):=HPS;clear hgg hT hlp hpc hsz hl1 hl2 hgb hgs hp hx q1 q2 q3
 have hmtouch : ∀ W, (method 339 80 (.agg #[.slice pa p.addrs.length pc]) "loop.example/g00314/impl.touch").run Tryz.prog W = .ok (206, .agg #[.slice pa p.addrs.length pc]) W := fun W => by kernel_rfl
 have hmturn : ∀ W, (method 339 80 (.agg #[.slice pa p.addrs.length pc]) "loop.example/g00314/impl.turn").run Tryz.prog W = .ok (207, .agg #[.slice pa p.addrs.length pc]) W := fun W => by kernel_rfl
 unfold plC bbC p4C fwC fwCO tcC bdC at *;dsimp only at *;generalize peerV fl.proto fl.sp=pe at *;generalize hsd:setData fl gg q.data=sd at *;have HSD:Hid (setData fl gg q.data=sd):=hsd;clear hsd;generalize flagV q.proto q.data=fg at *;have HS0:=bx4 w (PlV pa pc p) 48 (BbV ba ca bo cb x) 39 (P4V q) 40 [.slice none 0 0,.slice none 0 0,iV 0,iV 0,.bool false,.bool false,iV 0,iV 0,iV 0,.string ⟨#[]⟩,.string ⟨#[]⟩,.string ⟨#[]⟩,.string ⟨#[]⟩,iV 0,iV 0,iV 0,iV 0,.string ⟨#[]⟩,.string ⟨#[]⟩,.bool false,.bool false,iV 0,iV 0,.string ⟨#[]⟩,iV 0] 44 (by simp) (by simp) (by simp) (by simp)
 skip;have hRw:w.heap.size≤w.heap.size+1+1+1:=by omega
 go_enter Tryz.func35,Tryz.ntmps35
 go_upto_region 1 with fail
 generalize ((aW (aW (aW w (PlV pa pc p) 48) (BbV ba ca bo cb x) 39) (P4V q) 40).alloc (.cells #[.slice none 0 0,.slice none 0 0,iV 0,iV 0,.bool false,.bool false,iV 0,iV 0,iV 0,.string ⟨#[]⟩,.string ⟨#[]⟩,.string ⟨#[]⟩,.string ⟨#[]⟩,iV 0,iV 0,iV 0,iV 0,.string ⟨#[]⟩,.string ⟨#[]⟩,.bool false,.bool false,iV 0,iV 0,.string ⟨#[]⟩,iV 0] 44))=W0 at *;have HHk:=HS0.out.at mE0;have k0:=HHk.cell (j:=0) rfl;have k1:=HHk.cell (j:=1) rfl;have k2:=HHk.cell (j:=2) rfl;have k3:=HHk.cell (j:=3) rfl;have k4:=HHk.cell (j:=4) rfl;have k5:=HHk.cell (j:=5) rfl;have k6:=HHk.cell (j:=6) rfl;have k7:=HHk.cell (j:=7) rfl;have k8:=HHk.cell (j:=8) rfl;have k9:=HHk.cell (j:=9) rfl;clear HHk;have HHl:=HS0.out.at mE1;have l0:=HHl.cell (j:=0) rfl;have l1:=HHl.cell (j:=1) rfl;clear HHl;have HHm:=HS0.out.at mE2;have m0:=HHm.cell (j:=0) rfl;have m1:=HHm.cell (j:=1) rfl;have m2:=HHm.cell (j:=2) rfl;have m3:=HHm.cell (j:=3) rfl;have m4:=HHm.cell (j:=4) rfl;have m5:=HHm.cell (j:=5) rfl;have m6:=HHm.cell (j:=6) rfl;have m7:=HHm.cell (j:=7) rfl;have m8:=HHm.cell (j:=8) rfl;have m9:=HHm.cell (j:=9) rfl;have m10:=HHm.cell (j:=10) rfl;clear HHm;go_wp2_with fail
 refine (CFT.out W0 HS0.out.b).mono ?_;rintro e W1 ⟨rfl,r1⟩;have S1:Hid _:=HS0.out.kept r1;clear r1 HS0 CFT k0 k1 k2 k3 k4 k5 k6 k7 k8 k9 l0 l1 m0 m1 m2 m3 m4 m5 m6 m7 m8 m9 m10;by_cases hft:ft=0
 case neg =>
  have d0:(ft != 0)=true:=by simp [hft]
  have HX:Hid (ans=noE (ft)):=HPS.out.a1 hft;have HTH:Hid (W1.there (w.heap.size+1+1+1) 0 (noL none none 0 0 (noE (ft))).toArray.size):=noL_there (show HoldsL W1 (w.heap.size+1+1+1) (noL none none 0 0 (noE 0)) from S1.out.k _ mE3) _ _ _ _ _;have HRR:Hid (HoldsL (W1.setCells (w.heap.size+1+1+1) 0 (noL none none 0 0 (noE (ft))).toArray.toList) (w.heap.size+1+1+1) (noL none none 0 0 (noE (ft)))):=(show HoldsL W1 (w.heap.size+1+1+1) (noL none none 0 0 (noE 0)) from S1.out.k _ mE3).mid rfl;have RB:Hid (Below w.heap.size w (W1.setCells (w.heap.size+1+1+1) 0 (noL none none 0 0 (noE (ft))).toArray.toList)):=Below.mid S1.out.b hRw _;go_wp2_with (refine wpList_store_mid (by rfl) 44 (.tmp 10) (.tmp 24) (by rfl) (w.heap.size+1+1+1) 0 (noL none none 0 0 (noE (ft))).toArray (by rfl) (by rfl) HTH.out no_info (noL_one _ _ _ _ _) ?_)
  exact bodyPost_ret (results_mid Tryz.results35 _ _ (w.heap.size+1+1+1) (noL none none 0 0 (noE (ft))) _ rfl HRR.out Tryz.underlying44 rfl no_info) rfl (And.intro (by rw [HX.out]; exact noRet_ill _) RB.out)
 have d0:(ft != 0)=false:=by simp [hft]
 go_upto_region 4 with fail
 clear d0;have HHm:=S1.out.at mE2;have m0:=HHm.cell (j:=0) rfl;have m1:=HHm.cell (j:=1) rfl;have m2:=HHm.cell (j:=2) rfl;have m3:=HHm.cell (j:=3) rfl;have m4:=HHm.cell (j:=4) rfl;have m5:=HHm.cell (j:=5) rfl;have m6:=HHm.cell (j:=6) rfl;have m7:=HHm.cell (j:=7) rfl;have m8:=HHm.cell (j:=8) rfl;have m9:=HHm.cell (j:=9) rfl;have m10:=HHm.cell (j:=10) rfl;clear HHm;go_wp2_with fail
 refine (CLD.out W1 S1.out.b).mono ?_;rintro e W2 ⟨rfl,r1⟩;have S2:Hid _:=S1.out.kept r1;clear r1 S1 CLD m0 m1 m2 m3 m4 m5 m6 m7 m8 m9 m10
 cases ld with
 | false =>
  have HX:Hid (ans=noE (6)):=HPS.out.a2 hft rfl;have HTH:Hid (W2.there (w.heap.size+1+1+1) 0 (noL none none 0 0 (noE (6))).toArray.size):=noL_there (show HoldsL W2 (w.heap.size+1+1+1) (noL none none 0 0 (noE 0)) from S2.out.k _ mE3) _ _ _ _ _;have HRR:Hid (HoldsL (W2.setCells (w.heap.size+1+1+1) 0 (noL none none 0 0 (noE (6))).toArray.toList) (w.heap.size+1+1+1) (noL none none 0 0 (noE (6)))):=(show HoldsL W2 (w.heap.size+1+1+1) (noL none none 0 0 (noE 0)) from S2.out.k _ mE3).mid rfl;have RB:Hid (Below w.heap.size w (W2.setCells (w.heap.size+1+1+1) 0 (noL none none 0 0 (noE (6))).toArray.toList)):=Below.mid S2.out.b hRw _;go_wp2_with (refine wpList_store_mid (by rfl) 44 (.tmp 10) (.tmp 30) (by rfl) (w.heap.size+1+1+1) 0 (noL none none 0 0 (noE (6))).toArray (by rfl) (by rfl) HTH.out no_info (noL_one _ _ _ _ _) ?_)
  exact bodyPost_ret (results_mid Tryz.results35 _ _ (w.heap.size+1+1+1) (noL none none 0 0 (noE (6))) _ rfl HRR.out Tryz.underlying44 rfl no_info) rfl (And.intro (by rw [HX.out]; exact noRet_ill _) RB.out)
 | true =>
 go_upto_region 6 with fail
 have HHm:=S2.out.at mE2;have m0:=HHm.cell (j:=0) rfl;have m1:=HHm.cell (j:=1) rfl;have m2:=HHm.cell (j:=2) rfl;have m3:=HHm.cell (j:=3) rfl;have m4:=HHm.cell (j:=4) rfl;have m5:=HHm.cell (j:=5) rfl;have m6:=HHm.cell (j:=6) rfl;have m7:=HHm.cell (j:=7) rfl;have m8:=HHm.cell (j:=8) rfl;have m9:=HHm.cell (j:=9) rfl;have m10:=HHm.cell (j:=10) rfl;clear HHm;go_wp2_with fail
 refine (CFO.out W2).mono ?_;rintro e W3 ⟨rfl,r1⟩;have S4:Hid (Bxs w ((W3.heap.size,[iV fl.proto,.string fl.src,.string fl.dst,iV fl.sp,iV fl.dp,iV cd])::[(w.heap.size,(PlV pa pc p)),(w.heap.size+1,(BbV ba ca bo cb x)),(w.heap.size+1+1,(P4V q)),(w.heap.size+1+1+1,[.slice none 0 0,.slice none 0 0,iV 0,iV 0,.bool false,.bool false,iV 0,iV 0,iV 0,.string ⟨#[]⟩,.string ⟨#[]⟩,.string ⟨#[]⟩,.string ⟨#[]⟩,iV 0,iV 0,iV 0,iV 0,.string ⟨#[]⟩,.string ⟨#[]⟩,.bool false,.bool false,iV 0,iV 0,.string ⟨#[]⟩,iV 0])]) (W3.alloc (.cells #[iV fl.proto,.string fl.src,.string fl.dst,iV fl.sp,iV fl.dp,iV cd] 109))):=(S2.out.kept r1).push [iV fl.proto,.string fl.src,.string fl.dst,iV fl.sp,iV fl.dp,iV cd] (by simp) _;have hFb:w.heap.size+1+1+1 < W3.heap.size:=((S2.out.kept r1).k _ mE3).lt (by simp);clear r1 S2 CFO m0 m1 m2 m3 m4 m5 m6 m7 m8 m9 m10;go_upto_region 7 with fail
 generalize (W3.alloc (.cells #[iV fl.proto,.string fl.src,.string fl.dst,iV fl.sp,iV fl.dp,iV cd] 109))=W4 at *;generalize W3.heap.size=Fb at *;have HHk:=S4.out.at mE0;have k0:=HHk.cell (j:=0) rfl;have k1:=HHk.cell (j:=1) rfl;have k2:=HHk.cell (j:=2) rfl;have k3:=HHk.cell (j:=3) rfl;have k4:=HHk.cell (j:=4) rfl;have k5:=HHk.cell (j:=5) rfl;clear HHk;by_cases hcd:cd=0
 case neg =>
  have d0:(cd != 0)=true:=by simp [hcd]
  have HX:Hid (ans=noE (cd)):=HPS.out.a3 hft rfl hcd;have HTH:Hid (W4.there (w.heap.size+1+1+1) 0 (noL none none 0 0 (noE (cd))).toArray.size):=noL_there (show HoldsL W4 (w.heap.size+1+1+1) (noL none none 0 0 (noE 0)) from S4.out.k _ mE4) _ _ _ _ _;have HRR:Hid (HoldsL (W4.setCells (w.heap.size+1+1+1) 0 (noL none none 0 0 (noE (cd))).toArray.toList) (w.heap.size+1+1+1) (noL none none 0 0 (noE (cd)))):=(show HoldsL W4 (w.heap.size+1+1+1) (noL none none 0 0 (noE 0)) from S4.out.k _ mE4).mid rfl;have RB:Hid (Below w.heap.size w (W4.setCells (w.heap.size+1+1+1) 0 (noL none none 0 0 (noE (cd))).toArray.toList)):=Below.mid S4.out.b hRw _;go_wp2_with (refine wpList_store_mid (by rfl) 44 (.tmp 10) (.tmp 45) (by rfl) (w.heap.size+1+1+1) 0 (noL none none 0 0 (noE (cd))).toArray (by rfl) (by rfl) HTH.out no_info (noL_one _ _ _ _ _) ?_)
  exact bodyPost_ret (results_mid Tryz.results35 _ _ (w.heap.size+1+1+1) (noL none none 0 0 (noE (cd))) _ rfl HRR.out Tryz.underlying44 rfl no_info) rfl (And.intro (by rw [HX.out]; exact noRet_ill _) RB.out)
 have d0:(cd != 0)=false:=by simp [hcd]
 replace CFL:Hid _:=CFL.out hft hcd;replace CBT:Hid _:=CBT.out hft hcd;replace CAS:Hid _:=CAS.out hft hcd;go_upto_region 9 with fail
 clear d0;go_wp2_with fail
 refine (CTO.out W4).mono ?_;rintro e W5 ⟨rfl,r1⟩;have S6:Hid (Bxs w ((W5.heap.size,(TcR fl.proto false fl.dst fl.dp fl.src pe 0))::[(Fb,[iV fl.proto,.string fl.src,.string fl.dst,iV fl.sp,iV fl.dp,iV cd]),(w.heap.size,(PlV pa pc p)),(w.heap.size+1,(BbV ba ca bo cb x)),(w.heap.size+1+1,(P4V q)),(w.heap.size+1+1+1,[.slice none 0 0,.slice none 0 0,iV 0,iV 0,.bool false,.bool false,iV 0,iV 0,iV 0,.string ⟨#[]⟩,.string ⟨#[]⟩,.string ⟨#[]⟩,.string ⟨#[]⟩,iV 0,iV 0,iV 0,iV 0,.string ⟨#[]⟩,.string ⟨#[]⟩,.bool false,.bool false,iV 0,iV 0,.string ⟨#[]⟩,iV 0])]) (W5.alloc (.cells (TcR fl.proto false fl.dst fl.dp fl.src pe 0).toArray 112))):=(S4.out.kept r1).push (TcR fl.proto false fl.dst fl.dp fl.src pe 0) (by simp) _;have hTb:Fb < W5.heap.size:=((S4.out.kept r1).k _ mE0).lt (by simp);clear r1 S4 CTO hmtouch k0 k1 k2 k3 k4 k5;go_upto_region 10 with fail
 generalize (W5.alloc (.cells (TcR fl.proto false fl.dst fl.dp fl.src pe 0).toArray 112))=W6 at *;generalize W5.heap.size=Tb at *;have HHm:=S6.out.at mE4;have m0:=HHm.cell (j:=0) rfl;have m1:=HHm.cell (j:=1) rfl;have m2:=HHm.cell (j:=2) rfl;have m3:=HHm.cell (j:=3) rfl;have m4:=HHm.cell (j:=4) rfl;have m5:=HHm.cell (j:=5) rfl;have m6:=HHm.cell (j:=6) rfl;have m7:=HHm.cell (j:=7) rfl;have m8:=HHm.cell (j:=8) rfl;have m9:=HHm.cell (j:=9) rfl;have m10:=HHm.cell (j:=10) rfl;clear HHm;go_wp2_with fail
 refine (CFL.out W6).mono ?_;rintro e W7 ⟨rfl,r1⟩;have S7:Hid _:=S6.out.kept r1;clear r1 S6 CFL m0 m1 m2 m3 m4 m5 m6 m7 m8 m9 m10;have HHt:=S7.out.at mE0;have tc6:=HHt.cell (j:=6) rfl;have tf6:=HHt.free (j:=6) (by simp);clear HHt;have S8:Hid (Bxs w [(Tb,(TcR fl.proto false fl.dst fl.dp fl.src pe fg)),(Fb,[iV fl.proto,.string fl.src,.string fl.dst,iV fl.sp,iV fl.dp,iV cd]),(w.heap.size,(PlV pa pc p)),(w.heap.size+1,(BbV ba ca bo cb x)),(w.heap.size+1+1,(P4V q)),(w.heap.size+1+1+1,[.slice none 0 0,.slice none 0 0,iV 0,iV 0,.bool false,.bool false,iV 0,iV 0,iV 0,.string ⟨#[]⟩,.string ⟨#[]⟩,.string ⟨#[]⟩,.string ⟨#[]⟩,iV 0,iV 0,iV 0,iV 0,.string ⟨#[]⟩,.string ⟨#[]⟩,.bool false,.bool false,iV 0,iV 0,.string ⟨#[]⟩,iV 0])] (W7.setCell ⟨Tb,6,none⟩ (iV fg))):=⟨fun e he=>by
  simp only [List.mem_cons,List.not_mem_nil,or_false] at he;rcases he with rfl | rfl | rfl | rfl | rfl | rfl
  ·exact (S7.out.k _ mE0).set 6 (iV fg)
  ·exact (S7.out.k _ mE1).setOther (by show Fb≠Tb; omega) _
  ·exact (S7.out.k _ mE2).setOther (by omega) _
  ·exact (S7.out.k _ mE3).setOther (by omega) _
  ·exact (S7.out.k _ mE4).setOther (by omega) _
  ·exact (S7.out.k _ mE5).setOther (by omega) _,S7.out.b.setCell (p:=⟨Tb,6,none⟩) (show w.heap.size≤Tb by omega) _,fun e he=>by
  simp only [List.mem_cons,List.not_mem_nil,or_false] at he;rcases he with rfl | rfl | rfl | rfl | rfl | rfl<;>simp⟩
 clear S7;go_upto_region 11 with fail
 generalize (W7.setCell ⟨Tb,6,none⟩ (iV fg))=W8 at *;clear tc6 tf6;have HHk:=S8.out.at mE2;have k0:=HHk.cell (j:=0) rfl;have k1:=HHk.cell (j:=1) rfl;have k2:=HHk.cell (j:=2) rfl;have k3:=HHk.cell (j:=3) rfl;have k4:=HHk.cell (j:=4) rfl;have k5:=HHk.cell (j:=5) rfl;have k6:=HHk.cell (j:=6) rfl;have k7:=HHk.cell (j:=7) rfl;have k8:=HHk.cell (j:=8) rfl;have k9:=HHk.cell (j:=9) rfl;clear HHk;have HHl:=S8.out.at mE3;have l0:=HHl.cell (j:=0) rfl;have l1:=HHl.cell (j:=1) rfl;clear HHl;have HHm:=S8.out.at mE0;have m0:=HHm.cell (j:=0) rfl;have m1:=HHm.cell (j:=1) rfl;have m2:=HHm.cell (j:=2) rfl;have m3:=HHm.cell (j:=3) rfl;have m4:=HHm.cell (j:=4) rfl;have m5:=HHm.cell (j:=5) rfl;have m6:=HHm.cell (j:=6) rfl;clear HHm;have hR8:w.heap.size+1+1+1 < W8.heap.size:=(S8.out.k _ mE5).lt (by simp);have hw8:w.heap.size≤W8.heap.size:=S8.out.b.size;go_wp2_with fail
 refine (CBT.out W8 S8.out.b).mono ?_;rintro e W9 ⟨⟨a9,b9,c9,d9,rfl,hown⟩,r3⟩;unfold boC;have S10:Hid (Bxs w ((W9.heap.size,[.slice a9 nv.bib.binds.length c9,.slice b9 nv.bib.sess.length d9,iV nv.bind.proto,.string nv.bind.inn,iV nv.bind.inPort,.string nv.bind.out,iV nv.bind.outPort,iV nv.code])::[(Tb,(TcR fl.proto false fl.dst fl.dp fl.src pe fg)),(Fb,[iV fl.proto,.string fl.src,.string fl.dst,iV fl.sp,iV fl.dp,iV cd]),(w.heap.size,(PlV pa pc p)),(w.heap.size+1,(BbV ba ca bo cb x)),(w.heap.size+1+1,(P4V q)),(w.heap.size+1+1+1,[.slice none 0 0,.slice none 0 0,iV 0,iV 0,.bool false,.bool false,iV 0,iV 0,iV 0,.string ⟨#[]⟩,.string ⟨#[]⟩,.string ⟨#[]⟩,.string ⟨#[]⟩,iV 0,iV 0,iV 0,iV 0,.string ⟨#[]⟩,.string ⟨#[]⟩,.bool false,.bool false,iV 0,iV 0,.string ⟨#[]⟩,iV 0])]) (W9.alloc (.cells #[.slice a9 nv.bib.binds.length c9,.slice b9 nv.bib.sess.length d9,iV nv.bind.proto,.string nv.bind.inn,iV nv.bind.inPort,.string nv.bind.out,iV nv.bind.outPort,iV nv.code] 96))):=(S8.out.kept r3).push [.slice a9 nv.bib.binds.length c9,.slice b9 nv.bib.sess.length d9,iV nv.bind.proto,.string nv.bind.inn,iV nv.bind.inPort,.string nv.bind.out,iV nv.bind.outPort,iV nv.code] (by simp) _;have O10:Hid (BbOwn W8.heap.size (W9.alloc (.cells #[.slice a9 nv.bib.binds.length c9,.slice b9 nv.bib.sess.length d9,iV nv.bind.proto,.string nv.bind.inn,iV nv.bind.inPort,.string nv.bind.out,iV nv.bind.outPort,iV nv.code] 96)) a9 b9 nv.bib):=hown.kept ((Below.refl _ _).alloc (Nat.le_refl _) _);have hx9:W8.heap.size≤W9.heap.size:=r3.size;clear r3 hown S8 CBT k0 k1 k2 k3 k4 k5 k6 k7 k8 k9 l0 l1 m0 m1 m2 m3 m4 m5 m6;go_upto_region 12 with fail
 generalize (W9.alloc (.cells #[.slice a9 nv.bib.binds.length c9,.slice b9 nv.bib.sess.length d9,iV nv.bind.proto,.string nv.bind.inn,iV nv.bind.inPort,.string nv.bind.out,iV nv.bind.outPort,iV nv.code] 96))=W10 at *;generalize W9.heap.size=Xb at *;have HHk:=S10.out.at mE0;have k0:=HHk.cell (j:=0) rfl;have k1:=HHk.cell (j:=1) rfl;have k2:=HHk.cell (j:=2) rfl;have k3:=HHk.cell (j:=3) rfl;have k4:=HHk.cell (j:=4) rfl;have k5:=HHk.cell (j:=5) rfl;have k6:=HHk.cell (j:=6) rfl;have k7:=HHk.cell (j:=7) rfl;clear HHk;by_cases hn:nv.code=0
 case neg =>
  have d0:(nv.code != 0)=true:=by simp [hn]
  have HX:Hid (ans=noE (nv.code)):=HPS.out.a4 hft rfl hcd hn;have HTH:Hid (W10.there (w.heap.size+1+1+1) 0 (noL none none 0 0 (noE (nv.code))).toArray.size):=noL_there (show HoldsL W10 (w.heap.size+1+1+1) (noL none none 0 0 (noE 0)) from S10.out.k _ mE6) _ _ _ _ _;have HRR:Hid (HoldsL (W10.setCells (w.heap.size+1+1+1) 0 (noL none none 0 0 (noE (nv.code))).toArray.toList) (w.heap.size+1+1+1) (noL none none 0 0 (noE (nv.code)))):=(show HoldsL W10 (w.heap.size+1+1+1) (noL none none 0 0 (noE 0)) from S10.out.k _ mE6).mid rfl;have RB:Hid (Below w.heap.size w (W10.setCells (w.heap.size+1+1+1) 0 (noL none none 0 0 (noE (nv.code))).toArray.toList)):=Below.mid S10.out.b hRw _;go_wp2_with (refine wpList_store_mid (by rfl) 44 (.tmp 10) (.tmp 66) (by rfl) (w.heap.size+1+1+1) 0 (noL none none 0 0 (noE (nv.code))).toArray (by rfl) (by rfl) HTH.out no_info (noL_one _ _ _ _ _) ?_)
  exact bodyPost_ret (results_mid Tryz.results35 _ _ (w.heap.size+1+1+1) (noL none none 0 0 (noE (nv.code))) _ rfl HRR.out Tryz.underlying44 rfl no_info) rfl (And.intro (by rw [HX.out]; exact noRet_ill _) RB.out)
 have d0:(nv.code != 0)=false:=by simp [hn]
 have hi16:nv.bind.inn.size≤16:=HPS.out.ns hft hcd hn;by_cases hi:nv.bind.inn.size=4
 case neg =>
  have d1:((nv.bind.inn.size:Int) != 4)=true:=by rw [bne_iff_ne]; omega
  have HX:Hid (ans=noE (11)):=HPS.out.a5 hft rfl hcd hn hi;have HTH:Hid (W10.there (w.heap.size+1+1+1) 0 (noL none none 0 0 (noE (11))).toArray.size):=noL_there (show HoldsL W10 (w.heap.size+1+1+1) (noL none none 0 0 (noE 0)) from S10.out.k _ mE6) _ _ _ _ _;have HRR:Hid (HoldsL (W10.setCells (w.heap.size+1+1+1) 0 (noL none none 0 0 (noE (11))).toArray.toList) (w.heap.size+1+1+1) (noL none none 0 0 (noE (11)))):=(show HoldsL W10 (w.heap.size+1+1+1) (noL none none 0 0 (noE 0)) from S10.out.k _ mE6).mid rfl;have RB:Hid (Below w.heap.size w (W10.setCells (w.heap.size+1+1+1) 0 (noL none none 0 0 (noE (11))).toArray.toList)):=Below.mid S10.out.b hRw _;go_wp2_with (refine wpList_store_mid (by rfl) 44 (.tmp 10) (.tmp 72) (by rfl) (w.heap.size+1+1+1) 0 (noL none none 0 0 (noE (11))).toArray (by rfl) (by rfl) HTH.out no_info (noL_one _ _ _ _ _) ?_)
  exact bodyPost_ret (results_mid Tryz.results35 _ _ (w.heap.size+1+1+1) (noL none none 0 0 (noE (11))) _ rfl HRR.out Tryz.underlying44 rfl no_info) rfl (And.intro (by rw [HX.out]; exact noRet_ill _) RB.out)
 have d1:((nv.bind.inn.size:Int) != 4)=false:=by rw [bne_eq_false_iff_eq]; omega
 have HX:Hid _:=HPS.out.a6 hft rfl hcd hn hi;replace CAS:Hid _:=CAS.out hn hi;clear HPS;go_upto_region 16 with fail
 clear d0 d1;have HHm:=S10.out.at mE2;have m0:=HHm.cell (j:=0) rfl;have m1:=HHm.cell (j:=1) rfl;have m2:=HHm.cell (j:=2) rfl;have m3:=HHm.cell (j:=3) rfl;have m4:=HHm.cell (j:=4) rfl;have m5:=HHm.cell (j:=5) rfl;clear HHm;go_wp2_with fail
 refine (CTU.out W10).mono ?_;rintro e W11 ⟨rfl,r1⟩;have S12:Hid (Bxs w ((W11.heap.size,(FlV gg))::[(Xb,[.slice a9 nv.bib.binds.length c9,.slice b9 nv.bib.sess.length d9,iV nv.bind.proto,.string nv.bind.inn,iV nv.bind.inPort,.string nv.bind.out,iV nv.bind.outPort,iV nv.code]),(Tb,(TcR fl.proto false fl.dst fl.dp fl.src pe fg)),(Fb,[iV fl.proto,.string fl.src,.string fl.dst,iV fl.sp,iV fl.dp,iV cd]),(w.heap.size,(PlV pa pc p)),(w.heap.size+1,(BbV ba ca bo cb x)),(w.heap.size+1+1,(P4V q)),(w.heap.size+1+1+1,[.slice none 0 0,.slice none 0 0,iV 0,iV 0,.bool false,.bool false,iV 0,iV 0,iV 0,.string ⟨#[]⟩,.string ⟨#[]⟩,.string ⟨#[]⟩,.string ⟨#[]⟩,iV 0,iV 0,iV 0,iV 0,.string ⟨#[]⟩,.string ⟨#[]⟩,.bool false,.bool false,iV 0,iV 0,.string ⟨#[]⟩,iV 0])]) (W11.alloc (.cells (FlV gg).toArray 91))):=(S10.out.kept r1).push (FlV gg) (by simp) _;have O12:Hid (BbOwn W8.heap.size (W11.alloc (.cells (FlV gg).toArray 91)) a9 b9 nv.bib):=(O10.out.kept r1).kept ((Below.refl _ _).alloc (Nat.le_refl _) _);clear r1 S10 O10 CTU hmturn m0 m1 m2 m3 m4 m5 k0 k1 k2 k3 k4 k5 k6 k7;go_upto_region 17 with fail
 generalize (W11.alloc (.cells (FlV gg).toArray 91))=W12 at *;generalize W11.heap.size=Gb at *;have HCP:Hid (∀ wy,Below W12.drew.heap.size W12.drew wy→_):=fun wy hy=>S12.out.kept ((Below.refl _ _).drew.trans hy)
 have HOP:Hid (∀ wy,Below W12.drew.heap.size W12.drew wy→BbOwn W8.heap.size wy a9 b9 nv.bib):=fun wy hy=>O12.out.kept ((Below.refl _ _).drew.trans hy)
 clear S12 O12;refine wp_region_growV [79,80,81,82,83,84,85,86] (by kernel_rfl) (by kernel_rfl) ?_;refine GChV.val (n:=0) (fun v=>[IsV v]) (fun _=>rfl) rfl ?_;apply Exists.intro;refine And.intro ?_ ?_
 ·intro K' a wy ho hd hb hK;rw [wN rfl];have o14:=ho 14 (by decide);simp [slot] at o14;clear hd ho;go_simp;try go_bits
  exact hK _ _ rfl (Below.refl _ _)
 refine GChV.val (n:=1) (fun v=>[_,IsV v]) (fun _=>rfl) rfl ?_;apply Exists.intro;refine And.intro ?_ ?_
 ·intro K' a wy ho hd hb hK;rw [wN rfl];have q0:=hd ⟨0,.data⟩ (by simp) rfl;simp [rAt,IsV,slot] at q0;clear hd ho;have hst:=HCP.out wy hb;have HHk:=hst.at mE6;have k0:=HHk.cell (j:=0) rfl;have k1:=HHk.cell (j:=1) rfl;have k2:=HHk.cell (j:=2) rfl;have k3:=HHk.cell (j:=3) rfl;have k4:=HHk.cell (j:=4) rfl;have k5:=HHk.cell (j:=5) rfl;have k6:=HHk.cell (j:=6) rfl;have k7:=HHk.cell (j:=7) rfl;have k8:=HHk.cell (j:=8) rfl;have k9:=HHk.cell (j:=9) rfl;have k10:=HHk.cell (j:=10) rfl;clear HHk;have HHl:=hst.at mE1;have l0:=HHl.cell (j:=0) rfl;have l1:=HHl.cell (j:=1) rfl;have l2:=HHl.cell (j:=2) rfl;have l3:=HHl.cell (j:=3) rfl;have l4:=HHl.cell (j:=4) rfl;have l5:=HHl.cell (j:=5) rfl;have l6:=HHl.cell (j:=6) rfl;have l7:=HHl.cell (j:=7) rfl;clear HHl;have HHm:=hst.at mE3;have m0:=HHm.cell (j:=0) rfl;have m1:=HHm.cell (j:=1) rfl;have m2:=HHm.cell (j:=2) rfl;have m3:=HHm.cell (j:=3) rfl;have m4:=HHm.cell (j:=4) rfl;have m5:=HHm.cell (j:=5) rfl;clear HHm;have HHn:=hst.at mE0;have n0:=HHn.cell (j:=0) rfl;have n1:=HHn.cell (j:=1) rfl;have n2:=HHn.cell (j:=2) rfl;have n3:=HHn.cell (j:=3) rfl;have n4:=HHn.cell (j:=4) rfl;clear HHn;clear hst;go_simp;try go_bits
  exact hK _ _ rfl (Below.refl _ _)
 refine GChV.val (n:=2) (fun v=>[_,_,IsV v]) (fun _=>rfl) rfl ?_;apply Exists.intro;refine And.intro ?_ ?_
 ·intro K' a wy ho hd hb hK;rw [wN rfl];have o8:=ho 8 (by decide);simp [slot] at o8;clear hd ho;have hst:=HCP.out wy hb;have HHk:=hst.at mE6;have k0:=HHk.cell (j:=0) rfl;have k1:=HHk.cell (j:=1) rfl;have k2:=HHk.cell (j:=2) rfl;have k3:=HHk.cell (j:=3) rfl;have k4:=HHk.cell (j:=4) rfl;have k5:=HHk.cell (j:=5) rfl;have k6:=HHk.cell (j:=6) rfl;have k7:=HHk.cell (j:=7) rfl;have k8:=HHk.cell (j:=8) rfl;have k9:=HHk.cell (j:=9) rfl;have k10:=HHk.cell (j:=10) rfl;clear HHk;have HHl:=hst.at mE1;have l0:=HHl.cell (j:=0) rfl;have l1:=HHl.cell (j:=1) rfl;have l2:=HHl.cell (j:=2) rfl;have l3:=HHl.cell (j:=3) rfl;have l4:=HHl.cell (j:=4) rfl;have l5:=HHl.cell (j:=5) rfl;have l6:=HHl.cell (j:=6) rfl;have l7:=HHl.cell (j:=7) rfl;clear HHl;have HHm:=hst.at mE3;have m0:=HHm.cell (j:=0) rfl;have m1:=HHm.cell (j:=1) rfl;have m2:=HHm.cell (j:=2) rfl;have m3:=HHm.cell (j:=3) rfl;have m4:=HHm.cell (j:=4) rfl;have m5:=HHm.cell (j:=5) rfl;clear HHm;have HHn:=hst.at mE0;have n0:=HHn.cell (j:=0) rfl;have n1:=HHn.cell (j:=1) rfl;have n2:=HHn.cell (j:=2) rfl;have n3:=HHn.cell (j:=3) rfl;have n4:=HHn.cell (j:=4) rfl;clear HHn;clear hst;go_simp;try go_bits
  exact hK _ _ rfl (Below.refl _ _)
 refine GChV.val (n:=3) (fun v=>[_,_,_,IsV v]) (fun _=>rfl) rfl ?_;apply Exists.intro;refine And.intro ?_ ?_
 ·intro K' a wy ho hd hb hK;rw [wN rfl];have o12:=ho 12 (by decide);simp [slot] at o12;clear hd ho;go_simp;try go_bits
  exact hK _ _ rfl (Below.refl _ _)
 refine GChV.val (n:=4) (fun v=>[_,_,_,_,IsV v]) (fun _=>rfl) rfl ?_;apply Exists.intro;refine And.intro ?_ ?_
 ·intro K' a wy ho hd hb hK;rw [wN rfl];have q3:=hd ⟨3,.data⟩ (by simp) rfl;simp [rAt,IsV,slot] at q3;clear hd ho;have hst:=HCP.out wy hb;have HHk:=hst.at mE6;have k0:=HHk.cell (j:=0) rfl;have k1:=HHk.cell (j:=1) rfl;have k2:=HHk.cell (j:=2) rfl;have k3:=HHk.cell (j:=3) rfl;have k4:=HHk.cell (j:=4) rfl;have k5:=HHk.cell (j:=5) rfl;have k6:=HHk.cell (j:=6) rfl;have k7:=HHk.cell (j:=7) rfl;have k8:=HHk.cell (j:=8) rfl;have k9:=HHk.cell (j:=9) rfl;have k10:=HHk.cell (j:=10) rfl;clear HHk;have HHl:=hst.at mE1;have l0:=HHl.cell (j:=0) rfl;have l1:=HHl.cell (j:=1) rfl;have l2:=HHl.cell (j:=2) rfl;have l3:=HHl.cell (j:=3) rfl;have l4:=HHl.cell (j:=4) rfl;have l5:=HHl.cell (j:=5) rfl;have l6:=HHl.cell (j:=6) rfl;have l7:=HHl.cell (j:=7) rfl;clear HHl;have HHm:=hst.at mE3;have m0:=HHm.cell (j:=0) rfl;have m1:=HHm.cell (j:=1) rfl;have m2:=HHm.cell (j:=2) rfl;have m3:=HHm.cell (j:=3) rfl;have m4:=HHm.cell (j:=4) rfl;have m5:=HHm.cell (j:=5) rfl;clear HHm;have HHn:=hst.at mE0;have n0:=HHn.cell (j:=0) rfl;have n1:=HHn.cell (j:=1) rfl;have n2:=HHn.cell (j:=2) rfl;have n3:=HHn.cell (j:=3) rfl;have n4:=HHn.cell (j:=4) rfl;clear HHn;clear hst;go_simp;try go_bits
  exact hK _ _ rfl (Below.refl _ _)
 refine GChV.val (n:=5) (fun v=>[_,_,_,_,_,IsV v]) (fun _=>rfl) rfl ?_;apply Exists.intro;refine And.intro ?_ ?_
 ·intro K' a wy ho hd hb hK;rw [wN rfl];have o15:=ho 15 (by decide);simp [slot] at o15;clear hd ho;have hst:=HCP.out wy hb;have HHk:=hst.at mE6;have k0:=HHk.cell (j:=0) rfl;have k1:=HHk.cell (j:=1) rfl;have k2:=HHk.cell (j:=2) rfl;have k3:=HHk.cell (j:=3) rfl;have k4:=HHk.cell (j:=4) rfl;have k5:=HHk.cell (j:=5) rfl;have k6:=HHk.cell (j:=6) rfl;have k7:=HHk.cell (j:=7) rfl;have k8:=HHk.cell (j:=8) rfl;have k9:=HHk.cell (j:=9) rfl;have k10:=HHk.cell (j:=10) rfl;clear HHk;have HHl:=hst.at mE1;have l0:=HHl.cell (j:=0) rfl;have l1:=HHl.cell (j:=1) rfl;have l2:=HHl.cell (j:=2) rfl;have l3:=HHl.cell (j:=3) rfl;have l4:=HHl.cell (j:=4) rfl;have l5:=HHl.cell (j:=5) rfl;have l6:=HHl.cell (j:=6) rfl;have l7:=HHl.cell (j:=7) rfl;clear HHl;have HHm:=hst.at mE3;have m0:=HHm.cell (j:=0) rfl;have m1:=HHm.cell (j:=1) rfl;have m2:=HHm.cell (j:=2) rfl;have m3:=HHm.cell (j:=3) rfl;have m4:=HHm.cell (j:=4) rfl;have m5:=HHm.cell (j:=5) rfl;clear HHm;have HHn:=hst.at mE0;have n0:=HHn.cell (j:=0) rfl;have n1:=HHn.cell (j:=1) rfl;have n2:=HHn.cell (j:=2) rfl;have n3:=HHn.cell (j:=3) rfl;have n4:=HHn.cell (j:=4) rfl;clear HHn;clear hst;go_simp;try go_bits
  exact hK _ _ rfl (Below.refl _ _)
 refine GChV.val (n:=6) (fun v=>[_,_,_,_,_,_,IsV v]) (fun _=>rfl) rfl ?_;apply Exists.intro;refine And.intro ?_ ?_
 ·intro K' a wy ho hd hb hK;rw [wN rfl];have q2:=hd ⟨2,.data⟩ (by simp) rfl;have q4:=hd ⟨4,.data⟩ (by simp) rfl;have q5:=hd ⟨5,.data⟩ (by simp) rfl;simp [rAt,IsV,slot] at q2 q4 q5;clear hd ho;go_simp;refine (CAS.out wy).mono ?_;rintro e wz ⟨rfl,hz⟩;exact hK _ _ rfl hz
 refine GChV.val (n:=7) (fun v=>[_,_,_,_,_,_,_,IsV v]) (fun _=>rfl) rfl ?_;apply Exists.intro;refine And.intro ?_ ?_
 ·intro K' a wy ho hd hb hK;rw [wN rfl];have q1:=hd ⟨1,.data⟩ (by simp) rfl;have q6:=hd ⟨6,.data⟩ (by simp) rfl;simp [rAt,IsV,slot] at q1 q6;clear hd ho;go_simp;try go_bits
  exact hK _ _ rfl (Below.refl _ _)
 intro X wz hR hz;obtain ⟨x0,x1,x2,x3,x4,x5,x6,x7,-⟩:=hR;simp only [IsV] at x0 x1 x2 x3 x4 x5 x6 x7;simp only [putsFrom,x0,x1,x2,x3,x4,x5,x6,x7];clear x0 x1 x2 x3 x4 x5 x6 x7;have hS:=HCP.out wz hz;have hO:=HOP.out wz hz;have hrb:HoldsL wz (w.heap.size+1+1+1) (noL none none 0 0 (noE 0)):=hS.k _ mE7;have HTH:Hid (wz.there (w.heap.size+1+1+1) 0 (noL a9 b9 c9 d9 ⟨nv.bib,⟨q.tos,q.id,q.whole,q.more,q.off,q.ttl,q.proto,gg.src,gg.dst,q.opts,sd⟩,p6Zero,0⟩).toArray.size):=noL_there hrb _ _ _ _ _;have HRR:Hid (HoldsL (wz.setCells (w.heap.size+1+1+1) 0 (noL a9 b9 c9 d9 ⟨nv.bib,⟨q.tos,q.id,q.whole,q.more,q.off,q.ttl,q.proto,gg.src,gg.dst,q.opts,sd⟩,p6Zero,0⟩).toArray.toList) (w.heap.size+1+1+1) (noL a9 b9 c9 d9 ⟨nv.bib,⟨q.tos,q.id,q.whole,q.more,q.off,q.ttl,q.proto,gg.src,gg.dst,q.opts,sd⟩,p6Zero,0⟩)):=hrb.mid rfl;have RB:Hid (Below w.heap.size w (wz.setCells (w.heap.size+1+1+1) 0 (noL a9 b9 c9 d9 ⟨nv.bib,⟨q.tos,q.id,q.whole,q.more,q.off,q.ttl,q.proto,gg.src,gg.dst,q.opts,sd⟩,p6Zero,0⟩).toArray.toList)):=Below.mid hS.b hRw _;have HOW:Hid (BbOwn w.heap.size (wz.setCells (w.heap.size+1+1+1) 0 (noL a9 b9 c9 d9 ⟨nv.bib,⟨q.tos,q.id,q.whole,q.more,q.off,q.ttl,q.proto,gg.src,gg.dst,q.opts,sd⟩,p6Zero,0⟩).toArray.toList) a9 b9 nv.bib):=(BbOwn.mid hO hR8 _).lowN hw8;clear hS hO hrb HCP HOP;simp only [List.length_cons,List.length_nil,List.drop_succ_cons,List.drop_zero,Nat.zero_add,Nat.reduceAdd];with_reducible refine wpSeq_store 44 (.tmp 10) (.tmp 86) rfl (w.heap.size+1+1+1) 0 (noL a9 b9 c9 d9 ⟨nv.bib,⟨q.tos,q.id,q.whole,q.more,q.off,q.ttl,q.proto,gg.src,gg.dst,q.opts,sd⟩,p6Zero,0⟩).toArray ?_ ?_ ?_ ?_ ?_ ?_
 ·simp [Act.eval,Act.put]
 ·simp [Act.eval,Act.put,noL,p6Zero]
 ·exact HTH.out
 ·exact no_info
 ·exact noL_one _ _ _ _ _
 generalize wz.setCells (w.heap.size+1+1+1) 0 (noL a9 b9 c9 d9 ⟨nv.bib,⟨q.tos,q.id,q.whole,q.more,q.off,q.ttl,q.proto,gg.src,gg.dst,q.opts,sd⟩,p6Zero,0⟩).toArray.toList=WE at *;go_wp2_with fail
 with_reducible refine bodyPost_ret (v:=.agg (noL a9 b9 c9 d9 ⟨nv.bib,⟨q.tos,q.id,q.whole,q.more,q.off,q.ttl,q.proto,gg.src,gg.dst,q.opts,sd⟩,p6Zero,0⟩).toArray) ?_ ?_ ?_
 ·refine results_mid Tryz.results35 _ _ (w.heap.size+1+1+1) (noL a9 b9 c9 d9 ⟨nv.bib,⟨q.tos,q.id,q.whole,q.more,q.off,q.ttl,q.proto,gg.src,gg.dst,q.opts,sd⟩,p6Zero,0⟩) _ ?_ HRR.out Tryz.underlying44 rfl no_info;simp [Act.put]
 ·simp [Act.put]
 ·exact And.intro (by rw [HX.out,HSD.out]; exact ⟨a9,b9,c9,d9,rfl,HOW.out⟩) RB.out
theorem implNatCome_any (pa:Option Addr) (pc:Nat) (p:Pl) (ba bo:Option Addr) (ca cb:Nat) (x:Bb) (q:P4) (now:Int) (w:World) (hT:TabB w) (hlp:p.addrs.length≤1048576) (hpc:p.addrs.length≤pc) (hsz:∀ s∈p.addrs,s.size≤1048576) (hl1:x.binds.length≤1048576) (hl2:x.sess.length≤1048576) (hgb:∀ q∈x.binds,BdGood q) (hgs:∀ s∈x.sess,SsGood s) (q1:q.src.size≤1048576) (q2:q.dst.size≤1048576) (q3:q.opts.size≤1048576) (q4:q.data.size≤1048576) (hp:SlIs strL1 1 w pa p.addrs) (hx:BbIs w ba bo x) :
  Calls Tryz.prog 22 #[plC pa pc p,bbC ba bo ca cb x,p4C q,iV now] w fun e w'=>NoRet w.heap.size (natComeV p x q now) e w'∧Below w.heap.size w w':=by
 have HIN:Hid (∀ W,Below w.heap.size w W→Calls Tryz.prog 35 #[.iface 80 (.agg #[.slice pa p.addrs.length pc]),plC pa pc p,bbC ba bo ca cb x,p4C q,iV now] W fun e w'=>NoRet W.heap.size (natComeV p x q now) e w'∧Below W.heap.size W w'):=fun W hW=>natPassI_any pa pc p ba bo ca cb x q now W (hT.below hW) hlp hpc hsz hl1 hl2 hgb hgs q1 q2 q3 q4 (hp.below hW) (hx.below hW)
 generalize natComeV p x q now=nv at *;clear hT hlp hpc hsz hl1 hl2 hgb hgs hp hx q1 q2 q3 q4;unfold plC bbC p4C at *;have HS0:=bx4 w (PlV pa pc p) 48 (BbV ba ca bo cb x) 39 (P4V q) 40 [.slice none 0 0,.slice none 0 0,iV 0,iV 0,.bool false,.bool false,iV 0,iV 0,iV 0,.string ⟨#[]⟩,.string ⟨#[]⟩,.string ⟨#[]⟩,.string ⟨#[]⟩,iV 0,iV 0,iV 0,iV 0,.string ⟨#[]⟩,.string ⟨#[]⟩,.bool false,.bool false,iV 0,iV 0,.string ⟨#[]⟩,iV 0] 44 (by simp) (by simp) (by simp) (by simp)
 skip;have hRw:w.heap.size≤w.heap.size+1+1+1:=by omega
 go_enter Tryz.func22,Tryz.ntmps22
 go_upto_region 1 with fail
 generalize ((aW (aW (aW w (PlV pa pc p) 48) (BbV ba ca bo cb x) 39) (P4V q) 40).alloc (.cells #[.slice none 0 0,.slice none 0 0,iV 0,iV 0,.bool false,.bool false,iV 0,iV 0,iV 0,.string ⟨#[]⟩,.string ⟨#[]⟩,.string ⟨#[]⟩,.string ⟨#[]⟩,iV 0,iV 0,iV 0,iV 0,.string ⟨#[]⟩,.string ⟨#[]⟩,.bool false,.bool false,iV 0,iV 0,.string ⟨#[]⟩,iV 0] 44))=W0 at *;have HHk:=HS0.out.at mE0;have k0:=HHk.cell (j:=0) rfl;have k1:=HHk.cell (j:=1) rfl;have k2:=HHk.cell (j:=2) rfl;have k3:=HHk.cell (j:=3) rfl;have k4:=HHk.cell (j:=4) rfl;have k5:=HHk.cell (j:=5) rfl;have k6:=HHk.cell (j:=6) rfl;have k7:=HHk.cell (j:=7) rfl;have k8:=HHk.cell (j:=8) rfl;have k9:=HHk.cell (j:=9) rfl;clear HHk;have HHl:=HS0.out.at mE1;have l0:=HHl.cell (j:=0) rfl;have l1:=HHl.cell (j:=1) rfl;clear HHl;have HHm:=HS0.out.at mE2;have m0:=HHm.cell (j:=0) rfl;have m1:=HHm.cell (j:=1) rfl;have m2:=HHm.cell (j:=2) rfl;have m3:=HHm.cell (j:=3) rfl;have m4:=HHm.cell (j:=4) rfl;have m5:=HHm.cell (j:=5) rfl;have m6:=HHm.cell (j:=6) rfl;have m7:=HHm.cell (j:=7) rfl;have m8:=HHm.cell (j:=8) rfl;have m9:=HHm.cell (j:=9) rfl;have m10:=HHm.cell (j:=10) rfl;clear HHm;have hR2:w.heap.size+1+1+1 < W0.heap.size:=(HS0.out.k _ mE3).lt (by simp);have hw2:w.heap.size≤W0.heap.size:=HS0.out.b.size;go_wp2_with fail
 refine (HIN.out W0 HS0.out.b).mono ?_;rintro e W3 ⟨⟨a9,b9,c9,d9,rfl,hown⟩,r3⟩;have S3:Hid _:=HS0.out.kept r3;clear r3 HS0 HIN k0 k1 k2 k3 k4 k5 k6 k7 k8 k9 l0 l1 m0 m1 m2 m3 m4 m5 m6 m7 m8 m9 m10;have HTH:Hid (W3.there (w.heap.size+1+1+1) 0 (noL a9 b9 c9 d9 nv).toArray.size):=noL_there (show HoldsL W3 (w.heap.size+1+1+1) (noL none none 0 0 (noE 0)) from S3.out.k _ mE3) _ _ _ _ _;have HRR:Hid (HoldsL (W3.setCells (w.heap.size+1+1+1) 0 (noL a9 b9 c9 d9 nv).toArray.toList) (w.heap.size+1+1+1) (noL a9 b9 c9 d9 nv)):=(show HoldsL W3 (w.heap.size+1+1+1) (noL none none 0 0 (noE 0)) from S3.out.k _ mE3).mid rfl;have RB:Hid (Below w.heap.size w (W3.setCells (w.heap.size+1+1+1) 0 (noL a9 b9 c9 d9 nv).toArray.toList)):=Below.mid S3.out.b hRw _;have HOW:Hid (BbOwn w.heap.size (W3.setCells (w.heap.size+1+1+1) 0 (noL a9 b9 c9 d9 nv).toArray.toList) a9 b9 nv.bib):=(BbOwn.mid hown hR2 _).lowN hw2;clear hown S3;unfold noC;go_wp2_with (refine wpList_store_mid (by rfl) 44 (.tmp 8) (.tmp 17) (by rfl) (w.heap.size+1+1+1) 0 (noL a9 b9 c9 d9 nv).toArray (by rfl) (by rfl) HTH.out no_info (noL_one _ _ _ _ _) ?_)
 exact bodyPost_ret (results_mid Tryz.results22 _ _ (w.heap.size+1+1+1) (noL a9 b9 c9 d9 nv) _ rfl HRR.out Tryz.underlying44 rfl no_info) rfl (And.intro ⟨a9,b9,c9,d9,rfl,HOW.out⟩ RB.out)
end Go.Proofs.YtcckaeppiamebaaGreatDoor
