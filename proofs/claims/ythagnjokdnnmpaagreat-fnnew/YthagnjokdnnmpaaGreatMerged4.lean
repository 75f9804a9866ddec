import Derived.WalkKit
import Derived.PlainAid
import Derived.Test.YthagnjokdnnmpaaGreatMerged3
import Derived.Laws.IdiomStrings
import Derived.Deep.DeepCutAuto
set_option linter.unusedVariables false
set_option linter.unusedSimpArgs false
set_option maxRecDepth 100000
set_option maxHeartbeats 8000000
namespace Go.Proofs.YthagnjokdnnmpaaGreat
open Go.RowKit Go.PlainAid
def maskOf (p:Nat→Bool):Nat→Nat
 | 0=>0
 | n+1=>maskOf p n+if p n then 2 ^ n else 0
def cntOf (p:Nat→Bool):Nat→Nat
 | 0=>0
 | n+1=>cntOf p n+if p n then 1 else 0
def cntMask (m:Nat):Nat→Nat
 | 0=>0
 | b+1=>cntMask m b+m / 2 ^ b % 2
def pick {α:Type} (p:Nat→Bool) (f:Nat→α):Nat→List α
 | 0=>[]
 | n+1=>pick p f n++if p n then [f n] else []
theorem pick_length {α:Type} (p:Nat→Bool) (f:Nat→α):∀ n,(pick p f n).length=cntOf p n
 | 0=>rfl
 | n+1=>by
  unfold pick cntOf;rw [List.length_append,pick_length p f n];split<;>simp
def lastV (kid:Nat→Bool) (val:Nat→Int):Nat→Int
 | 0=>-1
 | j+1=>if kid j then lastV kid val j else val j
def leafAt (kid:Nat→Bool) (val:Nat→Int) (j:Nat):Bool:=!kid j&&val j != lastV kid val j
structure Nd where
 kids:Nat
 leaf:Nat
 base:Nat
 leafs:Nat
structure Tb where
 rows:List (Nat × Nat)
 nodes:List Nd
 leaves:List Int
section
variable (kid:Nat × Nat→Nat→Bool) (val:Nat × Nat→Nat→Int)
def nodeOf (r:Nat × Nat) (r0 l0:Nat):Nd :=
 ⟨maskOf (kid r) 16,maskOf (leafAt (kid r) (val r)) 16,if cntOf (kid r) 16=0 then 0 else r0,if cntOf (leafAt (kid r) (val r)) 16=0 then 0 else l0⟩
def kidRow (r:Nat × Nat) (k:Nat):Nat × Nat:=(r.1+1,16*r.2+k)
def tbStep (t:Tb) (r:Nat × Nat):Tb :=
 ⟨t.rows++pick (kid r) (kidRow r) 16,t.nodes++[nodeOf kid val r t.rows.length t.leaves.length],t.leaves++pick (leafAt (kid r) (val r)) (val r) 16⟩
structure NodeAt (t:Tb) (i:Nat):Prop where
 ex:∃ r r0 l0 rr ll,t.rows[i]?=some r∧t.nodes[i]?=some (nodeOf kid val r r0 l0)∧i < r0∧t.rows=rr∧t.leaves=ll ∧
  (∀ j x,(pick (kid r) (kidRow r) 16)[j]?=some x→t.rows[r0+j]?=some x)∧(∀ j x,(pick (leafAt (kid r) (val r)) (val r) 16)[j]?=some x→t.leaves[l0+j]?=some x) ∧
  r0+cntOf (kid r) 16≤t.rows.length∧l0+cntOf (leafAt (kid r) (val r)) 16≤t.leaves.length
theorem get_app {α:Type} {a b:List α} {i:Nat} {x:α} (h:a[i]?=some x):(a++b)[i]?=some x:=by
 have hl:i < a.length:=by
  by_cases e:i < a.length
  ·exact e
  ·rw [List.getElem?_eq_none (by omega)] at h; simp at h
 rw [List.getElem?_append_left hl]; exact h
theorem NodeAt.step {t:Tb} {i:Nat} (h:NodeAt kid val t i) (r:Nat × Nat):NodeAt kid val (tbStep kid val t r) i:=by
 obtain ⟨q,r0,l0,_,_,h1,h2,h3,_,_,h4,h5,h6,h7⟩:=h.ex;refine ⟨q,r0,l0,_,_,get_app h1,get_app h2,h3,rfl,rfl,fun j x hx=>get_app (h4 j x hx),fun j x hx=>get_app (h5 j x hx),?_,?_⟩
 ·show _≤(t.rows++_).length; rw [List.length_append]; omega
 ·show _≤(t.leaves++_).length; rw [List.length_append]; omega
theorem NodeAt.new {t:Tb} {r:Nat × Nat} (hr:t.rows[t.nodes.length]?=some r):NodeAt kid val (tbStep kid val t r) t.nodes.length:=by
 have hlt:t.nodes.length < t.rows.length:=by
  by_cases e:t.nodes.length < t.rows.length
  ·exact e
  ·rw [List.getElem?_eq_none (by omega)] at hr; simp at hr
 refine ⟨r,t.rows.length,t.leaves.length,_,_,get_app hr,?_,hlt,rfl,rfl,?_,?_,?_,?_⟩
 ·show (t.nodes++[_])[t.nodes.length]?=_;rw [List.getElem?_append_right (Nat.le_refl _),Nat.sub_self]; rfl
 ·intro j x hx;show (t.rows++_)[t.rows.length+j]?=_;rw [List.getElem?_append_right (by omega),show t.rows.length+j-t.rows.length=j by omega]; exact hx
 ·intro j x hx;show (t.leaves++_)[t.leaves.length+j]?=_;rw [List.getElem?_append_right (by omega),show t.leaves.length+j-t.leaves.length=j by omega]; exact hx
 ·show _≤(t.rows++_).length; rw [List.length_append,pick_length]; exact Nat.le_refl _
 ·show _≤(t.leaves++_).length; rw [List.length_append,pick_length]; exact Nat.le_refl _
structure TbOk (t:Tb):Prop where
 nodes:∀ i,i < t.nodes.length→NodeAt kid val t i
 le:t.nodes.length≤t.rows.length
 root:t.rows[0]?=some (0,0)
 leaves:∀ x∈t.leaves,∃ r k,x=val r k
theorem TbOk.start:TbOk kid val ⟨[(0,0)],[],[]⟩:=⟨fun i h=>by simp at h,by simp,rfl,by simp⟩
theorem mem_pick {α:Type} (p:Nat→Bool) (f:Nat→α):∀ n x,x∈pick p f n→∃ k,k < n∧p k=true∧x=f k
 | 0,x,h=>by simp [pick] at h
 | n+1,x,h=>by
  unfold pick at h;rcases List.mem_append.1 h with h | h
  ·obtain ⟨k,hk,hp,e⟩:=mem_pick p f n x h; exact ⟨k,by omega,hp,e⟩
  ·by_cases hp:p n=true
   ·rw [if_pos hp] at h; simp at h; exact ⟨n,by omega,hp,h⟩
   ·rw [if_neg hp] at h; simp at h
theorem TbOk.step {t:Tb} (h:TbOk kid val t) {r:Nat × Nat} (hr:t.rows[t.nodes.length]?=some r):TbOk kid val (tbStep kid val t r):=by
 have hlt:t.nodes.length < t.rows.length:=by
  by_cases e:t.nodes.length < t.rows.length
  ·exact e
  ·rw [List.getElem?_eq_none (by omega)] at hr; simp at hr
 refine ⟨fun i hi=>?_,?_,get_app h.root,?_⟩
 ·have hi':i < t.nodes.length+1:=by
   have:(tbStep kid val t r).nodes.length=t.nodes.length+1:=by show (t.nodes++[_]).length=_; simp
   omega
  by_cases e:i=t.nodes.length
  ·rw [e]; exact NodeAt.new kid val hr
  ·exact (h.nodes i (by omega)).step kid val r
 ·show (t.nodes++[_]).length≤(t.rows++_).length;simp; omega
 ·intro x hx;rcases List.mem_append.1 hx with hx | hx
  ·exact h.leaves x hx
  ·obtain ⟨k,_,_,e⟩:=mem_pick _ _ _ _ hx; exact ⟨r,k,e⟩
end
theorem len_of_sub {α:Type} [DecidableEq α]:∀ (l m:List α),l.Pairwise (·≠·)→(∀ x∈l,x∈m)→l.length≤m.length
 | [],m,_,_=>Nat.zero_le _
 | a::l,m,hp,hs=>by
  have ha:a∈m:=hs a (by simp);have hp':=List.pairwise_cons.1 hp;have:=len_of_sub l (m.erase a) hp'.2 (fun x hx=>(List.mem_erase_of_ne (fun e=>hp'.1 x hx e.symm)).2 (hs x (by simp [hx])));rw [List.length_erase_of_mem ha] at this;have hpos:0 < m.length:=List.length_pos_of_mem ha;simp; omega
def rlt (a b:Nat × Nat):Prop:=a.1 < b.1∨(a.1=b.1∧a.2 < b.2)
theorem rlt_ne {a b:Nat × Nat} (h:rlt a b):a≠b:=by
 intro e; subst e; unfold rlt at h; omega
section
variable (kid:Nat × Nat→Nat→Bool) (val:Nat × Nat→Nat→Int)
structure TbSort (S:List (Nat × Nat)) (t:Tb):Prop where
 sorted:t.rows.Pairwise rlt
 next:∀ r,t.rows[t.nodes.length]?=some r→∀ x∈t.rows,x.1≤r.1+1∧(x.1=r.1+1→x.2 < 16*r.2)
 sub:∀ x∈t.rows,x=(0,0)∨x∈S
theorem TbSort.start (S:List (Nat × Nat)):TbSort S ⟨[(0,0)],[],[]⟩ :=
 ⟨by simp,fun r h x hx=>by simp at h hx; subst h hx; simp,by simp⟩
theorem pick_sorted (r:Nat × Nat) (p:Nat→Bool):∀ n,(pick p (kidRow r) n).Pairwise rlt
 | 0=>by simp [pick]
 | n+1=>by
  unfold pick;rw [List.pairwise_append];refine ⟨pick_sorted r p n,?_,?_⟩
  ·split<;>simp
  ·intro a ha b hb;obtain ⟨k,hk,_,rfl⟩:=mem_pick _ _ _ _ ha;by_cases hp:p n=true
   ·rw [if_pos hp] at hb; simp at hb; subst hb; exact .inr ⟨rfl,by simp [kidRow]; omega⟩
   ·rw [if_neg hp] at hb; simp at hb
theorem TbSort.step {S:List (Nat × Nat)} {t:Tb} (h:TbSort S t) (hS:∀ r k,k < 16→kid r k=true→kidRow r k∈S) {r:Nat × Nat} (hr:t.rows[t.nodes.length]?=some r):TbSort S (tbStep kid val t r):=by
 have hnx:=h.next r hr;have hnl:(tbStep kid val t r).nodes.length=t.nodes.length+1:=by show (t.nodes++[_]).length=_; simp
 have hsrt:(tbStep kid val t r).rows.Pairwise rlt:=by
  show (t.rows++_).Pairwise rlt;rw [List.pairwise_append];refine ⟨h.sorted,pick_sorted r _ 16,fun a ha b hb=>?_⟩;obtain ⟨k,hk,_,rfl⟩:=mem_pick _ _ _ _ hb;have:=hnx a ha;by_cases e:a.1=r.1+1
  ·exact .inr ⟨e,by have:=this.2 e; show a.2 < 16*r.2+k; omega⟩
  ·exact .inl (by show a.1 < r.1+1; omega)
 refine ⟨hsrt,fun q hq x hx=>?_,fun x hx=>?_⟩
 ·rw [hnl] at hq;have hlt:t.nodes.length+1 < (tbStep kid val t r).rows.length:=by
   by_cases e:t.nodes.length+1 < (tbStep kid val t r).rows.length
   ·exact e
   ·rw [List.getElem?_eq_none (by omega)] at hq; simp at hq
  have hr2:(tbStep kid val t r).rows[t.nodes.length]?=some r:=get_app hr;have hrq:rlt r q:=by
   have:=List.pairwise_iff_getElem.1 hsrt t.nodes.length (t.nodes.length+1) (by omega) hlt (by omega);rw [List.getElem?_eq_getElem (by omega)] at hr2;rw [List.getElem?_eq_getElem hlt] at hq;injection hr2 with hr2; injection hq with hq
   rw [hr2,hq] at this; exact this
  unfold rlt at hrq;rcases List.mem_append.1 hx with hx | hx
  ·have:=hnx x hx;exact ⟨by omega,fun e=>by have:=this.2 (by omega); omega⟩
  ·obtain ⟨k,hk,_,rfl⟩:=mem_pick _ _ _ _ hx;simp only [kidRow];exact ⟨by omega,fun e=>by omega⟩
 ·rcases List.mem_append.1 hx with hx | hx
  ·exact h.sub x hx
  ·obtain ⟨k,hk,hp,rfl⟩:=mem_pick _ _ _ _ hx;exact .inr (hS r k hk hp)
theorem TbSort.length {S:List (Nat × Nat)} {t:Tb} (h:TbSort S t):t.rows.length≤S.length+1:=by
 have:=len_of_sub t.rows ((0,0)::S) (h.sorted.imp rlt_ne) (fun x hx=>by rcases h.sub x hx with e | e<;>simp [e]);simpa using this
structure NdRight (n leaves i:Nat) (x:Nd):Prop where
 kids:x.kids < 65536
 leaf:x.leaf < 65536
 apart:∀ k,¬ (x.kids / 2 ^ k % 2=1∧x.leaf / 2 ^ k % 2=1)
 base:x.kids≠0→i < x.base∧x.base+cntMask x.kids 16≤n
 base0:x.kids=0→x.base=0
 leafs:x.leaf≠0→x.leafs+cntMask x.leaf 16≤leaves
 leafs0:x.leaf=0→x.leafs=0
 first:∀ k,k < 16→(∀ j,j < k→x.kids / 2 ^ j % 2=1)→x.kids / 2 ^ k % 2=0→x.leaf / 2 ^ k % 2=1
end
structure Rt where
 addr:ByteArray
 bits:Int
 hop:Int
def routeOk (q:Rt):Bool:=prefixOk q.addr q.bits&&decide (1≤q.hop)&&decide (q.hop≤1000)
section
variable (n:Nat) (l:List Rt)
end
end Go.Proofs.YthagnjokdnnmpaaGreat
