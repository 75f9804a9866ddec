import Derived.Test.YtdkepkaflielhaaGreatDoorMerged1
set_option linter.unusedVariables false
set_option linter.unusedSimpArgs false
set_option maxRecDepth 100000
set_option maxHeartbeats 8000000
namespace Go.Proofs.YtdkepkaflielhaaGreatDoor
open Go.RowKit Go.PlainAid
def GO(p:Nat→Bool):Nat→Nat
 | 0=>0
 | n+1=>GO p n+if p n then 2 ^ n else 0
def CR(p:Nat→Bool):Nat→Nat
 | 0=>0
 | n+1=>CR p n+if p n then 1 else 0
def AA(m:Nat):Nat→Nat
 | 0=>0
 | b+1=>AA m b+m / 2 ^ b % 2
def QY{α:Type}(p:Nat→Bool)(f:Nat→α):Nat→List α
 | 0=>[]
 | n+1=>QY p f n++if p n then [f n] else []
def PQ(kid:Nat→Bool)(val:Nat→Int):Nat→Int
 | 0=>-1
 | j+1=>if kid j then PQ kid val j else val j
def AZ(kid:Nat→Bool)(val:Nat→Int)(j:Nat):Bool:=!kid j&&val j != PQ kid val j
structure Nd where
 kids:Nat
 leaf:Nat
 base:Nat
 leafs:Nat
structure Tb where
 rows:List (Nat × Nat)
 nodes:List Nd
 leaves:List Int
section
variable (kid:Nat × Nat→Nat→Bool) (val:Nat × Nat→Nat→Int)
def QW(r:Nat × Nat)(r0 l0:Nat):Nd :=
 ⟨GO (kid r) 16,GO (AZ (kid r) (val r)) 16,if CR (kid r) 16=0 then 0 else r0,if CR (AZ (kid r) (val r)) 16=0 then 0 else l0⟩
def QS(r:Nat × Nat)(k:Nat):Nat × Nat:=(r.1+1,16*r.2+k)
structure QI(t:Tb)(i:Nat):Prop where
 ex:∃r r0 l0 rr ll,t.rows[i]?=some r∧t.nodes[i]?=some (QW kid val r r0 l0)∧i < r0∧t.rows=rr∧t.leaves=ll ∧
  (∀j x,(QY (kid r) (QS r) 16)[j]?=some x→t.rows[r0+j]?=some x)∧(∀j x,(QY (AZ (kid r) (val r)) (val r) 16)[j]?=some x→t.leaves[l0+j]?=some x) ∧
  r0+CR (kid r) 16≤t.rows.length∧l0+CR (AZ (kid r) (val r)) 16≤t.leaves.length
structure TV(t:Tb):Prop where
 nodes:∀i,i < t.nodes.length→QI kid val t i
 le:t.nodes.length≤t.rows.length
 root:t.rows[0]?=some (0,0)
 leaves:∀x∈t.leaves,∃r k,x=val r k
end
def TX(a b:Nat × Nat):Prop:=a.1 < b.1∨(a.1=b.1∧a.2 < b.2)
section
variable (kid:Nat × Nat→Nat→Bool) (val:Nat × Nat→Nat→Int)
structure SR(S:List (Nat × Nat))(t:Tb):Prop where
 sorted:t.rows.Pairwise TX
 next:∀r,t.rows[t.nodes.length]?=some r→∀x∈t.rows,x.1≤r.1+1∧(x.1=r.1+1→x.2 < 16*r.2)
 sub:∀x∈t.rows,x=(0,0)∨x∈S
structure SF(n leaves i:Nat)(x:Nd):Prop where
 kids:x.kids < 65536
 leaf:x.leaf < 65536
 apart:∀k,¬(x.kids / 2 ^ k % 2=1∧x.leaf / 2 ^ k % 2=1)
 base:x.kids≠0→i < x.base∧x.base+AA x.kids 16≤n
 base0:x.kids=0→x.base=0
 leafs:x.leaf≠0→x.leafs+AA x.leaf 16≤leaves
 leafs0:x.leaf=0→x.leafs=0
 first:∀k,k < 16→(∀j,j < k→x.kids / 2 ^ j % 2=1)→x.kids / 2 ^ k % 2=0→x.leaf / 2 ^ k % 2=1
end
end Go.Proofs.YtdkepkaflielhaaGreatDoor
