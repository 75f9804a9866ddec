import Derived.Test.YtdkepkaflielhaaGreatDoorAb
import Derived.Test.YtdkepkaflielhaaGreatDoorBibs2
import Derived.Test.YtdkepkaflielhaaGreatDoorSums
import Derived.Test.YtdkepkaflielhaaGreatDoorSBib2
set_option linter.unusedVariables false
set_option linter.unusedSimpArgs false
set_option maxRecDepth 100000
set_option maxHeartbeats 8000000
namespace Go.Proofs.YtdkepkaflielhaaGreatDoor
open Go.RowKit
def ofHost (inn:ByteArray) (c:Bd):Bool:=decide (c.inn.toList=inn.toList)
def outD (p:Pl) (inn:ByteArray):ByteArray:=(p.addrs[(sumV inn).toNat % p.addrs.length]?).getD ⟨#[]⟩
def outIn (xs:List Bd) (d inn:ByteArray):ByteArray:=match xs.find? (ofHost inn) with | some c=>c.out | none=>d
def freeP (xs:List Bd) (proto:Int) (out:ByteArray) (n:Int):Bool:=decide (findI (ofOut proto out n) xs < 0)
def leastN (f:Int→Bool):Int→Nat→Option Int
 | _,0=>none
 | lo,c+1=>if f lo=true then some lo else leastN f (lo+1) c
def lendN (p:Pl) (xs:List Bd) (proto:Int) (out:ByteArray) (port:Int):Option Int :=
 if (isIn port p.low p.high&&freeP xs proto out port)=true then some port
 else match leastN (fun n=>decide (n % 2=port % 2)&&freeP xs proto out n) p.low (p.high-p.low+1).toNat with
  | some n=>some n
  | none=>leastN (freeP xs proto out) p.low (p.high-p.low+1).toNat
def lendV (p:Pl) (xs:List Bd) (proto:Int) (inn:ByteArray) (port:Int):Bd × Int :=
 match xs.find? (ofIn proto inn port) with
 | some c=>(c,0)
 | none=>match lendN p xs proto (outIn xs (outD p inn) inn) port with
  | some n=>(⟨proto,inn,port,outIn xs (outD p inn) inn,n⟩,0)
  | none=>(bdZ,9)
theorem leastN_step {f:Int→Bool} {n hi:Int} (h:n≤hi):leastN f n (hi-n+1).toNat=if f n=true then some n else leastN f (n+1) (hi-(n+1)+1).toNat:=by
 obtain ⟨c,hc⟩ : ∃ c:Nat,(hi-n+1).toNat=c+1:=⟨(hi-n).toNat,by omega⟩;rw [hc];show (if f n=true then some n else leastN f (n+1) c)=_;rw [show (hi-(n+1)+1).toNat=c by omega]
theorem leastN_end {f:Int→Bool} {n hi:Int} (h:hi < n):leastN f n (hi-n+1).toNat=none:=by
 rw [show (hi-n+1).toNat=0 by omega]; rfl
theorem outIn_step {xs:List Bd} {d inn:ByteArray} {i:Nat} (h:i < xs.length):outIn (xs.drop i) d inn=if ofHost inn xs[i]=true then xs[i].out else outIn (xs.drop (i+1)) d inn:=by
 unfold outIn;rw [List.drop_eq_getElem_cons h,List.find?_cons]
 cases hb:ofHost inn xs[i]<;>simp
end Go.Proofs.YtdkepkaflielhaaGreatDoor
