import Derived.Test.YtdkepkaflielhaaGreatDoorAb
import Derived.Test.YtdkepkaflielhaaGreatDoorTouchR
import Derived.Test.YtdkepkaflielhaaGreatDoorSTickR
set_option linter.unusedVariables false
set_option linter.unusedSimpArgs false
set_option maxRecDepth 100000
set_option maxHeartbeats 8000000
namespace Go.Proofs.YtdkepkaflielhaaGreatDoor
open Go.RowKit
def bindP (p:Pl) (b:Bd):Bool:=protoB b.proto&&addrOk b.inn&&isW b.inPort&&inL p.addrs b.out&&isIn b.outPort p.low p.high
theorem bind_iff {p:Pl} {xs:List Bd}:(∀ i (h:i < xs.length),bindOne p (xs.take i) xs[i]=true)↔(∀ c∈xs,bindP p c=true)∧xs.Pairwise (fun c b=>clashB c b=false):=by
 have e:∀ ys b,bindOne p ys b=(bindP p b&&!ys.any fun c=>clashB c b):=fun ys b=>rfl
 rw [List.pairwise_iff_getElem];constructor
 ·intro h;refine ⟨fun c hc=>?_,fun i j hi hj hij=>?_⟩
  ·obtain ⟨i,hi,rfl⟩:=List.getElem_of_mem hc;have:=h i hi;rw [e] at this;simp only [Bool.and_eq_true] at this;exact this.1
  ·have:=h j hj;rw [e] at this;simp only [Bool.and_eq_true,Bool.not_eq_true'] at this;have:=List.any_eq_false.1 this.2 xs[i] (take_mem hi hij);simpa using this
 ·rintro ⟨h1,h2⟩ i hi;rw [e];simp only [Bool.and_eq_true,Bool.not_eq_true'];refine ⟨h1 _ (List.getElem_mem hi),?_⟩;rw [List.any_eq_false];intro c hc;obtain ⟨k,hk,hki,rfl⟩:=mem_take hc;rw [h2 k i hk hi hki]; decide
end Go.Proofs.YtdkepkaflielhaaGreatDoor
