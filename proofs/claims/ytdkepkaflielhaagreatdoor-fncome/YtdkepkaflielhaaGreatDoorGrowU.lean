import Derived.Test.YtdkepkaflielhaaGreatDoorAb
import Derived.Test.YtdkepkaflielhaaGreatDoorGrow
set_option linter.unusedVariables false
set_option linter.unusedSimpArgs false
set_option maxRecDepth 100000
set_option maxHeartbeats 8000000
namespace Go.Proofs.YtdkepkaflielhaaGreatDoor
open Go.RowKit Go.ChangeShapes
section
variable {P:Program} {ops:Array Oper} {Q:Exit→Act→World→Prop} {ds:List Tmp} {R:Nat→Value→World→Prop} {a0:Act} {w0:World} {last:Oper}
structure GFormU (ops:Array Oper) (ds:List Tmp) (n:Nat) (last:Oper):Prop where
 len:ops.size=ds.length+1
 dst:∀ i o,i < ds.length→ops[i]?=some o→o.dst=some (ds.getD i 0)∧o.guard=none
 nodup:ds.Nodup
 fits:∀ d∈ds,d < n
 topo:∀ i o,i < ds.length→ops[i]?=some o→∀ e∈o.after,Region.binds .any e=true→e.on < i
 isLast:ops[ds.length]?=some last
 lguard:last.guard=none
 ledge:∀ e∈last.after,Region.binds .any e=true→e.on < ds.length
 lall:∀ j,j < ds.length→(∃ e∈last.after,Region.binds .any e=true∧e.on=j)∨∃ i o,j < i∧i < ds.length∧ops[i]?=some o∧∃ e∈o.after,Region.binds .any e=true∧e.on=j
def gformU (ops:Array Oper) (ds:List Tmp) (n:Nat) (last:Oper):Bool :=
 decide (ops.size=ds.length+1)&&(List.range ds.length).all (fun i=>match ops[i]? with
  | some o=>(match o.dst with | some d=>d==ds.getD i 0 | none=>false)&&o.guard.isNone&&o.after.all (fun e=>!Region.binds .any e||decide (e.on < i))
  | none=>true)&&decide ds.Nodup&&ds.all (fun d=>decide (d < n))&&last.guard.isNone&&last.after.all (fun e=>!Region.binds .any e||decide (e.on < ds.length)) &&
  (List.range ds.length).all (fun j=>last.after.any (fun e=>Region.binds .any e&&e.on==j)||(List.range ds.length).any (fun i=>decide (j < i)&&match ops[i]? with | some o=>o.after.any (fun e=>Region.binds .any e&&e.on==j) | none=>false))
theorem GFormU.of {n:Nat} (hl:ops[ds.length]?=some last) (h:gformU ops ds n last=true):GFormU ops ds n last:=by
 unfold gformU at h;simp only [Bool.and_eq_true,decide_eq_true_iff,List.all_eq_true,List.mem_range] at h;obtain ⟨⟨⟨⟨⟨⟨h1,h2⟩,h3⟩,h4⟩,h5⟩,h6⟩,h7⟩:=h;refine ⟨h1,fun i o hi ho=>?_,h3,h4,fun i o hi ho e he hb=>?_,hl,by simpa using h5,fun e he hb=>?_,fun j hj=>?_⟩
 ·have:=h2 i hi;rw [ho] at this;simp only [Bool.and_eq_true] at this;obtain ⟨⟨t1,t2⟩,_⟩:=this;refine ⟨?_,by simpa using t2⟩
  cases hd:o.dst with
  | none=>rw [hd] at t1; simp at t1
  | some d=>rw [hd] at t1; simp at t1; rw [t1]; simp
 ·have:=h2 i hi;rw [ho] at this;simp only [Bool.and_eq_true] at this;obtain ⟨_,t3⟩:=this;have:=Array.all_eq_true_iff_forall_mem.1 t3 e he;simp [hb] at this;exact this
 ·have:=Array.all_eq_true_iff_forall_mem.1 h6 e he;simp [hb] at this;exact this
 ·have:=h7 j hj;simp only [Bool.or_eq_true] at this;rcases this with this | this
  ·obtain ⟨e,he,hb⟩:=Array.any_eq_true'.1 this;simp only [Bool.and_eq_true,beq_iff_eq] at hb;exact .inl ⟨e,he,hb.1,hb.2⟩
  ·obtain ⟨i,hi,hh⟩:=List.any_eq_true.1 this;simp only [Bool.and_eq_true,decide_eq_true_iff] at hh
   cases ho:ops[i]? with
   | none=>rw [ho] at hh; simp at hh
   | some o =>
    rw [ho] at hh;obtain ⟨e,he,hb⟩:=Array.any_eq_true'.1 hh.2;simp only [Bool.and_eq_true,beq_iff_eq] at hb;exact .inr ⟨i,o,hh.1,List.mem_range.1 hi,ho,e,he,hb.1,hb.2⟩
end
end Go.Proofs.YtdkepkaflielhaaGreatDoor
