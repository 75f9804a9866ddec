import Derived.Test.YtdkepkaflielhaaGreatDoorAb
import Derived.Test.YtdkepkaflielhaaGreatDoorCarry
import Derived.Test.YtdkepkaflielhaaGreatDoorProg
import Derived.Laws.StructEq
set_option linter.unusedVariables false
set_option linter.unusedSimpArgs false
set_option maxRecDepth 100000
set_option maxHeartbeats 8000000
namespace Go.Proofs.YtdkepkaflielhaaGreatDoor
open Go.RowKit
def sameFlow (q p:Fl):Bool:=(q.proto==p.proto)&&((q.src.toList==p.src.toList)&&((q.dst.toList==p.dst.toList)&&((q.sp==p.sp)&&((q.dp==p.dp)))))
theorem eqFlow_run (D:Nat) (q p:Fl) (W:World):(Op.equalIn (D+2) 43 (.agg (FlV q).toArray) (.agg (FlV p).toArray)).run Tryz.prog W=.ok (sameFlow q p) W:=by
 have h1:Tryz.prog.underlying 43=some (.struct (Tryz.prog.fieldsOf 43)):=by kernel_rfl
 have h2:Tryz.prog.stoodInHeld 43=false:=by kernel_rfl
 rw [run_equalIn_agg _ _ _ _ _ h1 h2];have h3:(Tryz.prog.fieldsOf 43).toList.length=5:=by kernel_rfl
 have h4 : ((Tryz.prog.fieldsOf 43).toList.map fun f => (f.type, f.offset, f.name == "_")) = [(2, 0, false), (9, 1, false), (9, 2, false), (2, 3, false), (2, 4, false)] := by kernel_rfl
 generalize (Tryz.prog.fieldsOf 43).toList=fs at *;match fs,h3 with
 | [f0,f1,f2,f3,f4],_ =>
  simp only [List.map_cons,List.map_nil,List.cons.injEq,Prod.mk.injEq,and_true] at h4;obtain ⟨⟨a0,b0,c0⟩,⟨a1,b1,c1⟩,⟨a2,b2,c2⟩,⟨a3,b3,c3⟩,⟨a4,b4,c4⟩⟩:=h4
  have d0 : (f0.name ≠ "_") = True := by simpa using c0
  have q0:∀ W,(part 2 (FlV q).toArray 0).run Tryz.prog W=.ok (iV q.proto) W:=fun W=>by kernel_rfl
  have p0:∀ W,(part 2 (FlV p).toArray 0).run Tryz.prog W=.ok (iV p.proto) W:=fun W=>by kernel_rfl
  have d1 : (f1.name ≠ "_") = True := by simpa using c1
  have q1:∀ W,(part 9 (FlV q).toArray 1).run Tryz.prog W=.ok (.string q.src) W:=fun W=>by kernel_rfl
  have p1:∀ W,(part 9 (FlV p).toArray 1).run Tryz.prog W=.ok (.string p.src) W:=fun W=>by kernel_rfl
  have d2 : (f2.name ≠ "_") = True := by simpa using c2
  have q2:∀ W,(part 9 (FlV q).toArray 2).run Tryz.prog W=.ok (.string q.dst) W:=fun W=>by kernel_rfl
  have p2:∀ W,(part 9 (FlV p).toArray 2).run Tryz.prog W=.ok (.string p.dst) W:=fun W=>by kernel_rfl
  have d3 : (f3.name ≠ "_") = True := by simpa using c3
  have q3:∀ W,(part 2 (FlV q).toArray 3).run Tryz.prog W=.ok (iV q.sp) W:=fun W=>by kernel_rfl
  have p3:∀ W,(part 2 (FlV p).toArray 3).run Tryz.prog W=.ok (iV p.sp) W:=fun W=>by kernel_rfl
  have d4 : (f4.name ≠ "_") = True := by simpa using c4
  have q4:∀ W,(part 2 (FlV q).toArray 4).run Tryz.prog W=.ok (iV q.dp) W:=fun W=>by kernel_rfl
  have p4:∀ W,(part 2 (FlV p).toArray 4).run Tryz.prog W=.ok (iV p.dp) W:=fun W=>by kernel_rfl
  unfold sameFlow;simp only [Op.eqFields,a0,b0,d0,q0,p0,a1,b1,d1,q1,p1,a2,b2,d2,q2,p2,a3,b3,d3,q3,p3,a4,b4,d4,q4,p4,if_true,Sem.run_bind,Sem.run_ite,Sem.run_pure,Result.andThen_ok,run_equalIn_string _ _ _ _ _ Tryz.underlying9,run_equalIn_int _ _ _ _ _ _ _ Tryz.underlying2,run_equalIn_bool' _ _ _ _ _ Tryz.underlying4];generalize (q.proto==p.proto)=g0;generalize (q.src.toList==p.src.toList)=g1;generalize (q.dst.toList==p.dst.toList)=g2;generalize (q.sp==p.sp)=g3;generalize (q.dp==p.dp)=g4
  cases g0
  ·simp
  simp only [Bool.not_true,Bool.false_eq_true,if_false,Bool.true_and]
  cases g1
  ·simp
  simp only [Bool.not_true,Bool.false_eq_true,if_false,Bool.true_and]
  cases g2
  ·simp
  simp only [Bool.not_true,Bool.false_eq_true,if_false,Bool.true_and]
  cases g3
  ·simp
  simp only [Bool.not_true,Bool.false_eq_true,if_false,Bool.true_and]
  cases g4<;>simp
end Go.Proofs.YtdkepkaflielhaaGreatDoor
