import Derived.Test.YtdkepkaflielhaaGreatDoorAb
import Derived.Test.YtdkepkaflielhaaGreatDoorBibs2
import Derived.Test.YtdkepkaflielhaaGreatDoorProg
import Derived.Laws.StructEq
set_option linter.unusedVariables false
set_option linter.unusedSimpArgs false
set_option maxRecDepth 100000
set_option maxHeartbeats 8000000
namespace Go.Proofs.YtdkepkaflielhaaGreatDoor
open Go.RowKit
def sameBd (q p:Bd):Bool:=(q.proto==p.proto)&&((q.inn.toList==p.inn.toList)&&((q.inPort==p.inPort)&&((q.out.toList==p.out.toList)&&((q.outPort==p.outPort)))))
theorem sameBd_self (q:Bd):sameBd q q=true:=by unfold sameBd; simp
theorem eqBdW_run (D:Nat) (q p:Bd) (W:World):(Op.equalIn (D+2) 48 (.agg (BdV q).toArray) (.agg (BdV p).toArray)).run Tryz.prog W=.ok (sameBd q p) W:=by
 have h1:Tryz.prog.underlying 48=some (.struct (Tryz.prog.fieldsOf 48)):=by kernel_rfl
 have h2:Tryz.prog.stoodInHeld 48=false:=by kernel_rfl
 rw [run_equalIn_agg _ _ _ _ _ h1 h2];have h3:(Tryz.prog.fieldsOf 48).toList.length=5:=by kernel_rfl
 have h4 : ((Tryz.prog.fieldsOf 48).toList.map fun f => (f.type, f.offset, f.name == "_")) = [(2, 0, false), (9, 1, false), (2, 2, false), (9, 3, false), (2, 4, false)] := by kernel_rfl
 generalize (Tryz.prog.fieldsOf 48).toList=fs at *;match fs,h3 with
 | [f0,f1,f2,f3,f4],_ =>
  simp only [List.map_cons,List.map_nil,List.cons.injEq,Prod.mk.injEq,and_true] at h4;obtain ⟨⟨a0,b0,c0⟩,⟨a1,b1,c1⟩,⟨a2,b2,c2⟩,⟨a3,b3,c3⟩,⟨a4,b4,c4⟩⟩:=h4
  have d0 : (f0.name ≠ "_") = True := by simpa using c0
  have q0:∀ W,(part 2 (BdV q).toArray 0).run Tryz.prog W=.ok (iV q.proto) W:=fun W=>by kernel_rfl
  have p0:∀ W,(part 2 (BdV p).toArray 0).run Tryz.prog W=.ok (iV p.proto) W:=fun W=>by kernel_rfl
  have d1 : (f1.name ≠ "_") = True := by simpa using c1
  have q1:∀ W,(part 9 (BdV q).toArray 1).run Tryz.prog W=.ok (.string q.inn) W:=fun W=>by kernel_rfl
  have p1:∀ W,(part 9 (BdV p).toArray 1).run Tryz.prog W=.ok (.string p.inn) W:=fun W=>by kernel_rfl
  have d2 : (f2.name ≠ "_") = True := by simpa using c2
  have q2:∀ W,(part 2 (BdV q).toArray 2).run Tryz.prog W=.ok (iV q.inPort) W:=fun W=>by kernel_rfl
  have p2:∀ W,(part 2 (BdV p).toArray 2).run Tryz.prog W=.ok (iV p.inPort) W:=fun W=>by kernel_rfl
  have d3 : (f3.name ≠ "_") = True := by simpa using c3
  have q3:∀ W,(part 9 (BdV q).toArray 3).run Tryz.prog W=.ok (.string q.out) W:=fun W=>by kernel_rfl
  have p3:∀ W,(part 9 (BdV p).toArray 3).run Tryz.prog W=.ok (.string p.out) W:=fun W=>by kernel_rfl
  have d4 : (f4.name ≠ "_") = True := by simpa using c4
  have q4:∀ W,(part 2 (BdV q).toArray 4).run Tryz.prog W=.ok (iV q.outPort) W:=fun W=>by kernel_rfl
  have p4:∀ W,(part 2 (BdV p).toArray 4).run Tryz.prog W=.ok (iV p.outPort) W:=fun W=>by kernel_rfl
  unfold sameBd;simp only [Op.eqFields,a0,b0,d0,q0,p0,a1,b1,d1,q1,p1,a2,b2,d2,q2,p2,a3,b3,d3,q3,p3,a4,b4,d4,q4,p4,if_true,Sem.run_bind,Sem.run_ite,Sem.run_pure,Result.andThen_ok,run_equalIn_string _ _ _ _ _ Tryz.underlying9,run_equalIn_int _ _ _ _ _ _ _ Tryz.underlying2];generalize (q.proto==p.proto)=g0;generalize (q.inn.toList==p.inn.toList)=g1;generalize (q.inPort==p.inPort)=g2;generalize (q.out.toList==p.out.toList)=g3;generalize (q.outPort==p.outPort)=g4
  cases g0
  ·simp
  simp only [Bool.not_true,Bool.false_eq_true,if_false,Bool.true_and]
  cases g1
  ·simp
  simp only [Bool.not_true,Bool.false_eq_true,if_false,Bool.true_and]
  cases g2
  ·simp
  simp only [Bool.not_true,Bool.false_eq_true,if_false,Bool.true_and]
  cases g3
  ·simp
  simp only [Bool.not_true,Bool.false_eq_true,if_false,Bool.true_and]
  cases g4<;>simp
theorem neBdW_bin (q p:Bd) (W:World):(binOp .neq 48 (.agg (BdV q).toArray) (.agg (BdV p).toArray)).run Tryz.prog W=.ok (.bool (!sameBd q p)) W:=by
 rw [run_neq_struct,eqBdW_run 9998 q p W]; rfl
def sameSs (q p:Ss):Bool:=(q.proto==p.proto)&&((q.inn.toList==p.inn.toList)&&((q.inPort==p.inPort)&&((q.peer.toList==p.peer.toList)&&((q.peerPort==p.peerPort)&&((q.state==p.state)&&((q.untl==p.untl)))))))
theorem sameSs_self (q:Ss):sameSs q q=true:=by unfold sameSs; simp
theorem eqSsW_run (D:Nat) (q p:Ss) (W:World):(Op.equalIn (D+2) 59 (.agg (SsV q).toArray) (.agg (SsV p).toArray)).run Tryz.prog W=.ok (sameSs q p) W:=by
 have h1:Tryz.prog.underlying 59=some (.struct (Tryz.prog.fieldsOf 59)):=by kernel_rfl
 have h2:Tryz.prog.stoodInHeld 59=false:=by kernel_rfl
 rw [run_equalIn_agg _ _ _ _ _ h1 h2];have h3:(Tryz.prog.fieldsOf 59).toList.length=7:=by kernel_rfl
 have h4 : ((Tryz.prog.fieldsOf 59).toList.map fun f => (f.type, f.offset, f.name == "_")) = [(2, 0, false), (9, 1, false), (2, 2, false), (9, 3, false), (2, 4, false), (2, 5, false), (2, 6, false)] := by kernel_rfl
 generalize (Tryz.prog.fieldsOf 59).toList=fs at *;match fs,h3 with
 | [f0,f1,f2,f3,f4,f5,f6],_ =>
  simp only [List.map_cons,List.map_nil,List.cons.injEq,Prod.mk.injEq,and_true] at h4;obtain ⟨⟨a0,b0,c0⟩,⟨a1,b1,c1⟩,⟨a2,b2,c2⟩,⟨a3,b3,c3⟩,⟨a4,b4,c4⟩,⟨a5,b5,c5⟩,⟨a6,b6,c6⟩⟩:=h4
  have d0 : (f0.name ≠ "_") = True := by simpa using c0
  have q0:∀ W,(part 2 (SsV q).toArray 0).run Tryz.prog W=.ok (iV q.proto) W:=fun W=>by kernel_rfl
  have p0:∀ W,(part 2 (SsV p).toArray 0).run Tryz.prog W=.ok (iV p.proto) W:=fun W=>by kernel_rfl
  have d1 : (f1.name ≠ "_") = True := by simpa using c1
  have q1:∀ W,(part 9 (SsV q).toArray 1).run Tryz.prog W=.ok (.string q.inn) W:=fun W=>by kernel_rfl
  have p1:∀ W,(part 9 (SsV p).toArray 1).run Tryz.prog W=.ok (.string p.inn) W:=fun W=>by kernel_rfl
  have d2 : (f2.name ≠ "_") = True := by simpa using c2
  have q2:∀ W,(part 2 (SsV q).toArray 2).run Tryz.prog W=.ok (iV q.inPort) W:=fun W=>by kernel_rfl
  have p2:∀ W,(part 2 (SsV p).toArray 2).run Tryz.prog W=.ok (iV p.inPort) W:=fun W=>by kernel_rfl
  have d3 : (f3.name ≠ "_") = True := by simpa using c3
  have q3:∀ W,(part 9 (SsV q).toArray 3).run Tryz.prog W=.ok (.string q.peer) W:=fun W=>by kernel_rfl
  have p3:∀ W,(part 9 (SsV p).toArray 3).run Tryz.prog W=.ok (.string p.peer) W:=fun W=>by kernel_rfl
  have d4 : (f4.name ≠ "_") = True := by simpa using c4
  have q4:∀ W,(part 2 (SsV q).toArray 4).run Tryz.prog W=.ok (iV q.peerPort) W:=fun W=>by kernel_rfl
  have p4:∀ W,(part 2 (SsV p).toArray 4).run Tryz.prog W=.ok (iV p.peerPort) W:=fun W=>by kernel_rfl
  have d5 : (f5.name ≠ "_") = True := by simpa using c5
  have q5:∀ W,(part 2 (SsV q).toArray 5).run Tryz.prog W=.ok (iV q.state) W:=fun W=>by kernel_rfl
  have p5:∀ W,(part 2 (SsV p).toArray 5).run Tryz.prog W=.ok (iV p.state) W:=fun W=>by kernel_rfl
  have d6 : (f6.name ≠ "_") = True := by simpa using c6
  have q6:∀ W,(part 2 (SsV q).toArray 6).run Tryz.prog W=.ok (iV q.untl) W:=fun W=>by kernel_rfl
  have p6:∀ W,(part 2 (SsV p).toArray 6).run Tryz.prog W=.ok (iV p.untl) W:=fun W=>by kernel_rfl
  unfold sameSs;simp only [Op.eqFields,a0,b0,d0,q0,p0,a1,b1,d1,q1,p1,a2,b2,d2,q2,p2,a3,b3,d3,q3,p3,a4,b4,d4,q4,p4,a5,b5,d5,q5,p5,a6,b6,d6,q6,p6,if_true,Sem.run_bind,Sem.run_ite,Sem.run_pure,Result.andThen_ok,run_equalIn_string _ _ _ _ _ Tryz.underlying9,run_equalIn_int _ _ _ _ _ _ _ Tryz.underlying2];generalize (q.proto==p.proto)=g0;generalize (q.inn.toList==p.inn.toList)=g1;generalize (q.inPort==p.inPort)=g2;generalize (q.peer.toList==p.peer.toList)=g3;generalize (q.peerPort==p.peerPort)=g4;generalize (q.state==p.state)=g5;generalize (q.untl==p.untl)=g6
  cases g0
  ·simp
  simp only [Bool.not_true,Bool.false_eq_true,if_false,Bool.true_and]
  cases g1
  ·simp
  simp only [Bool.not_true,Bool.false_eq_true,if_false,Bool.true_and]
  cases g2
  ·simp
  simp only [Bool.not_true,Bool.false_eq_true,if_false,Bool.true_and]
  cases g3
  ·simp
  simp only [Bool.not_true,Bool.false_eq_true,if_false,Bool.true_and]
  cases g4
  ·simp
  simp only [Bool.not_true,Bool.false_eq_true,if_false,Bool.true_and]
  cases g5
  ·simp
  simp only [Bool.not_true,Bool.false_eq_true,if_false,Bool.true_and]
  cases g6<;>simp
theorem neSsW_bin (q p:Ss) (W:World):(binOp .neq 59 (.agg (SsV q).toArray) (.agg (SsV p).toArray)).run Tryz.prog W=.ok (.bool (!sameSs q p)) W:=by
 rw [run_neq_struct,eqSsW_run 9998 q p W]; rfl
end Go.Proofs.YtdkepkaflielhaaGreatDoor
