import Derived.Test.YtjpdljkjalnmhaaGreatDoorMerged2
import Derived.Test.YtjpdljkjalnmhaaGreatDoorChecked
import Derived.Laws.StructEq
set_option linter.unusedVariables false
set_option linter.unusedSimpArgs false
set_option maxRecDepth 100000
set_option maxHeartbeats 8000000
namespace Go.Proofs.YtjpdljkjalnmhaaGreatDoor
open Go.RowKit
def sameBd (q p:Bd):Bool:=(q.proto==p.proto)&&((q.inn.toList==p.inn.toList)&&((q.inPort==p.inPort)&&((q.out.toList==p.out.toList)&&((q.outPort==p.outPort)))))
theorem sameBd_self (q:Bd):sameBd q q=true:=by unfold sameBd; simp
theorem eqBdW_run (D:Nat) (q p:Bd) (W:World):(Op.equalIn (D+2) 37 (.agg #[.int .i64 q.proto,.string q.inn,.int .i64 q.inPort,.string q.out,.int .i64 q.outPort]) (.agg #[.int .i64 p.proto,.string p.inn,.int .i64 p.inPort,.string p.out,.int .i64 p.outPort])).run Tryz.prog W=.ok (sameBd q p) W:=by
 have h1:Tryz.prog.underlying 37=some (.struct (Tryz.prog.fieldsOf 37)):=by kernel_rfl
 have h2:Tryz.prog.stoodInHeld 37=false:=by kernel_rfl
 rw [run_equalIn_agg _ _ _ _ _ h1 h2];have h3:(Tryz.prog.fieldsOf 37).toList.length=5:=by kernel_rfl
 have h4 : ((Tryz.prog.fieldsOf 37).toList.map fun f => (f.type, f.offset, f.name == "_")) = [(2, 0, false), (9, 1, false), (2, 2, false), (9, 3, false), (2, 4, false)] := by kernel_rfl
 generalize (Tryz.prog.fieldsOf 37).toList=fs at *;match fs,h3 with
 | [f0,f1,f2,f3,f4],_ =>
  simp only [List.map_cons,List.map_nil,List.cons.injEq,Prod.mk.injEq,and_true] at h4;obtain ⟨⟨a0,b0,c0⟩,⟨a1,b1,c1⟩,⟨a2,b2,c2⟩,⟨a3,b3,c3⟩,⟨a4,b4,c4⟩⟩:=h4
  have d0 : (f0.name ≠ "_") = True := by simpa using c0
  have q0:∀ W,(part 2 #[.int .i64 q.proto,.string q.inn,.int .i64 q.inPort,.string q.out,.int .i64 q.outPort] 0).run Tryz.prog W=.ok (.int .i64 q.proto) W:=fun W=>by kernel_rfl
  have p0:∀ W,(part 2 #[.int .i64 p.proto,.string p.inn,.int .i64 p.inPort,.string p.out,.int .i64 p.outPort] 0).run Tryz.prog W=.ok (.int .i64 p.proto) W:=fun W=>by kernel_rfl
  have d1 : (f1.name ≠ "_") = True := by simpa using c1
  have q1:∀ W,(part 9 #[.int .i64 q.proto,.string q.inn,.int .i64 q.inPort,.string q.out,.int .i64 q.outPort] 1).run Tryz.prog W=.ok (.string q.inn) W:=fun W=>by kernel_rfl
  have p1:∀ W,(part 9 #[.int .i64 p.proto,.string p.inn,.int .i64 p.inPort,.string p.out,.int .i64 p.outPort] 1).run Tryz.prog W=.ok (.string p.inn) W:=fun W=>by kernel_rfl
  have d2 : (f2.name ≠ "_") = True := by simpa using c2
  have q2:∀ W,(part 2 #[.int .i64 q.proto,.string q.inn,.int .i64 q.inPort,.string q.out,.int .i64 q.outPort] 2).run Tryz.prog W=.ok (.int .i64 q.inPort) W:=fun W=>by kernel_rfl
  have p2:∀ W,(part 2 #[.int .i64 p.proto,.string p.inn,.int .i64 p.inPort,.string p.out,.int .i64 p.outPort] 2).run Tryz.prog W=.ok (.int .i64 p.inPort) W:=fun W=>by kernel_rfl
  have d3 : (f3.name ≠ "_") = True := by simpa using c3
  have q3:∀ W,(part 9 #[.int .i64 q.proto,.string q.inn,.int .i64 q.inPort,.string q.out,.int .i64 q.outPort] 3).run Tryz.prog W=.ok (.string q.out) W:=fun W=>by kernel_rfl
  have p3:∀ W,(part 9 #[.int .i64 p.proto,.string p.inn,.int .i64 p.inPort,.string p.out,.int .i64 p.outPort] 3).run Tryz.prog W=.ok (.string p.out) W:=fun W=>by kernel_rfl
  have d4 : (f4.name ≠ "_") = True := by simpa using c4
  have q4:∀ W,(part 2 #[.int .i64 q.proto,.string q.inn,.int .i64 q.inPort,.string q.out,.int .i64 q.outPort] 4).run Tryz.prog W=.ok (.int .i64 q.outPort) W:=fun W=>by kernel_rfl
  have p4:∀ W,(part 2 #[.int .i64 p.proto,.string p.inn,.int .i64 p.inPort,.string p.out,.int .i64 p.outPort] 4).run Tryz.prog W=.ok (.int .i64 p.outPort) W:=fun W=>by kernel_rfl
  unfold sameBd;simp only [Op.eqFields,a0,b0,d0,q0,p0,a1,b1,d1,q1,p1,a2,b2,d2,q2,p2,a3,b3,d3,q3,p3,a4,b4,d4,q4,p4,if_true,Sem.run_bind,Sem.run_ite,Sem.run_pure,Result.andThen_ok,run_equalIn_string _ _ _ _ _ Tryz.underlying9,run_equalIn_int _ _ _ _ _ _ _ Tryz.underlying2];generalize (q.proto==p.proto)=g0;generalize (q.inn.toList==p.inn.toList)=g1;generalize (q.inPort==p.inPort)=g2;generalize (q.out.toList==p.out.toList)=g3;generalize (q.outPort==p.outPort)=g4
  cases g0
  ·simp
  simp only [Bool.not_true,Bool.false_eq_true,if_false,Bool.true_and]
  cases g1
  ·simp
  simp only [Bool.not_true,Bool.false_eq_true,if_false,Bool.true_and]
  cases g2
  ·simp
  simp only [Bool.not_true,Bool.false_eq_true,if_false,Bool.true_and]
  cases g3
  ·simp
  simp only [Bool.not_true,Bool.false_eq_true,if_false,Bool.true_and]
  cases g4<;>simp
theorem neBdW_bin (q p:Bd) (W:World):(binOp .neq 37 (.agg #[.int .i64 q.proto,.string q.inn,.int .i64 q.inPort,.string q.out,.int .i64 q.outPort]) (.agg #[.int .i64 p.proto,.string p.inn,.int .i64 p.inPort,.string p.out,.int .i64 p.outPort])).run Tryz.prog W=.ok (.bool (!sameBd q p)) W:=by
 rw [run_neq_struct,eqBdW_run 9998 q p W]; rfl
def sameSs (q p:Ss):Bool:=(q.proto==p.proto)&&((q.inn.toList==p.inn.toList)&&((q.inPort==p.inPort)&&((q.peer.toList==p.peer.toList)&&((q.peerPort==p.peerPort)&&((q.state==p.state)&&((q.untl==p.untl)))))))
theorem sameSs_self (q:Ss):sameSs q q=true:=by unfold sameSs; simp
theorem eqSsW_run (D:Nat) (q p:Ss) (W:World):(Op.equalIn (D+2) 70 (.agg #[.int .i64 q.proto,.string q.inn,.int .i64 q.inPort,.string q.peer,.int .i64 q.peerPort,.int .i64 q.state,.int .i64 q.untl]) (.agg #[.int .i64 p.proto,.string p.inn,.int .i64 p.inPort,.string p.peer,.int .i64 p.peerPort,.int .i64 p.state,.int .i64 p.untl])).run Tryz.prog W=.ok (sameSs q p) W:=by
 have h1:Tryz.prog.underlying 70=some (.struct (Tryz.prog.fieldsOf 70)):=by kernel_rfl
 have h2:Tryz.prog.stoodInHeld 70=false:=by kernel_rfl
 rw [run_equalIn_agg _ _ _ _ _ h1 h2];have h3:(Tryz.prog.fieldsOf 70).toList.length=7:=by kernel_rfl
 have h4 : ((Tryz.prog.fieldsOf 70).toList.map fun f => (f.type, f.offset, f.name == "_")) = [(2, 0, false), (9, 1, false), (2, 2, false), (9, 3, false), (2, 4, false), (2, 5, false), (2, 6, false)] := by kernel_rfl
 generalize (Tryz.prog.fieldsOf 70).toList=fs at *;match fs,h3 with
 | [f0,f1,f2,f3,f4,f5,f6],_ =>
  simp only [List.map_cons,List.map_nil,List.cons.injEq,Prod.mk.injEq,and_true] at h4;obtain ⟨⟨a0,b0,c0⟩,⟨a1,b1,c1⟩,⟨a2,b2,c2⟩,⟨a3,b3,c3⟩,⟨a4,b4,c4⟩,⟨a5,b5,c5⟩,⟨a6,b6,c6⟩⟩:=h4
  have d0 : (f0.name ≠ "_") = True := by simpa using c0
  have q0:∀ W,(part 2 #[.int .i64 q.proto,.string q.inn,.int .i64 q.inPort,.string q.peer,.int .i64 q.peerPort,.int .i64 q.state,.int .i64 q.untl] 0).run Tryz.prog W=.ok (.int .i64 q.proto) W:=fun W=>by kernel_rfl
  have p0:∀ W,(part 2 #[.int .i64 p.proto,.string p.inn,.int .i64 p.inPort,.string p.peer,.int .i64 p.peerPort,.int .i64 p.state,.int .i64 p.untl] 0).run Tryz.prog W=.ok (.int .i64 p.proto) W:=fun W=>by kernel_rfl
  have d1 : (f1.name ≠ "_") = True := by simpa using c1
  have q1:∀ W,(part 9 #[.int .i64 q.proto,.string q.inn,.int .i64 q.inPort,.string q.peer,.int .i64 q.peerPort,.int .i64 q.state,.int .i64 q.untl] 1).run Tryz.prog W=.ok (.string q.inn) W:=fun W=>by kernel_rfl
  have p1:∀ W,(part 9 #[.int .i64 p.proto,.string p.inn,.int .i64 p.inPort,.string p.peer,.int .i64 p.peerPort,.int .i64 p.state,.int .i64 p.untl] 1).run Tryz.prog W=.ok (.string p.inn) W:=fun W=>by kernel_rfl
  have d2 : (f2.name ≠ "_") = True := by simpa using c2
  have q2:∀ W,(part 2 #[.int .i64 q.proto,.string q.inn,.int .i64 q.inPort,.string q.peer,.int .i64 q.peerPort,.int .i64 q.state,.int .i64 q.untl] 2).run Tryz.prog W=.ok (.int .i64 q.inPort) W:=fun W=>by kernel_rfl
  have p2:∀ W,(part 2 #[.int .i64 p.proto,.string p.inn,.int .i64 p.inPort,.string p.peer,.int .i64 p.peerPort,.int .i64 p.state,.int .i64 p.untl] 2).run Tryz.prog W=.ok (.int .i64 p.inPort) W:=fun W=>by kernel_rfl
  have d3 : (f3.name ≠ "_") = True := by simpa using c3
  have q3:∀ W,(part 9 #[.int .i64 q.proto,.string q.inn,.int .i64 q.inPort,.string q.peer,.int .i64 q.peerPort,.int .i64 q.state,.int .i64 q.untl] 3).run Tryz.prog W=.ok (.string q.peer) W:=fun W=>by kernel_rfl
  have p3:∀ W,(part 9 #[.int .i64 p.proto,.string p.inn,.int .i64 p.inPort,.string p.peer,.int .i64 p.peerPort,.int .i64 p.state,.int .i64 p.untl] 3).run Tryz.prog W=.ok (.string p.peer) W:=fun W=>by kernel_rfl
  have d4 : (f4.name ≠ "_") = True := by simpa using c4
  have q4:∀ W,(part 2 #[.int .i64 q.proto,.string q.inn,.int .i64 q.inPort,.string q.peer,.int .i64 q.peerPort,.int .i64 q.state,.int .i64 q.untl] 4).run Tryz.prog W=.ok (.int .i64 q.peerPort) W:=fun W=>by kernel_rfl
  have p4:∀ W,(part 2 #[.int .i64 p.proto,.string p.inn,.int .i64 p.inPort,.string p.peer,.int .i64 p.peerPort,.int .i64 p.state,.int .i64 p.untl] 4).run Tryz.prog W=.ok (.int .i64 p.peerPort) W:=fun W=>by kernel_rfl
  have d5 : (f5.name ≠ "_") = True := by simpa using c5
  have q5:∀ W,(part 2 #[.int .i64 q.proto,.string q.inn,.int .i64 q.inPort,.string q.peer,.int .i64 q.peerPort,.int .i64 q.state,.int .i64 q.untl] 5).run Tryz.prog W=.ok (.int .i64 q.state) W:=fun W=>by kernel_rfl
  have p5:∀ W,(part 2 #[.int .i64 p.proto,.string p.inn,.int .i64 p.inPort,.string p.peer,.int .i64 p.peerPort,.int .i64 p.state,.int .i64 p.untl] 5).run Tryz.prog W=.ok (.int .i64 p.state) W:=fun W=>by kernel_rfl
  have d6 : (f6.name ≠ "_") = True := by simpa using c6
  have q6:∀ W,(part 2 #[.int .i64 q.proto,.string q.inn,.int .i64 q.inPort,.string q.peer,.int .i64 q.peerPort,.int .i64 q.state,.int .i64 q.untl] 6).run Tryz.prog W=.ok (.int .i64 q.untl) W:=fun W=>by kernel_rfl
  have p6:∀ W,(part 2 #[.int .i64 p.proto,.string p.inn,.int .i64 p.inPort,.string p.peer,.int .i64 p.peerPort,.int .i64 p.state,.int .i64 p.untl] 6).run Tryz.prog W=.ok (.int .i64 p.untl) W:=fun W=>by kernel_rfl
  unfold sameSs;simp only [Op.eqFields,a0,b0,d0,q0,p0,a1,b1,d1,q1,p1,a2,b2,d2,q2,p2,a3,b3,d3,q3,p3,a4,b4,d4,q4,p4,a5,b5,d5,q5,p5,a6,b6,d6,q6,p6,if_true,Sem.run_bind,Sem.run_ite,Sem.run_pure,Result.andThen_ok,run_equalIn_string _ _ _ _ _ Tryz.underlying9,run_equalIn_int _ _ _ _ _ _ _ Tryz.underlying2];generalize (q.proto==p.proto)=g0;generalize (q.inn.toList==p.inn.toList)=g1;generalize (q.inPort==p.inPort)=g2;generalize (q.peer.toList==p.peer.toList)=g3;generalize (q.peerPort==p.peerPort)=g4;generalize (q.state==p.state)=g5;generalize (q.untl==p.untl)=g6
  cases g0
  ·simp
  simp only [Bool.not_true,Bool.false_eq_true,if_false,Bool.true_and]
  cases g1
  ·simp
  simp only [Bool.not_true,Bool.false_eq_true,if_false,Bool.true_and]
  cases g2
  ·simp
  simp only [Bool.not_true,Bool.false_eq_true,if_false,Bool.true_and]
  cases g3
  ·simp
  simp only [Bool.not_true,Bool.false_eq_true,if_false,Bool.true_and]
  cases g4
  ·simp
  simp only [Bool.not_true,Bool.false_eq_true,if_false,Bool.true_and]
  cases g5
  ·simp
  simp only [Bool.not_true,Bool.false_eq_true,if_false,Bool.true_and]
  cases g6<;>simp
theorem neSsW_bin (q p:Ss) (W:World):(binOp .neq 70 (.agg #[.int .i64 q.proto,.string q.inn,.int .i64 q.inPort,.string q.peer,.int .i64 q.peerPort,.int .i64 q.state,.int .i64 q.untl]) (.agg #[.int .i64 p.proto,.string p.inn,.int .i64 p.inPort,.string p.peer,.int .i64 p.peerPort,.int .i64 p.state,.int .i64 p.untl])).run Tryz.prog W=.ok (.bool (!sameSs q p)) W:=by
 rw [run_neq_struct,eqSsW_run 9998 q p W]; rfl
end Go.Proofs.YtjpdljkjalnmhaaGreatDoor
