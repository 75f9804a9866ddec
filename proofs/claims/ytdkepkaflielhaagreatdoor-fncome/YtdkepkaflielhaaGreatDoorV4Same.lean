import Derived.Test.YtdkepkaflielhaaGreatDoorAb
import Derived.Test.YtdkepkaflielhaaGreatDoorPkt
import Derived.Test.YtdkepkaflielhaaGreatDoorProg
import Derived.Laws.StructEq
set_option linter.unusedVariables false
set_option linter.unusedSimpArgs false
set_option maxRecDepth 100000
set_option maxHeartbeats 8000000
namespace Go.Proofs.YtdkepkaflielhaaGreatDoor
open Go.RowKit
theorem tl_eq (a b:ByteArray):(a.toList==b.toList)=decide (a=b):=by
 by_cases h:a=b
 ·subst h; simp
 ·rw [decide_eq_false h];have:a.toList≠b.toList:=fun e=>h (by
   rw [ByteArray.toList_eq,ByteArray.toList_eq] at e;apply ByteArray.ext;exact Array.toList_inj.1 e)
  simpa using this
def sameV4 (q p:P4):Bool:=(q.tos==p.tos)&&((q.id==p.id)&&((q.whole==p.whole)&&((q.more==p.more)&&((q.off==p.off)&&((q.ttl==p.ttl)&&((q.proto==p.proto)&&((q.src.toList==p.src.toList)&&((q.dst.toList==p.dst.toList)&&((q.opts.toList==p.opts.toList)&&((q.data.toList==p.data.toList)))))))))))
theorem sameV4_iff (q p:P4):sameV4 q p=true↔q=p:=by
 unfold sameV4;simp only [tl_eq,Bool.and_eq_true,beq_iff_eq,decide_eq_true_iff];constructor
 ·intro h;obtain ⟨h0,h1,h2,h3,h4,h5,h6,h7,h8,h9,h10⟩:=h
  cases q; cases p; simp_all
 ·rintro rfl; simp
theorem eqV4_run (D:Nat) (q p:P4) (W:World):(Op.equalIn (D+2) 33 (.agg (P4V q).toArray) (.agg (P4V p).toArray)).run Tryz.prog W=.ok (sameV4 q p) W:=by
 have h1:Tryz.prog.underlying 33=some (.struct (Tryz.prog.fieldsOf 33)):=by kernel_rfl
 have h2:Tryz.prog.stoodInHeld 33=false:=by kernel_rfl
 rw [run_equalIn_agg _ _ _ _ _ h1 h2];have h3:(Tryz.prog.fieldsOf 33).toList.length=11:=by kernel_rfl
 have h4 : ((Tryz.prog.fieldsOf 33).toList.map fun f => (f.type, f.offset, f.name == "_")) = [(2, 0, false), (2, 1, false), (4, 2, false), (4, 3, false), (2, 4, false), (2, 5, false), (2, 6, false), (9, 7, false), (9, 8, false), (9, 9, false), (9, 10, false)] := by kernel_rfl
 generalize (Tryz.prog.fieldsOf 33).toList=fs at *;match fs,h3 with
 | [f0,f1,f2,f3,f4,f5,f6,f7,f8,f9,f10],_ =>
  simp only [List.map_cons,List.map_nil,List.cons.injEq,Prod.mk.injEq,and_true] at h4;obtain ⟨⟨a0,b0,c0⟩,⟨a1,b1,c1⟩,⟨a2,b2,c2⟩,⟨a3,b3,c3⟩,⟨a4,b4,c4⟩,⟨a5,b5,c5⟩,⟨a6,b6,c6⟩,⟨a7,b7,c7⟩,⟨a8,b8,c8⟩,⟨a9,b9,c9⟩,⟨a10,b10,c10⟩⟩:=h4
  have d0 : (f0.name ≠ "_") = True := by simpa using c0
  have q0:∀ W,(part 2 (P4V q).toArray 0).run Tryz.prog W=.ok (iV q.tos) W:=fun W=>by kernel_rfl
  have p0:∀ W,(part 2 (P4V p).toArray 0).run Tryz.prog W=.ok (iV p.tos) W:=fun W=>by kernel_rfl
  have d1 : (f1.name ≠ "_") = True := by simpa using c1
  have q1:∀ W,(part 2 (P4V q).toArray 1).run Tryz.prog W=.ok (iV q.id) W:=fun W=>by kernel_rfl
  have p1:∀ W,(part 2 (P4V p).toArray 1).run Tryz.prog W=.ok (iV p.id) W:=fun W=>by kernel_rfl
  have d2 : (f2.name ≠ "_") = True := by simpa using c2
  have q2:∀ W,(part 4 (P4V q).toArray 2).run Tryz.prog W=.ok (.bool q.whole) W:=fun W=>by kernel_rfl
  have p2:∀ W,(part 4 (P4V p).toArray 2).run Tryz.prog W=.ok (.bool p.whole) W:=fun W=>by kernel_rfl
  have d3 : (f3.name ≠ "_") = True := by simpa using c3
  have q3:∀ W,(part 4 (P4V q).toArray 3).run Tryz.prog W=.ok (.bool q.more) W:=fun W=>by kernel_rfl
  have p3:∀ W,(part 4 (P4V p).toArray 3).run Tryz.prog W=.ok (.bool p.more) W:=fun W=>by kernel_rfl
  have d4 : (f4.name ≠ "_") = True := by simpa using c4
  have q4:∀ W,(part 2 (P4V q).toArray 4).run Tryz.prog W=.ok (iV q.off) W:=fun W=>by kernel_rfl
  have p4:∀ W,(part 2 (P4V p).toArray 4).run Tryz.prog W=.ok (iV p.off) W:=fun W=>by kernel_rfl
  have d5 : (f5.name ≠ "_") = True := by simpa using c5
  have q5:∀ W,(part 2 (P4V q).toArray 5).run Tryz.prog W=.ok (iV q.ttl) W:=fun W=>by kernel_rfl
  have p5:∀ W,(part 2 (P4V p).toArray 5).run Tryz.prog W=.ok (iV p.ttl) W:=fun W=>by kernel_rfl
  have d6 : (f6.name ≠ "_") = True := by simpa using c6
  have q6:∀ W,(part 2 (P4V q).toArray 6).run Tryz.prog W=.ok (iV q.proto) W:=fun W=>by kernel_rfl
  have p6:∀ W,(part 2 (P4V p).toArray 6).run Tryz.prog W=.ok (iV p.proto) W:=fun W=>by kernel_rfl
  have d7 : (f7.name ≠ "_") = True := by simpa using c7
  have q7:∀ W,(part 9 (P4V q).toArray 7).run Tryz.prog W=.ok (.string q.src) W:=fun W=>by kernel_rfl
  have p7:∀ W,(part 9 (P4V p).toArray 7).run Tryz.prog W=.ok (.string p.src) W:=fun W=>by kernel_rfl
  have d8 : (f8.name ≠ "_") = True := by simpa using c8
  have q8:∀ W,(part 9 (P4V q).toArray 8).run Tryz.prog W=.ok (.string q.dst) W:=fun W=>by kernel_rfl
  have p8:∀ W,(part 9 (P4V p).toArray 8).run Tryz.prog W=.ok (.string p.dst) W:=fun W=>by kernel_rfl
  have d9 : (f9.name ≠ "_") = True := by simpa using c9
  have q9:∀ W,(part 9 (P4V q).toArray 9).run Tryz.prog W=.ok (.string q.opts) W:=fun W=>by kernel_rfl
  have p9:∀ W,(part 9 (P4V p).toArray 9).run Tryz.prog W=.ok (.string p.opts) W:=fun W=>by kernel_rfl
  have d10 : (f10.name ≠ "_") = True := by simpa using c10
  have q10:∀ W,(part 9 (P4V q).toArray 10).run Tryz.prog W=.ok (.string q.data) W:=fun W=>by kernel_rfl
  have p10:∀ W,(part 9 (P4V p).toArray 10).run Tryz.prog W=.ok (.string p.data) W:=fun W=>by kernel_rfl
  unfold sameV4;simp only [Op.eqFields,a0,b0,d0,q0,p0,a1,b1,d1,q1,p1,a2,b2,d2,q2,p2,a3,b3,d3,q3,p3,a4,b4,d4,q4,p4,a5,b5,d5,q5,p5,a6,b6,d6,q6,p6,a7,b7,d7,q7,p7,a8,b8,d8,q8,p8,a9,b9,d9,q9,p9,a10,b10,d10,q10,p10,if_true,Sem.run_bind,Sem.run_ite,Sem.run_pure,Result.andThen_ok,run_equalIn_string _ _ _ _ _ Tryz.underlying9,run_equalIn_int _ _ _ _ _ _ _ Tryz.underlying2,run_equalIn_bool' _ _ _ _ _ Tryz.underlying4];generalize (q.tos==p.tos)=g0;generalize (q.id==p.id)=g1;generalize (q.whole==p.whole)=g2;generalize (q.more==p.more)=g3;generalize (q.off==p.off)=g4;generalize (q.ttl==p.ttl)=g5;generalize (q.proto==p.proto)=g6;generalize (q.src.toList==p.src.toList)=g7;generalize (q.dst.toList==p.dst.toList)=g8;generalize (q.opts.toList==p.opts.toList)=g9;generalize (q.data.toList==p.data.toList)=g10
  cases g0
  ·simp
  simp only [Bool.not_true,Bool.false_eq_true,if_false,Bool.true_and]
  cases g1
  ·simp
  simp only [Bool.not_true,Bool.false_eq_true,if_false,Bool.true_and]
  cases g2
  ·simp
  simp only [Bool.not_true,Bool.false_eq_true,if_false,Bool.true_and]
  cases g3
  ·simp
  simp only [Bool.not_true,Bool.false_eq_true,if_false,Bool.true_and]
  cases g4
  ·simp
  simp only [Bool.not_true,Bool.false_eq_true,if_false,Bool.true_and]
  cases g5
  ·simp
  simp only [Bool.not_true,Bool.false_eq_true,if_false,Bool.true_and]
  cases g6
  ·simp
  simp only [Bool.not_true,Bool.false_eq_true,if_false,Bool.true_and]
  cases g7
  ·simp
  simp only [Bool.not_true,Bool.false_eq_true,if_false,Bool.true_and]
  cases g8
  ·simp
  simp only [Bool.not_true,Bool.false_eq_true,if_false,Bool.true_and]
  cases g9
  ·simp
  simp only [Bool.not_true,Bool.false_eq_true,if_false,Bool.true_and]
  cases g10<;>simp
theorem eqV4_bin (q p:P4) (W:World):(binOp .eql 33 (.agg (P4V q).toArray) (.agg (P4V p).toArray)).run Tryz.prog W=.ok (.bool (sameV4 q p)) W:=by
 rw [run_eql_struct,eqV4_run 9998 q p W]; rfl
theorem neV4_bin (q p:P4) (W:World):(binOp .neq 33 (.agg (P4V q).toArray) (.agg (P4V p).toArray)).run Tryz.prog W=.ok (.bool (!sameV4 q p)) W:=by
 rw [run_neq_struct,eqV4_run 9998 q p W]; rfl
end Go.Proofs.YtdkepkaflielhaaGreatDoor
