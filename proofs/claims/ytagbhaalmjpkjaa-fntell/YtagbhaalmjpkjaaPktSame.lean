import Derived.Test.YtagbhaalmjpkjaaMerged4
import Derived.Test.YtagbhaalmjpkjaaChecked
import Derived.Laws.StructEq
set_option linter.unusedVariables false
set_option linter.unusedSimpArgs false
set_option maxRecDepth 100000
set_option maxHeartbeats 8000000
namespace Go.Proofs.Ytagbhaalmjpkjaa
open Go.RowKit
theorem tl_eq (a b:ByteArray):(a.toList==b.toList)=decide (a=b):=by
 by_cases h:a=b
 ·subst h; simp
 ·rw [decide_eq_false h];have:a.toList≠b.toList:=fun e=>h (by
   rw [ByteArray.toList_eq,ByteArray.toList_eq] at e;apply ByteArray.ext;exact Array.toList_inj.1 e)
  simpa using this
def sameV4 (q p:P4):Bool:=(q.tos==p.tos)&&((q.id==p.id)&&((q.whole==p.whole)&&((q.more==p.more)&&((q.off==p.off)&&((q.ttl==p.ttl)&&((q.proto==p.proto)&&((q.src.toList==p.src.toList)&&((q.dst.toList==p.dst.toList)&&((q.opts.toList==p.opts.toList)&&((q.data.toList==p.data.toList)))))))))))
theorem sameV4_iff (q p:P4):sameV4 q p=true↔q=p:=by
 unfold sameV4;simp only [tl_eq,Bool.and_eq_true,beq_iff_eq,decide_eq_true_iff];constructor
 ·intro h;obtain ⟨h0,h1,h2,h3,h4,h5,h6,h7,h8,h9,h10⟩:=h
  cases q; cases p; simp_all
 ·rintro rfl; simp
theorem eqV4_run (D:Nat) (q p:P4) (W:World):(Op.equalIn (D+2) 34 (.agg #[.int .i64 q.tos,.int .i64 q.id,.bool q.whole,.bool q.more,.int .i64 q.off,.int .i64 q.ttl,.int .i64 q.proto,.string q.src,.string q.dst,.string q.opts,.string q.data]) (.agg #[.int .i64 p.tos,.int .i64 p.id,.bool p.whole,.bool p.more,.int .i64 p.off,.int .i64 p.ttl,.int .i64 p.proto,.string p.src,.string p.dst,.string p.opts,.string p.data])).run Try.prog W=.ok (sameV4 q p) W:=by
 have h1:Try.prog.underlying 34=some (.struct (Try.prog.fieldsOf 34)):=by kernel_rfl
 have h2:Try.prog.stoodInHeld 34=false:=by kernel_rfl
 rw [run_equalIn_agg _ _ _ _ _ h1 h2];have h3:(Try.prog.fieldsOf 34).toList.length=11:=by kernel_rfl
 have h4 : ((Try.prog.fieldsOf 34).toList.map fun f => (f.type, f.offset, f.name == "_")) = [(2, 0, false), (2, 1, false), (4, 2, false), (4, 3, false), (2, 4, false), (2, 5, false), (2, 6, false), (9, 7, false), (9, 8, false), (9, 9, false), (9, 10, false)] := by kernel_rfl
 generalize (Try.prog.fieldsOf 34).toList=fs at *;match fs,h3 with
 | [f0,f1,f2,f3,f4,f5,f6,f7,f8,f9,f10],_ =>
  simp only [List.map_cons,List.map_nil,List.cons.injEq,Prod.mk.injEq,and_true] at h4;obtain ⟨⟨a0,b0,c0⟩,⟨a1,b1,c1⟩,⟨a2,b2,c2⟩,⟨a3,b3,c3⟩,⟨a4,b4,c4⟩,⟨a5,b5,c5⟩,⟨a6,b6,c6⟩,⟨a7,b7,c7⟩,⟨a8,b8,c8⟩,⟨a9,b9,c9⟩,⟨a10,b10,c10⟩⟩:=h4
  have d0 : (f0.name ≠ "_") = True := by simpa using c0
  have q0:∀ W,(part 2 #[.int .i64 q.tos,.int .i64 q.id,.bool q.whole,.bool q.more,.int .i64 q.off,.int .i64 q.ttl,.int .i64 q.proto,.string q.src,.string q.dst,.string q.opts,.string q.data] 0).run Try.prog W=.ok (.int .i64 q.tos) W:=fun W=>by kernel_rfl
  have p0:∀ W,(part 2 #[.int .i64 p.tos,.int .i64 p.id,.bool p.whole,.bool p.more,.int .i64 p.off,.int .i64 p.ttl,.int .i64 p.proto,.string p.src,.string p.dst,.string p.opts,.string p.data] 0).run Try.prog W=.ok (.int .i64 p.tos) W:=fun W=>by kernel_rfl
  have d1 : (f1.name ≠ "_") = True := by simpa using c1
  have q1:∀ W,(part 2 #[.int .i64 q.tos,.int .i64 q.id,.bool q.whole,.bool q.more,.int .i64 q.off,.int .i64 q.ttl,.int .i64 q.proto,.string q.src,.string q.dst,.string q.opts,.string q.data] 1).run Try.prog W=.ok (.int .i64 q.id) W:=fun W=>by kernel_rfl
  have p1:∀ W,(part 2 #[.int .i64 p.tos,.int .i64 p.id,.bool p.whole,.bool p.more,.int .i64 p.off,.int .i64 p.ttl,.int .i64 p.proto,.string p.src,.string p.dst,.string p.opts,.string p.data] 1).run Try.prog W=.ok (.int .i64 p.id) W:=fun W=>by kernel_rfl
  have d2 : (f2.name ≠ "_") = True := by simpa using c2
  have q2:∀ W,(part 4 #[.int .i64 q.tos,.int .i64 q.id,.bool q.whole,.bool q.more,.int .i64 q.off,.int .i64 q.ttl,.int .i64 q.proto,.string q.src,.string q.dst,.string q.opts,.string q.data] 2).run Try.prog W=.ok (.bool q.whole) W:=fun W=>by kernel_rfl
  have p2:∀ W,(part 4 #[.int .i64 p.tos,.int .i64 p.id,.bool p.whole,.bool p.more,.int .i64 p.off,.int .i64 p.ttl,.int .i64 p.proto,.string p.src,.string p.dst,.string p.opts,.string p.data] 2).run Try.prog W=.ok (.bool p.whole) W:=fun W=>by kernel_rfl
  have d3 : (f3.name ≠ "_") = True := by simpa using c3
  have q3:∀ W,(part 4 #[.int .i64 q.tos,.int .i64 q.id,.bool q.whole,.bool q.more,.int .i64 q.off,.int .i64 q.ttl,.int .i64 q.proto,.string q.src,.string q.dst,.string q.opts,.string q.data] 3).run Try.prog W=.ok (.bool q.more) W:=fun W=>by kernel_rfl
  have p3:∀ W,(part 4 #[.int .i64 p.tos,.int .i64 p.id,.bool p.whole,.bool p.more,.int .i64 p.off,.int .i64 p.ttl,.int .i64 p.proto,.string p.src,.string p.dst,.string p.opts,.string p.data] 3).run Try.prog W=.ok (.bool p.more) W:=fun W=>by kernel_rfl
  have d4 : (f4.name ≠ "_") = True := by simpa using c4
  have q4:∀ W,(part 2 #[.int .i64 q.tos,.int .i64 q.id,.bool q.whole,.bool q.more,.int .i64 q.off,.int .i64 q.ttl,.int .i64 q.proto,.string q.src,.string q.dst,.string q.opts,.string q.data] 4).run Try.prog W=.ok (.int .i64 q.off) W:=fun W=>by kernel_rfl
  have p4:∀ W,(part 2 #[.int .i64 p.tos,.int .i64 p.id,.bool p.whole,.bool p.more,.int .i64 p.off,.int .i64 p.ttl,.int .i64 p.proto,.string p.src,.string p.dst,.string p.opts,.string p.data] 4).run Try.prog W=.ok (.int .i64 p.off) W:=fun W=>by kernel_rfl
  have d5 : (f5.name ≠ "_") = True := by simpa using c5
  have q5:∀ W,(part 2 #[.int .i64 q.tos,.int .i64 q.id,.bool q.whole,.bool q.more,.int .i64 q.off,.int .i64 q.ttl,.int .i64 q.proto,.string q.src,.string q.dst,.string q.opts,.string q.data] 5).run Try.prog W=.ok (.int .i64 q.ttl) W:=fun W=>by kernel_rfl
  have p5:∀ W,(part 2 #[.int .i64 p.tos,.int .i64 p.id,.bool p.whole,.bool p.more,.int .i64 p.off,.int .i64 p.ttl,.int .i64 p.proto,.string p.src,.string p.dst,.string p.opts,.string p.data] 5).run Try.prog W=.ok (.int .i64 p.ttl) W:=fun W=>by kernel_rfl
  have d6 : (f6.name ≠ "_") = True := by simpa using c6
  have q6:∀ W,(part 2 #[.int .i64 q.tos,.int .i64 q.id,.bool q.whole,.bool q.more,.int .i64 q.off,.int .i64 q.ttl,.int .i64 q.proto,.string q.src,.string q.dst,.string q.opts,.string q.data] 6).run Try.prog W=.ok (.int .i64 q.proto) W:=fun W=>by kernel_rfl
  have p6:∀ W,(part 2 #[.int .i64 p.tos,.int .i64 p.id,.bool p.whole,.bool p.more,.int .i64 p.off,.int .i64 p.ttl,.int .i64 p.proto,.string p.src,.string p.dst,.string p.opts,.string p.data] 6).run Try.prog W=.ok (.int .i64 p.proto) W:=fun W=>by kernel_rfl
  have d7 : (f7.name ≠ "_") = True := by simpa using c7
  have q7:∀ W,(part 9 #[.int .i64 q.tos,.int .i64 q.id,.bool q.whole,.bool q.more,.int .i64 q.off,.int .i64 q.ttl,.int .i64 q.proto,.string q.src,.string q.dst,.string q.opts,.string q.data] 7).run Try.prog W=.ok (.string q.src) W:=fun W=>by kernel_rfl
  have p7:∀ W,(part 9 #[.int .i64 p.tos,.int .i64 p.id,.bool p.whole,.bool p.more,.int .i64 p.off,.int .i64 p.ttl,.int .i64 p.proto,.string p.src,.string p.dst,.string p.opts,.string p.data] 7).run Try.prog W=.ok (.string p.src) W:=fun W=>by kernel_rfl
  have d8 : (f8.name ≠ "_") = True := by simpa using c8
  have q8:∀ W,(part 9 #[.int .i64 q.tos,.int .i64 q.id,.bool q.whole,.bool q.more,.int .i64 q.off,.int .i64 q.ttl,.int .i64 q.proto,.string q.src,.string q.dst,.string q.opts,.string q.data] 8).run Try.prog W=.ok (.string q.dst) W:=fun W=>by kernel_rfl
  have p8:∀ W,(part 9 #[.int .i64 p.tos,.int .i64 p.id,.bool p.whole,.bool p.more,.int .i64 p.off,.int .i64 p.ttl,.int .i64 p.proto,.string p.src,.string p.dst,.string p.opts,.string p.data] 8).run Try.prog W=.ok (.string p.dst) W:=fun W=>by kernel_rfl
  have d9 : (f9.name ≠ "_") = True := by simpa using c9
  have q9:∀ W,(part 9 #[.int .i64 q.tos,.int .i64 q.id,.bool q.whole,.bool q.more,.int .i64 q.off,.int .i64 q.ttl,.int .i64 q.proto,.string q.src,.string q.dst,.string q.opts,.string q.data] 9).run Try.prog W=.ok (.string q.opts) W:=fun W=>by kernel_rfl
  have p9:∀ W,(part 9 #[.int .i64 p.tos,.int .i64 p.id,.bool p.whole,.bool p.more,.int .i64 p.off,.int .i64 p.ttl,.int .i64 p.proto,.string p.src,.string p.dst,.string p.opts,.string p.data] 9).run Try.prog W=.ok (.string p.opts) W:=fun W=>by kernel_rfl
  have d10 : (f10.name ≠ "_") = True := by simpa using c10
  have q10:∀ W,(part 9 #[.int .i64 q.tos,.int .i64 q.id,.bool q.whole,.bool q.more,.int .i64 q.off,.int .i64 q.ttl,.int .i64 q.proto,.string q.src,.string q.dst,.string q.opts,.string q.data] 10).run Try.prog W=.ok (.string q.data) W:=fun W=>by kernel_rfl
  have p10:∀ W,(part 9 #[.int .i64 p.tos,.int .i64 p.id,.bool p.whole,.bool p.more,.int .i64 p.off,.int .i64 p.ttl,.int .i64 p.proto,.string p.src,.string p.dst,.string p.opts,.string p.data] 10).run Try.prog W=.ok (.string p.data) W:=fun W=>by kernel_rfl
  unfold sameV4;simp only [Op.eqFields,a0,b0,d0,q0,p0,a1,b1,d1,q1,p1,a2,b2,d2,q2,p2,a3,b3,d3,q3,p3,a4,b4,d4,q4,p4,a5,b5,d5,q5,p5,a6,b6,d6,q6,p6,a7,b7,d7,q7,p7,a8,b8,d8,q8,p8,a9,b9,d9,q9,p9,a10,b10,d10,q10,p10,if_true,Sem.run_bind,Sem.run_ite,Sem.run_pure,Result.andThen_ok,run_equalIn_string _ _ _ _ _ Try.underlying9,run_equalIn_int _ _ _ _ _ _ _ Try.underlying2,run_equalIn_bool' _ _ _ _ _ Try.underlying4];generalize (q.tos==p.tos)=g0;generalize (q.id==p.id)=g1;generalize (q.whole==p.whole)=g2;generalize (q.more==p.more)=g3;generalize (q.off==p.off)=g4;generalize (q.ttl==p.ttl)=g5;generalize (q.proto==p.proto)=g6;generalize (q.src.toList==p.src.toList)=g7;generalize (q.dst.toList==p.dst.toList)=g8;generalize (q.opts.toList==p.opts.toList)=g9;generalize (q.data.toList==p.data.toList)=g10
  cases g0
  ·simp
  simp only [Bool.not_true,Bool.false_eq_true,if_false,Bool.true_and]
  cases g1
  ·simp
  simp only [Bool.not_true,Bool.false_eq_true,if_false,Bool.true_and]
  cases g2
  ·simp
  simp only [Bool.not_true,Bool.false_eq_true,if_false,Bool.true_and]
  cases g3
  ·simp
  simp only [Bool.not_true,Bool.false_eq_true,if_false,Bool.true_and]
  cases g4
  ·simp
  simp only [Bool.not_true,Bool.false_eq_true,if_false,Bool.true_and]
  cases g5
  ·simp
  simp only [Bool.not_true,Bool.false_eq_true,if_false,Bool.true_and]
  cases g6
  ·simp
  simp only [Bool.not_true,Bool.false_eq_true,if_false,Bool.true_and]
  cases g7
  ·simp
  simp only [Bool.not_true,Bool.false_eq_true,if_false,Bool.true_and]
  cases g8
  ·simp
  simp only [Bool.not_true,Bool.false_eq_true,if_false,Bool.true_and]
  cases g9
  ·simp
  simp only [Bool.not_true,Bool.false_eq_true,if_false,Bool.true_and]
  cases g10<;>simp
theorem eqV4O_run (q:P4) (c:Int) (W:World):(Op.equalIn 10000 38 (.agg #[.int .i64 q.tos,.int .i64 q.id,.bool q.whole,.bool q.more,.int .i64 q.off,.int .i64 q.ttl,.int .i64 q.proto,.string q.src,.string q.dst,.string q.opts,.string q.data,.int .i64 c]) (.agg #[.int .i64 q.tos,.int .i64 q.id,.bool q.whole,.bool q.more,.int .i64 q.off,.int .i64 q.ttl,.int .i64 q.proto,.string q.src,.string q.dst,.string q.opts,.string q.data,.int .i64 c])).run Try.prog W=.ok true W:=by
 have h1:Try.prog.underlying 38=some (.struct (Try.prog.fieldsOf 38)):=by kernel_rfl
 have h2:Try.prog.stoodInHeld 38=false:=by kernel_rfl
 rw [run_equalIn_agg _ _ _ _ _ h1 h2];have h3:(Try.prog.fieldsOf 38).toList.length=2:=by kernel_rfl
 have h4 : ((Try.prog.fieldsOf 38).toList.map fun f => (f.type, f.offset, f.name == "_")) = [(34, 0, false), (2, 11, false)] := by kernel_rfl
 have hq:=eqV4_run 9997 q q;have hs:sameV4 q q=true:=(sameV4_iff q q).2 rfl;generalize (Try.prog.fieldsOf 38).toList=fs at *;match fs,h3 with
 | [f,g],_ =>
  simp at h4;obtain ⟨⟨a1,a2,a3⟩,b1,b2,b3⟩:=h4;have p0:∀ W,(part 34 #[.int .i64 q.tos,.int .i64 q.id,.bool q.whole,.bool q.more,.int .i64 q.off,.int .i64 q.ttl,.int .i64 q.proto,.string q.src,.string q.dst,.string q.opts,.string q.data,.int .i64 c] 0).run Try.prog W=.ok (.agg #[.int .i64 q.tos,.int .i64 q.id,.bool q.whole,.bool q.more,.int .i64 q.off,.int .i64 q.ttl,.int .i64 q.proto,.string q.src,.string q.dst,.string q.opts,.string q.data]) W:=fun W=>by kernel_rfl
  have p1:∀ W,(part 2 #[.int .i64 q.tos,.int .i64 q.id,.bool q.whole,.bool q.more,.int .i64 q.off,.int .i64 q.ttl,.int .i64 q.proto,.string q.src,.string q.dst,.string q.opts,.string q.data,.int .i64 c] 11).run Try.prog W=.ok (.int .i64 c) W:=fun W=>by kernel_rfl
  simp [Op.eqFields,a1,a2,a3,b1,b2,b3,p0,p1,hq,hs,run_equalIn_int _ _ _ _ _ _ _ Try.underlying2]
theorem neV4O_bin (q:P4) (c:Int) (W:World):(binOp .neq 38 (.agg #[.int .i64 q.tos,.int .i64 q.id,.bool q.whole,.bool q.more,.int .i64 q.off,.int .i64 q.ttl,.int .i64 q.proto,.string q.src,.string q.dst,.string q.opts,.string q.data,.int .i64 c]) (.agg #[.int .i64 q.tos,.int .i64 q.id,.bool q.whole,.bool q.more,.int .i64 q.off,.int .i64 q.ttl,.int .i64 q.proto,.string q.src,.string q.dst,.string q.opts,.string q.data,.int .i64 c])).run Try.prog W=.ok (.bool false) W:=by
 rw [run_neq_struct,eqV4O_run]; rfl
def sameV6 (q p:P6):Bool:=(q.cls==p.cls)&&((q.flow==p.flow)&&((q.next==p.next)&&((q.hops==p.hops)&&((q.src.toList==p.src.toList)&&((q.dst.toList==p.dst.toList)&&((q.piece==p.piece)&&((q.more==p.more)&&((q.off==p.off)&&((q.id==p.id)&&((q.data.toList==p.data.toList)))))))))))
theorem sameV6_iff (q p:P6):sameV6 q p=true↔q=p:=by
 unfold sameV6;simp only [tl_eq,Bool.and_eq_true,beq_iff_eq,decide_eq_true_iff];constructor
 ·intro h;obtain ⟨h0,h1,h2,h3,h4,h5,h6,h7,h8,h9,h10⟩:=h
  cases q; cases p; simp_all
 ·rintro rfl; simp
theorem eqV6_run (D:Nat) (q p:P6) (W:World):(Op.equalIn (D+2) 43 (.agg #[.int .i64 q.cls,.int .i64 q.flow,.int .i64 q.next,.int .i64 q.hops,.string q.src,.string q.dst,.bool q.piece,.bool q.more,.int .i64 q.off,.int .i64 q.id,.string q.data]) (.agg #[.int .i64 p.cls,.int .i64 p.flow,.int .i64 p.next,.int .i64 p.hops,.string p.src,.string p.dst,.bool p.piece,.bool p.more,.int .i64 p.off,.int .i64 p.id,.string p.data])).run Try.prog W=.ok (sameV6 q p) W:=by
 have h1:Try.prog.underlying 43=some (.struct (Try.prog.fieldsOf 43)):=by kernel_rfl
 have h2:Try.prog.stoodInHeld 43=false:=by kernel_rfl
 rw [run_equalIn_agg _ _ _ _ _ h1 h2];have h3:(Try.prog.fieldsOf 43).toList.length=11:=by kernel_rfl
 have h4 : ((Try.prog.fieldsOf 43).toList.map fun f => (f.type, f.offset, f.name == "_")) = [(2, 0, false), (2, 1, false), (2, 2, false), (2, 3, false), (9, 4, false), (9, 5, false), (4, 6, false), (4, 7, false), (2, 8, false), (2, 9, false), (9, 10, false)] := by kernel_rfl
 generalize (Try.prog.fieldsOf 43).toList=fs at *;match fs,h3 with
 | [f0,f1,f2,f3,f4,f5,f6,f7,f8,f9,f10],_ =>
  simp only [List.map_cons,List.map_nil,List.cons.injEq,Prod.mk.injEq,and_true] at h4;obtain ⟨⟨a0,b0,c0⟩,⟨a1,b1,c1⟩,⟨a2,b2,c2⟩,⟨a3,b3,c3⟩,⟨a4,b4,c4⟩,⟨a5,b5,c5⟩,⟨a6,b6,c6⟩,⟨a7,b7,c7⟩,⟨a8,b8,c8⟩,⟨a9,b9,c9⟩,⟨a10,b10,c10⟩⟩:=h4
  have d0 : (f0.name ≠ "_") = True := by simpa using c0
  have q0:∀ W,(part 2 #[.int .i64 q.cls,.int .i64 q.flow,.int .i64 q.next,.int .i64 q.hops,.string q.src,.string q.dst,.bool q.piece,.bool q.more,.int .i64 q.off,.int .i64 q.id,.string q.data] 0).run Try.prog W=.ok (.int .i64 q.cls) W:=fun W=>by kernel_rfl
  have p0:∀ W,(part 2 #[.int .i64 p.cls,.int .i64 p.flow,.int .i64 p.next,.int .i64 p.hops,.string p.src,.string p.dst,.bool p.piece,.bool p.more,.int .i64 p.off,.int .i64 p.id,.string p.data] 0).run Try.prog W=.ok (.int .i64 p.cls) W:=fun W=>by kernel_rfl
  have d1 : (f1.name ≠ "_") = True := by simpa using c1
  have q1:∀ W,(part 2 #[.int .i64 q.cls,.int .i64 q.flow,.int .i64 q.next,.int .i64 q.hops,.string q.src,.string q.dst,.bool q.piece,.bool q.more,.int .i64 q.off,.int .i64 q.id,.string q.data] 1).run Try.prog W=.ok (.int .i64 q.flow) W:=fun W=>by kernel_rfl
  have p1:∀ W,(part 2 #[.int .i64 p.cls,.int .i64 p.flow,.int .i64 p.next,.int .i64 p.hops,.string p.src,.string p.dst,.bool p.piece,.bool p.more,.int .i64 p.off,.int .i64 p.id,.string p.data] 1).run Try.prog W=.ok (.int .i64 p.flow) W:=fun W=>by kernel_rfl
  have d2 : (f2.name ≠ "_") = True := by simpa using c2
  have q2:∀ W,(part 2 #[.int .i64 q.cls,.int .i64 q.flow,.int .i64 q.next,.int .i64 q.hops,.string q.src,.string q.dst,.bool q.piece,.bool q.more,.int .i64 q.off,.int .i64 q.id,.string q.data] 2).run Try.prog W=.ok (.int .i64 q.next) W:=fun W=>by kernel_rfl
  have p2:∀ W,(part 2 #[.int .i64 p.cls,.int .i64 p.flow,.int .i64 p.next,.int .i64 p.hops,.string p.src,.string p.dst,.bool p.piece,.bool p.more,.int .i64 p.off,.int .i64 p.id,.string p.data] 2).run Try.prog W=.ok (.int .i64 p.next) W:=fun W=>by kernel_rfl
  have d3 : (f3.name ≠ "_") = True := by simpa using c3
  have q3:∀ W,(part 2 #[.int .i64 q.cls,.int .i64 q.flow,.int .i64 q.next,.int .i64 q.hops,.string q.src,.string q.dst,.bool q.piece,.bool q.more,.int .i64 q.off,.int .i64 q.id,.string q.data] 3).run Try.prog W=.ok (.int .i64 q.hops) W:=fun W=>by kernel_rfl
  have p3:∀ W,(part 2 #[.int .i64 p.cls,.int .i64 p.flow,.int .i64 p.next,.int .i64 p.hops,.string p.src,.string p.dst,.bool p.piece,.bool p.more,.int .i64 p.off,.int .i64 p.id,.string p.data] 3).run Try.prog W=.ok (.int .i64 p.hops) W:=fun W=>by kernel_rfl
  have d4 : (f4.name ≠ "_") = True := by simpa using c4
  have q4:∀ W,(part 9 #[.int .i64 q.cls,.int .i64 q.flow,.int .i64 q.next,.int .i64 q.hops,.string q.src,.string q.dst,.bool q.piece,.bool q.more,.int .i64 q.off,.int .i64 q.id,.string q.data] 4).run Try.prog W=.ok (.string q.src) W:=fun W=>by kernel_rfl
  have p4:∀ W,(part 9 #[.int .i64 p.cls,.int .i64 p.flow,.int .i64 p.next,.int .i64 p.hops,.string p.src,.string p.dst,.bool p.piece,.bool p.more,.int .i64 p.off,.int .i64 p.id,.string p.data] 4).run Try.prog W=.ok (.string p.src) W:=fun W=>by kernel_rfl
  have d5 : (f5.name ≠ "_") = True := by simpa using c5
  have q5:∀ W,(part 9 #[.int .i64 q.cls,.int .i64 q.flow,.int .i64 q.next,.int .i64 q.hops,.string q.src,.string q.dst,.bool q.piece,.bool q.more,.int .i64 q.off,.int .i64 q.id,.string q.data] 5).run Try.prog W=.ok (.string q.dst) W:=fun W=>by kernel_rfl
  have p5:∀ W,(part 9 #[.int .i64 p.cls,.int .i64 p.flow,.int .i64 p.next,.int .i64 p.hops,.string p.src,.string p.dst,.bool p.piece,.bool p.more,.int .i64 p.off,.int .i64 p.id,.string p.data] 5).run Try.prog W=.ok (.string p.dst) W:=fun W=>by kernel_rfl
  have d6 : (f6.name ≠ "_") = True := by simpa using c6
  have q6:∀ W,(part 4 #[.int .i64 q.cls,.int .i64 q.flow,.int .i64 q.next,.int .i64 q.hops,.string q.src,.string q.dst,.bool q.piece,.bool q.more,.int .i64 q.off,.int .i64 q.id,.string q.data] 6).run Try.prog W=.ok (.bool q.piece) W:=fun W=>by kernel_rfl
  have p6:∀ W,(part 4 #[.int .i64 p.cls,.int .i64 p.flow,.int .i64 p.next,.int .i64 p.hops,.string p.src,.string p.dst,.bool p.piece,.bool p.more,.int .i64 p.off,.int .i64 p.id,.string p.data] 6).run Try.prog W=.ok (.bool p.piece) W:=fun W=>by kernel_rfl
  have d7 : (f7.name ≠ "_") = True := by simpa using c7
  have q7:∀ W,(part 4 #[.int .i64 q.cls,.int .i64 q.flow,.int .i64 q.next,.int .i64 q.hops,.string q.src,.string q.dst,.bool q.piece,.bool q.more,.int .i64 q.off,.int .i64 q.id,.string q.data] 7).run Try.prog W=.ok (.bool q.more) W:=fun W=>by kernel_rfl
  have p7:∀ W,(part 4 #[.int .i64 p.cls,.int .i64 p.flow,.int .i64 p.next,.int .i64 p.hops,.string p.src,.string p.dst,.bool p.piece,.bool p.more,.int .i64 p.off,.int .i64 p.id,.string p.data] 7).run Try.prog W=.ok (.bool p.more) W:=fun W=>by kernel_rfl
  have d8 : (f8.name ≠ "_") = True := by simpa using c8
  have q8:∀ W,(part 2 #[.int .i64 q.cls,.int .i64 q.flow,.int .i64 q.next,.int .i64 q.hops,.string q.src,.string q.dst,.bool q.piece,.bool q.more,.int .i64 q.off,.int .i64 q.id,.string q.data] 8).run Try.prog W=.ok (.int .i64 q.off) W:=fun W=>by kernel_rfl
  have p8:∀ W,(part 2 #[.int .i64 p.cls,.int .i64 p.flow,.int .i64 p.next,.int .i64 p.hops,.string p.src,.string p.dst,.bool p.piece,.bool p.more,.int .i64 p.off,.int .i64 p.id,.string p.data] 8).run Try.prog W=.ok (.int .i64 p.off) W:=fun W=>by kernel_rfl
  have d9 : (f9.name ≠ "_") = True := by simpa using c9
  have q9:∀ W,(part 2 #[.int .i64 q.cls,.int .i64 q.flow,.int .i64 q.next,.int .i64 q.hops,.string q.src,.string q.dst,.bool q.piece,.bool q.more,.int .i64 q.off,.int .i64 q.id,.string q.data] 9).run Try.prog W=.ok (.int .i64 q.id) W:=fun W=>by kernel_rfl
  have p9:∀ W,(part 2 #[.int .i64 p.cls,.int .i64 p.flow,.int .i64 p.next,.int .i64 p.hops,.string p.src,.string p.dst,.bool p.piece,.bool p.more,.int .i64 p.off,.int .i64 p.id,.string p.data] 9).run Try.prog W=.ok (.int .i64 p.id) W:=fun W=>by kernel_rfl
  have d10 : (f10.name ≠ "_") = True := by simpa using c10
  have q10:∀ W,(part 9 #[.int .i64 q.cls,.int .i64 q.flow,.int .i64 q.next,.int .i64 q.hops,.string q.src,.string q.dst,.bool q.piece,.bool q.more,.int .i64 q.off,.int .i64 q.id,.string q.data] 10).run Try.prog W=.ok (.string q.data) W:=fun W=>by kernel_rfl
  have p10:∀ W,(part 9 #[.int .i64 p.cls,.int .i64 p.flow,.int .i64 p.next,.int .i64 p.hops,.string p.src,.string p.dst,.bool p.piece,.bool p.more,.int .i64 p.off,.int .i64 p.id,.string p.data] 10).run Try.prog W=.ok (.string p.data) W:=fun W=>by kernel_rfl
  unfold sameV6;simp only [Op.eqFields,a0,b0,d0,q0,p0,a1,b1,d1,q1,p1,a2,b2,d2,q2,p2,a3,b3,d3,q3,p3,a4,b4,d4,q4,p4,a5,b5,d5,q5,p5,a6,b6,d6,q6,p6,a7,b7,d7,q7,p7,a8,b8,d8,q8,p8,a9,b9,d9,q9,p9,a10,b10,d10,q10,p10,if_true,Sem.run_bind,Sem.run_ite,Sem.run_pure,Result.andThen_ok,run_equalIn_string _ _ _ _ _ Try.underlying9,run_equalIn_int _ _ _ _ _ _ _ Try.underlying2,run_equalIn_bool' _ _ _ _ _ Try.underlying4];generalize (q.cls==p.cls)=g0;generalize (q.flow==p.flow)=g1;generalize (q.next==p.next)=g2;generalize (q.hops==p.hops)=g3;generalize (q.src.toList==p.src.toList)=g4;generalize (q.dst.toList==p.dst.toList)=g5;generalize (q.piece==p.piece)=g6;generalize (q.more==p.more)=g7;generalize (q.off==p.off)=g8;generalize (q.id==p.id)=g9;generalize (q.data.toList==p.data.toList)=g10
  cases g0
  ·simp
  simp only [Bool.not_true,Bool.false_eq_true,if_false,Bool.true_and]
  cases g1
  ·simp
  simp only [Bool.not_true,Bool.false_eq_true,if_false,Bool.true_and]
  cases g2
  ·simp
  simp only [Bool.not_true,Bool.false_eq_true,if_false,Bool.true_and]
  cases g3
  ·simp
  simp only [Bool.not_true,Bool.false_eq_true,if_false,Bool.true_and]
  cases g4
  ·simp
  simp only [Bool.not_true,Bool.false_eq_true,if_false,Bool.true_and]
  cases g5
  ·simp
  simp only [Bool.not_true,Bool.false_eq_true,if_false,Bool.true_and]
  cases g6
  ·simp
  simp only [Bool.not_true,Bool.false_eq_true,if_false,Bool.true_and]
  cases g7
  ·simp
  simp only [Bool.not_true,Bool.false_eq_true,if_false,Bool.true_and]
  cases g8
  ·simp
  simp only [Bool.not_true,Bool.false_eq_true,if_false,Bool.true_and]
  cases g9
  ·simp
  simp only [Bool.not_true,Bool.false_eq_true,if_false,Bool.true_and]
  cases g10<;>simp
theorem eqV6O_run (q:P6) (c:Int) (W:World):(Op.equalIn 10000 47 (.agg #[.int .i64 q.cls,.int .i64 q.flow,.int .i64 q.next,.int .i64 q.hops,.string q.src,.string q.dst,.bool q.piece,.bool q.more,.int .i64 q.off,.int .i64 q.id,.string q.data,.int .i64 c]) (.agg #[.int .i64 q.cls,.int .i64 q.flow,.int .i64 q.next,.int .i64 q.hops,.string q.src,.string q.dst,.bool q.piece,.bool q.more,.int .i64 q.off,.int .i64 q.id,.string q.data,.int .i64 c])).run Try.prog W=.ok true W:=by
 have h1:Try.prog.underlying 47=some (.struct (Try.prog.fieldsOf 47)):=by kernel_rfl
 have h2:Try.prog.stoodInHeld 47=false:=by kernel_rfl
 rw [run_equalIn_agg _ _ _ _ _ h1 h2];have h3:(Try.prog.fieldsOf 47).toList.length=2:=by kernel_rfl
 have h4 : ((Try.prog.fieldsOf 47).toList.map fun f => (f.type, f.offset, f.name == "_")) = [(43, 0, false), (2, 11, false)] := by kernel_rfl
 have hq:=eqV6_run 9997 q q;have hs:sameV6 q q=true:=(sameV6_iff q q).2 rfl;generalize (Try.prog.fieldsOf 47).toList=fs at *;match fs,h3 with
 | [f,g],_ =>
  simp at h4;obtain ⟨⟨a1,a2,a3⟩,b1,b2,b3⟩:=h4;have p0:∀ W,(part 43 #[.int .i64 q.cls,.int .i64 q.flow,.int .i64 q.next,.int .i64 q.hops,.string q.src,.string q.dst,.bool q.piece,.bool q.more,.int .i64 q.off,.int .i64 q.id,.string q.data,.int .i64 c] 0).run Try.prog W=.ok (.agg #[.int .i64 q.cls,.int .i64 q.flow,.int .i64 q.next,.int .i64 q.hops,.string q.src,.string q.dst,.bool q.piece,.bool q.more,.int .i64 q.off,.int .i64 q.id,.string q.data]) W:=fun W=>by kernel_rfl
  have p1:∀ W,(part 2 #[.int .i64 q.cls,.int .i64 q.flow,.int .i64 q.next,.int .i64 q.hops,.string q.src,.string q.dst,.bool q.piece,.bool q.more,.int .i64 q.off,.int .i64 q.id,.string q.data,.int .i64 c] 11).run Try.prog W=.ok (.int .i64 c) W:=fun W=>by kernel_rfl
  simp [Op.eqFields,a1,a2,a3,b1,b2,b3,p0,p1,hq,hs,run_equalIn_int _ _ _ _ _ _ _ Try.underlying2]
theorem neV6O_bin (q:P6) (c:Int) (W:World):(binOp .neq 47 (.agg #[.int .i64 q.cls,.int .i64 q.flow,.int .i64 q.next,.int .i64 q.hops,.string q.src,.string q.dst,.bool q.piece,.bool q.more,.int .i64 q.off,.int .i64 q.id,.string q.data,.int .i64 c]) (.agg #[.int .i64 q.cls,.int .i64 q.flow,.int .i64 q.next,.int .i64 q.hops,.string q.src,.string q.dst,.bool q.piece,.bool q.more,.int .i64 q.off,.int .i64 q.id,.string q.data,.int .i64 c])).run Try.prog W=.ok (.bool false) W:=by
 rw [run_neq_struct,eqV6O_run]; rfl
end Go.Proofs.Ytagbhaalmjpkjaa
