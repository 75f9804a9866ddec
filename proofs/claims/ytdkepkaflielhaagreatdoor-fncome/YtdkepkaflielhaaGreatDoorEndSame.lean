import Derived.Test.YtdkepkaflielhaaGreatDoorAb
import Derived.Test.YtdkepkaflielhaaGreatDoorBibs2
import Derived.Test.YtdkepkaflielhaaGreatDoorProg
import Derived.Laws.StructEq
set_option linter.unusedVariables false
set_option linter.unusedSimpArgs false
set_option maxRecDepth 100000
set_option maxHeartbeats 8000000
namespace Go.Proofs.YtdkepkaflielhaaGreatDoor
open Go.RowKit
structure En where
 proto:Int
 addr:ByteArray
 port:Int
def enC (q:En):Value:=.agg (EnV q.proto q.addr q.port).toArray
def enL (q:En):List Value:=(EnV q.proto q.addr q.port)
def sameEn (q p:En):Bool:=(q.proto==p.proto)&&((q.addr.toList==p.addr.toList)&&(q.port==p.port))
structure Sk where
 host:En
 peer:ByteArray
 peerPort:Int
def skC (q:Sk):Value:=.agg (BdR q.host.proto q.host.addr q.host.port q.peer q.peerPort).toArray
def skL (q:Sk):List Value:=(BdR q.host.proto q.host.addr q.host.port q.peer q.peerPort)
def sameSk (q p:Sk):Bool:=sameEn q.host p.host&&((q.peer.toList==p.peer.toList)&&(q.peerPort==p.peerPort))
theorem eqEn_run (D:Nat) (q p:En) (W:World):(Op.equalIn (D+2) 86 (.agg (EnV q.proto q.addr q.port).toArray) (.agg (EnV p.proto p.addr p.port).toArray)).run Tryz.prog W=.ok (sameEn q p) W:=by
 have h1:Tryz.prog.underlying 86=some (.struct (Tryz.prog.fieldsOf 86)):=by kernel_rfl
 have h2:Tryz.prog.stoodInHeld 86=false:=by kernel_rfl
 rw [run_equalIn_agg _ _ _ _ _ h1 h2];have h3:(Tryz.prog.fieldsOf 86).toList.length=3:=by kernel_rfl
 have h4 : ((Tryz.prog.fieldsOf 86).toList.map fun f => (f.type, f.offset, f.name == "_")) = [(2, 0, false), (9, 1, false), (2, 2, false)] := by kernel_rfl
 generalize (Tryz.prog.fieldsOf 86).toList=fs at *;match fs,h3 with
 | [f0,f1,f2],_ =>
  simp only [List.map_cons,List.map_nil,List.cons.injEq,Prod.mk.injEq,and_true] at h4;obtain ⟨⟨a0,b0,c0⟩,⟨a1,b1,c1⟩,⟨a2,b2,c2⟩⟩:=h4
  have d0 : (f0.name ≠ "_") = True := by simpa using c0
  have q0:∀ W,(part 2 (EnV q.proto q.addr q.port).toArray 0).run Tryz.prog W=.ok (iV q.proto) W:=fun W=>by kernel_rfl
  have p0:∀ W,(part 2 (EnV p.proto p.addr p.port).toArray 0).run Tryz.prog W=.ok (iV p.proto) W:=fun W=>by kernel_rfl
  have d1 : (f1.name ≠ "_") = True := by simpa using c1
  have q1:∀ W,(part 9 (EnV q.proto q.addr q.port).toArray 1).run Tryz.prog W=.ok (.string q.addr) W:=fun W=>by kernel_rfl
  have p1:∀ W,(part 9 (EnV p.proto p.addr p.port).toArray 1).run Tryz.prog W=.ok (.string p.addr) W:=fun W=>by kernel_rfl
  have d2 : (f2.name ≠ "_") = True := by simpa using c2
  have q2:∀ W,(part 2 (EnV q.proto q.addr q.port).toArray 2).run Tryz.prog W=.ok (iV q.port) W:=fun W=>by kernel_rfl
  have p2:∀ W,(part 2 (EnV p.proto p.addr p.port).toArray 2).run Tryz.prog W=.ok (iV p.port) W:=fun W=>by kernel_rfl
  unfold sameEn;simp only [Op.eqFields,a0,b0,d0,q0,p0,a1,b1,d1,q1,p1,a2,b2,d2,q2,p2,if_true,Sem.run_bind,Sem.run_ite,Sem.run_pure,Result.andThen_ok,run_equalIn_string _ _ _ _ _ Tryz.underlying9,run_equalIn_int _ _ _ _ _ _ _ Tryz.underlying2];generalize (q.proto==p.proto)=g0;generalize (q.addr.toList==p.addr.toList)=g1;generalize (q.port==p.port)=g2
  cases g0
  ·simp
  simp only [Bool.not_true,Bool.false_eq_true,if_false,Bool.true_and]
  cases g1
  ·simp
  simp only [Bool.not_true,Bool.false_eq_true,if_false,Bool.true_and]
  cases g2<;>simp
theorem eqEn_bin (q p:En) (W:World):(binOp .eql 86 (.agg (EnV q.proto q.addr q.port).toArray) (.agg (EnV p.proto p.addr p.port).toArray)).run Tryz.prog W=.ok (.bool (sameEn q p)) W:=by
 rw [run_eql_struct,eqEn_run 9998 q p W]; rfl
theorem eqSk_run (D:Nat) (q p:Sk) (W:World):(Op.equalIn (D+3) 147 (.agg (BdR q.host.proto q.host.addr q.host.port q.peer q.peerPort).toArray) (.agg (BdR p.host.proto p.host.addr p.host.port p.peer p.peerPort).toArray)).run Tryz.prog W=.ok (sameSk q p) W:=by
 have h1:Tryz.prog.underlying 147=some (.struct (Tryz.prog.fieldsOf 147)):=by kernel_rfl
 have h2:Tryz.prog.stoodInHeld 147=false:=by kernel_rfl
 rw [run_equalIn_agg _ _ _ _ _ h1 h2];have h3:(Tryz.prog.fieldsOf 147).toList.length=3:=by kernel_rfl
 have h4 : ((Tryz.prog.fieldsOf 147).toList.map fun f => (f.type, f.offset, f.name == "_")) = [(86, 0, false), (9, 3, false), (2, 4, false)] := by kernel_rfl
 generalize (Tryz.prog.fieldsOf 147).toList=fs at *;match fs,h3 with
 | [f0,f1,f2],_ =>
  simp only [List.map_cons,List.map_nil,List.cons.injEq,Prod.mk.injEq,and_true] at h4;obtain ⟨⟨a0,b0,c0⟩,⟨a1,b1,c1⟩,⟨a2,b2,c2⟩⟩:=h4
  have d0 : (f0.name ≠ "_") = True := by simpa using c0
  have q0:∀ W,(part 86 (BdR q.host.proto q.host.addr q.host.port q.peer q.peerPort).toArray 0).run Tryz.prog W=.ok (.agg (EnV q.host.proto q.host.addr q.host.port).toArray) W:=fun W=>by kernel_rfl
  have p0:∀ W,(part 86 (BdR p.host.proto p.host.addr p.host.port p.peer p.peerPort).toArray 0).run Tryz.prog W=.ok (.agg (EnV p.host.proto p.host.addr p.host.port).toArray) W:=fun W=>by kernel_rfl
  have d1 : (f1.name ≠ "_") = True := by simpa using c1
  have q1:∀ W,(part 9 (BdR q.host.proto q.host.addr q.host.port q.peer q.peerPort).toArray 3).run Tryz.prog W=.ok (.string q.peer) W:=fun W=>by kernel_rfl
  have p1:∀ W,(part 9 (BdR p.host.proto p.host.addr p.host.port p.peer p.peerPort).toArray 3).run Tryz.prog W=.ok (.string p.peer) W:=fun W=>by kernel_rfl
  have d2 : (f2.name ≠ "_") = True := by simpa using c2
  have q2:∀ W,(part 2 (BdR q.host.proto q.host.addr q.host.port q.peer q.peerPort).toArray 4).run Tryz.prog W=.ok (iV q.peerPort) W:=fun W=>by kernel_rfl
  have p2:∀ W,(part 2 (BdR p.host.proto p.host.addr p.host.port p.peer p.peerPort).toArray 4).run Tryz.prog W=.ok (iV p.peerPort) W:=fun W=>by kernel_rfl
  unfold sameSk;simp only [Op.eqFields,a0,b0,d0,q0,p0,a1,b1,d1,q1,p1,a2,b2,d2,q2,p2,if_true,Sem.run_bind,Sem.run_ite,Sem.run_pure,Result.andThen_ok,run_equalIn_string _ _ _ _ _ Tryz.underlying9,run_equalIn_int _ _ _ _ _ _ _ Tryz.underlying2,eqEn_run D q.host p.host];generalize (sameEn q.host p.host)=g0;generalize (q.peer.toList==p.peer.toList)=g1;generalize (q.peerPort==p.peerPort)=g2
  cases g0
  ·simp
  simp only [Bool.not_true,Bool.false_eq_true,if_false,Bool.true_and]
  cases g1
  ·simp
  simp only [Bool.not_true,Bool.false_eq_true,if_false,Bool.true_and]
  cases g2<;>simp
theorem eqSk_bin (q p:Sk) (W:World):(binOp .eql 147 (.agg (BdR q.host.proto q.host.addr q.host.port q.peer q.peerPort).toArray) (.agg (BdR p.host.proto p.host.addr p.host.port p.peer p.peerPort).toArray)).run Tryz.prog W=.ok (.bool (sameSk q p)) W:=by
 rw [run_eql_struct,eqSk_run 9997 q p W]; rfl
end Go.Proofs.YtdkepkaflielhaaGreatDoor
