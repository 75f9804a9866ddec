import Derived.Test.YthpopipedamciaaGreatMerged3
import Derived.Test.YthpopipedamciaaGreatProg
import Derived.Laws.StructEq
import Derived.Test.YthpopipedamciaaGreatMerged10
import Derived.Test.YthpopipedamciaaGreatLawSession
import Derived.Deep.DeepCutAuto
import Derived.Test.YthpopipedamciaaGreatMerged2
set_option linter.unusedVariables false
set_option linter.unusedSimpArgs false
set_option maxRecDepth 100000
set_option maxHeartbeats 8000000
namespace Go.Proofs.YthpopipedamciaaGreat
open Go.RowKit
structure En where
 proto:Int
 addr:ByteArray
 port:Int
def enC (q:En):Value:=.agg #[.int .i64 q.proto,.string q.addr,.int .i64 q.port]
def enL (q:En):List Value:=[.int .i64 q.proto,.string q.addr,.int .i64 q.port]
def sameEn (q p:En):Bool:=(q.proto==p.proto)&&((q.addr.toList==p.addr.toList)&&(q.port==p.port))
structure Sk where
 host:En
 peer:ByteArray
 peerPort:Int
def skC (q:Sk):Value:=.agg #[.int .i64 q.host.proto,.string q.host.addr,.int .i64 q.host.port,.string q.peer,.int .i64 q.peerPort]
def skL (q:Sk):List Value:=[.int .i64 q.host.proto,.string q.host.addr,.int .i64 q.host.port,.string q.peer,.int .i64 q.peerPort]
def sameSk (q p:Sk):Bool:=sameEn q.host p.host&&((q.peer.toList==p.peer.toList)&&(q.peerPort==p.peerPort))
theorem eqEn_run (D:Nat) (q p:En) (W:World):(Op.equalIn (D+2) 169 (.agg #[.int .i64 q.proto,.string q.addr,.int .i64 q.port]) (.agg #[.int .i64 p.proto,.string p.addr,.int .i64 p.port])).run Tryz.prog W=.ok (sameEn q p) W:=by
 have h1:Tryz.prog.underlying 169=some (.struct (Tryz.prog.fieldsOf 169)):=by kernel_rfl
 have h2:Tryz.prog.stoodInHeld 169=false:=by kernel_rfl
 rw [run_equalIn_agg _ _ _ _ _ h1 h2];have h3:(Tryz.prog.fieldsOf 169).toList.length=3:=by kernel_rfl
 have h4 : ((Tryz.prog.fieldsOf 169).toList.map fun f => (f.type, f.offset, f.name == "_")) = [(2, 0, false), (9, 1, false), (2, 2, false)] := by kernel_rfl
 generalize (Tryz.prog.fieldsOf 169).toList=fs at *;match fs,h3 with
 | [f0,f1,f2],_ =>
  simp only [List.map_cons,List.map_nil,List.cons.injEq,Prod.mk.injEq,and_true] at h4;obtain ⟨⟨a0,b0,c0⟩,⟨a1,b1,c1⟩,⟨a2,b2,c2⟩⟩:=h4
  have d0 : (f0.name ≠ "_") = True := by simpa using c0
  have q0:∀ W,(part 2 #[.int .i64 q.proto,.string q.addr,.int .i64 q.port] 0).run Tryz.prog W=.ok (.int .i64 q.proto) W:=fun W=>by kernel_rfl
  have p0:∀ W,(part 2 #[.int .i64 p.proto,.string p.addr,.int .i64 p.port] 0).run Tryz.prog W=.ok (.int .i64 p.proto) W:=fun W=>by kernel_rfl
  have d1 : (f1.name ≠ "_") = True := by simpa using c1
  have q1:∀ W,(part 9 #[.int .i64 q.proto,.string q.addr,.int .i64 q.port] 1).run Tryz.prog W=.ok (.string q.addr) W:=fun W=>by kernel_rfl
  have p1:∀ W,(part 9 #[.int .i64 p.proto,.string p.addr,.int .i64 p.port] 1).run Tryz.prog W=.ok (.string p.addr) W:=fun W=>by kernel_rfl
  have d2 : (f2.name ≠ "_") = True := by simpa using c2
  have q2:∀ W,(part 2 #[.int .i64 q.proto,.string q.addr,.int .i64 q.port] 2).run Tryz.prog W=.ok (.int .i64 q.port) W:=fun W=>by kernel_rfl
  have p2:∀ W,(part 2 #[.int .i64 p.proto,.string p.addr,.int .i64 p.port] 2).run Tryz.prog W=.ok (.int .i64 p.port) W:=fun W=>by kernel_rfl
  unfold sameEn;simp only [Op.eqFields,a0,b0,d0,q0,p0,a1,b1,d1,q1,p1,a2,b2,d2,q2,p2,if_true,Sem.run_bind,Sem.run_ite,Sem.run_pure,Result.andThen_ok,run_equalIn_string _ _ _ _ _ Tryz.underlying9,run_equalIn_int _ _ _ _ _ _ _ Tryz.underlying2];generalize (q.proto==p.proto)=g0;generalize (q.addr.toList==p.addr.toList)=g1;generalize (q.port==p.port)=g2
  cases g0
  ·simp
  simp only [Bool.not_true,Bool.false_eq_true,if_false,Bool.true_and]
  cases g1
  ·simp
  simp only [Bool.not_true,Bool.false_eq_true,if_false,Bool.true_and]
  cases g2<;>simp
theorem eqEn_bin (q p:En) (W:World):(binOp .eql 169 (.agg #[.int .i64 q.proto,.string q.addr,.int .i64 q.port]) (.agg #[.int .i64 p.proto,.string p.addr,.int .i64 p.port])).run Tryz.prog W=.ok (.bool (sameEn q p)) W:=by
 rw [run_eql_struct,eqEn_run 9998 q p W]; rfl
theorem eqSk_run (D:Nat) (q p:Sk) (W:World):(Op.equalIn (D+3) 172 (.agg #[.int .i64 q.host.proto,.string q.host.addr,.int .i64 q.host.port,.string q.peer,.int .i64 q.peerPort]) (.agg #[.int .i64 p.host.proto,.string p.host.addr,.int .i64 p.host.port,.string p.peer,.int .i64 p.peerPort])).run Tryz.prog W=.ok (sameSk q p) W:=by
 have h1:Tryz.prog.underlying 172=some (.struct (Tryz.prog.fieldsOf 172)):=by kernel_rfl
 have h2:Tryz.prog.stoodInHeld 172=false:=by kernel_rfl
 rw [run_equalIn_agg _ _ _ _ _ h1 h2];have h3:(Tryz.prog.fieldsOf 172).toList.length=3:=by kernel_rfl
 have h4 : ((Tryz.prog.fieldsOf 172).toList.map fun f => (f.type, f.offset, f.name == "_")) = [(169, 0, false), (9, 3, false), (2, 4, false)] := by kernel_rfl
 generalize (Tryz.prog.fieldsOf 172).toList=fs at *;match fs,h3 with
 | [f0,f1,f2],_ =>
  simp only [List.map_cons,List.map_nil,List.cons.injEq,Prod.mk.injEq,and_true] at h4;obtain ⟨⟨a0,b0,c0⟩,⟨a1,b1,c1⟩,⟨a2,b2,c2⟩⟩:=h4
  have d0 : (f0.name ≠ "_") = True := by simpa using c0
  have q0:∀ W,(part 169 #[.int .i64 q.host.proto,.string q.host.addr,.int .i64 q.host.port,.string q.peer,.int .i64 q.peerPort] 0).run Tryz.prog W=.ok (.agg #[.int .i64 q.host.proto,.string q.host.addr,.int .i64 q.host.port]) W:=fun W=>by kernel_rfl
  have p0:∀ W,(part 169 #[.int .i64 p.host.proto,.string p.host.addr,.int .i64 p.host.port,.string p.peer,.int .i64 p.peerPort] 0).run Tryz.prog W=.ok (.agg #[.int .i64 p.host.proto,.string p.host.addr,.int .i64 p.host.port]) W:=fun W=>by kernel_rfl
  have d1 : (f1.name ≠ "_") = True := by simpa using c1
  have q1:∀ W,(part 9 #[.int .i64 q.host.proto,.string q.host.addr,.int .i64 q.host.port,.string q.peer,.int .i64 q.peerPort] 3).run Tryz.prog W=.ok (.string q.peer) W:=fun W=>by kernel_rfl
  have p1:∀ W,(part 9 #[.int .i64 p.host.proto,.string p.host.addr,.int .i64 p.host.port,.string p.peer,.int .i64 p.peerPort] 3).run Tryz.prog W=.ok (.string p.peer) W:=fun W=>by kernel_rfl
  have d2 : (f2.name ≠ "_") = True := by simpa using c2
  have q2:∀ W,(part 2 #[.int .i64 q.host.proto,.string q.host.addr,.int .i64 q.host.port,.string q.peer,.int .i64 q.peerPort] 4).run Tryz.prog W=.ok (.int .i64 q.peerPort) W:=fun W=>by kernel_rfl
  have p2:∀ W,(part 2 #[.int .i64 p.host.proto,.string p.host.addr,.int .i64 p.host.port,.string p.peer,.int .i64 p.peerPort] 4).run Tryz.prog W=.ok (.int .i64 p.peerPort) W:=fun W=>by kernel_rfl
  unfold sameSk;simp only [Op.eqFields,a0,b0,d0,q0,p0,a1,b1,d1,q1,p1,a2,b2,d2,q2,p2,if_true,Sem.run_bind,Sem.run_ite,Sem.run_pure,Result.andThen_ok,run_equalIn_string _ _ _ _ _ Tryz.underlying9,run_equalIn_int _ _ _ _ _ _ _ Tryz.underlying2,eqEn_run D q.host p.host];generalize (sameEn q.host p.host)=g0;generalize (q.peer.toList==p.peer.toList)=g1;generalize (q.peerPort==p.peerPort)=g2
  cases g0
  ·simp
  simp only [Bool.not_true,Bool.false_eq_true,if_false,Bool.true_and]
  cases g1
  ·simp
  simp only [Bool.not_true,Bool.false_eq_true,if_false,Bool.true_and]
  cases g2<;>simp
theorem eqSk_bin (q p:Sk) (W:World):(binOp .eql 172 (.agg #[.int .i64 q.host.proto,.string q.host.addr,.int .i64 q.host.port,.string q.peer,.int .i64 q.peerPort]) (.agg #[.int .i64 p.host.proto,.string p.host.addr,.int .i64 p.host.port,.string p.peer,.int .i64 p.peerPort])).run Tryz.prog W=.ok (.bool (sameSk q p)) W:=by
 rw [run_eql_struct,eqSk_run 9997 q p W]; rfl
open Go.PlainAid
def bdZ:Bd:=⟨0,⟨#[]⟩,0,⟨#[]⟩,0⟩
theorem findBd_at (f:Bd→Bool) (xs:List Bd) (h:¬ findI f xs < 0):∃ i:Nat,∃ hi:i < xs.length,findI f xs=i∧xs.find? f=some xs[i]:=by
 unfold findI at *
 cases hf:xs.findIdx? f with
 | none=>rw [hf] at h; exact absurd (by decide) h
 | some i =>
  obtain ⟨hi,hfi,hn⟩:=List.findIdx?_eq_some_iff_getElem.1 hf;exact ⟨i,hi,rfl,List.find?_eq_some_iff_getElem.2 ⟨hfi,i,hi,rfl,fun j hj=>by simpa using hn j hj⟩⟩
theorem find_no (f:Bd→Bool) (xs:List Bd) (h:findI f xs < 0):xs.find? f=none:=by
 unfold findI at h
 cases hf:xs.findIdx? f with
 | none=>exact List.find?_eq_none.2 (fun x hx=>by have:=List.findIdx?_eq_none_iff.1 hf x hx; simp [this])
 | some i=>rw [hf] at h; simp only at h; omega
theorem spHas_any (p:Bd) (q:Ss) (w:World) :
  Calls Tryz.prog 99 #[bdC p,ssC q] w fun e w'=>e=.returned (.bool (hasS p q))∧Below w.heap.size w w':=by
 have HV:Hid (hasS p q=(decide (p.proto=q.proto)&&decide (p.inn.toList=q.inn.toList)&&decide (p.inPort=q.inPort))):=rfl;generalize hasS p q=ans at *;obtain ⟨proto,inn,inPort,out,outPort⟩:=p;obtain ⟨proto',inn',inPort',peer',peerPort',state',untl'⟩:=q;unfold bdC ssC;dsimp only at *;have HZ:Hid (∀ o1 o2,Below w.heap.size w ((w.alloc o1).alloc o2)):=fun o1 o2=>((Below.refl _ _).alloc (Nat.le_refl _) _).alloc (by simp) _
 go_enter Tryz.func99,Tryz.ntmps99
 go_wp2_with fail
 all_goals go_ret
 all_goals exact ⟨ret_bool (by rw [HV.out]; simp_all; try rfl),HZ.out _ _⟩
end Go.Proofs.YthpopipedamciaaGreat
namespace Go.Proofs.YthpopipedamciaaGreat
open Go.RowKit
def ofHost (inn:ByteArray) (c:Bd):Bool:=decide (c.inn.toList=inn.toList)
def outIn (xs:List Bd) (d inn:ByteArray):ByteArray:=match xs.find? (ofHost inn) with | some c=>c.out | none=>d
end Go.Proofs.YthpopipedamciaaGreat
