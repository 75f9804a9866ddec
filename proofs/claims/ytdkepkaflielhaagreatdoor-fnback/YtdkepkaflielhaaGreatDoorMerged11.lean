import Derived.Test.YtdkepkaflielhaaGreatDoorMerged7
set_option linter.unusedVariables false
set_option linter.unusedSimpArgs false
set_option maxRecDepth 100000
set_option maxHeartbeats 8000000
namespace Go.Proofs.YtdkepkaflielhaaGreatDoor
open Go.RowKit Go.PlainAid
def DU(x y:Int):List UInt8:=[UInt8.ofNat x.toNat,UInt8.ofNat y.toNat]
theorem HJ{w:World}{b:Nat}{x y:Int}(hx:0≤x∧x≤255)(hy:0≤y∧y≤255)
  (hc0:w.cell? ⟨b,0,none⟩=some (.int .u8 x)) (hc1:w.cell? ⟨b,1,none⟩=some (.int .u8 y)) :
  ∀j (hj:j < (DU x y).length),w.cell? (Addr.add ⟨b,0,none⟩ j)=some (.int .u8 ((DU x y)[j].toNat:Int)):=by
 intro j hj;match j,hj with
 | 0,_=>simp only[Addr.add,Nat.add_zero,DU,UZ];rw[fM _ hx.1 hx.2];exact hc0
 | 1,_=>simp only[Addr.add,UI,DU,List.getElem_cons_succ,UZ];rw[fM _ hy.1 hy.2];exact hc1
theorem tM{w:World}{b cap:Nat}{x y:Int}(hx:0≤x∧x≤255)(hy:0≤y∧y≤255)
  (hc0:w.cell? ⟨b,0,none⟩=some (.int .u8 x)) (hc1:w.cell? ⟨b,1,none⟩=some (.int .u8 y)) :
  (convert 22 9 (.slice (some ⟨b,0,none⟩) 2 cap)).run Tryz.prog w=.ok (.string (kG x y)) w :=
 run_convert_bytes_back (P:=Tryz.prog) w 22 9 5 ⟨b,0,none⟩ cap (DU x y) Tryz.underlying22 Tryz.underlying5 Tryz.underlying9 (HJ hx hy hc0 hc1)
def iW(q p:Fl):Bool:=(q.VF==p.VF)&&((q.src.toList==p.src.toList)&&((q.dst.toList==p.dst.toList)&&((q.sp==p.sp)&&((q.dp==p.dp)))))
theorem FU(D:Nat)(q p:Fl)(W:World):(Op.equalIn (D+2) 43 (.agg (gH q).toArray) (.agg (gH p).toArray)).run Tryz.prog W=.ok (iW q p) W:=by
 have h1:Tryz.prog.underlying 43=some (.struct (Tryz.prog.fieldsOf 43)):=by kernel_rfl
 have h2:Tryz.prog.stoodInHeld 43=false:=by kernel_rfl
 rw[run_equalIn_agg _ _ _ _ _ h1 h2];have h3:(Tryz.prog.fieldsOf 43).toList.length=5:=by kernel_rfl
 have h4 : ((Tryz.prog.fieldsOf 43).toList.map fun f => (f.type, f.offset, f.name == "_")) = [(2, 0, false), (9, 1, false), (9, 2, false), (2, 3, false), (2, 4, false)] := by kernel_rfl
 generalize (Tryz.prog.fieldsOf 43).toList=fs at *;match fs,h3 with
 | [f0,f1,f2,f3,f4],_=>
  simp only[List.map_cons,List.map_nil,List.cons.injEq,Prod.mk.injEq,and_true]at h4;obtain⟨⟨a0,b0,c0⟩,⟨a1,b1,c1⟩,⟨a2,b2,c2⟩,⟨a3,b3,c3⟩,⟨a4,b4,c4⟩⟩:=h4
  have d0 : (f0.name ≠ "_") = True := by simpa using c0
  have q0:∀W,(part 2 (gH q).toArray 0).run Tryz.prog W=.ok (iV q.VF) W:=fun W=>by kernel_rfl
  have p0:∀W,(part 2 (gH p).toArray 0).run Tryz.prog W=.ok (iV p.VF) W:=fun W=>by kernel_rfl
  have d1 : (f1.name ≠ "_") = True := by simpa using c1
  have q1:∀W,(part 9 (gH q).toArray 1).run Tryz.prog W=.ok (.string q.src) W:=fun W=>by kernel_rfl
  have p1:∀W,(part 9 (gH p).toArray 1).run Tryz.prog W=.ok (.string p.src) W:=fun W=>by kernel_rfl
  have d2 : (f2.name ≠ "_") = True := by simpa using c2
  have q2:∀W,(part 9 (gH q).toArray 2).run Tryz.prog W=.ok (.string q.dst) W:=fun W=>by kernel_rfl
  have p2:∀W,(part 9 (gH p).toArray 2).run Tryz.prog W=.ok (.string p.dst) W:=fun W=>by kernel_rfl
  have d3 : (f3.name ≠ "_") = True := by simpa using c3
  have q3:∀W,(part 2 (gH q).toArray 3).run Tryz.prog W=.ok (iV q.sp) W:=fun W=>by kernel_rfl
  have p3:∀W,(part 2 (gH p).toArray 3).run Tryz.prog W=.ok (iV p.sp) W:=fun W=>by kernel_rfl
  have d4 : (f4.name ≠ "_") = True := by simpa using c4
  have q4:∀W,(part 2 (gH q).toArray 4).run Tryz.prog W=.ok (iV q.dp) W:=fun W=>by kernel_rfl
  have p4:∀W,(part 2 (gH p).toArray 4).run Tryz.prog W=.ok (iV p.dp) W:=fun W=>by kernel_rfl
  unfold iW;simp only[Op.eqFields,a0,b0,d0,q0,p0,a1,b1,d1,q1,p1,a2,b2,d2,q2,p2,a3,b3,d3,q3,p3,a4,b4,d4,q4,p4,if_true,Sem.run_bind,Sem.run_ite,Sem.run_pure,Result.andThen_ok,run_equalIn_string _ _ _ _ _ Tryz.underlying9,run_equalIn_int _ _ _ _ _ _ _ Tryz.underlying2,run_equalIn_bool' _ _ _ _ _ Tryz.underlying4];generalize (q.VF==p.VF)=g0;generalize (q.src.toList==p.src.toList)=g1;generalize (q.dst.toList==p.dst.toList)=g2;generalize (q.sp==p.sp)=g3;generalize (q.dp==p.dp)=g4
  cases g0
  ·simp
  simp only[UW,UO,if_false,UP]
  cases g1
  ·simp
  simp only[UW,UO,if_false,UP]
  cases g2
  ·simp
  simp only[UW,UO,if_false,UP]
  cases g3
  ·simp
  simp only[UW,UO,if_false,UP]
  cases g4<;>simp
theorem FV(a:Int)(b c:BA)(d e f:Int)(W:World):(Instr.field 45 (.agg #[iV a,.string b,.string c,iV d,iV e,iV f]) 0).run Tryz.prog W=.ok (.agg (cR a b c d e).toArray) W:=by
 have h3:((Tryz.prog.fieldsOf 45)[0]?).map (fun f=>(f.type,f.offset))=some (43,0):=by kernel_rfl
 obtain⟨fd,h4,h5⟩:=Option.map_eq_some_iff.1 h3;obtain⟨h6,h7⟩:=Prod.mk.inj h5;unfold Instr.field;simp[go_sem,Tryz.underlying45,h4,h6,h7];rfl
end Go.Proofs.YtdkepkaflielhaaGreatDoor
