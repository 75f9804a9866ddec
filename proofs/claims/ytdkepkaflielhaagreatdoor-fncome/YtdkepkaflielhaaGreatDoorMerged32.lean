import Derived.Test.YtdkepkaflielhaaGreatDoorMerged31
set_option linter.unusedVariables false
set_option linter.unusedSimpArgs false
set_option maxRecDepth 100000
set_option maxHeartbeats 8000000
namespace Go.Proofs.YtdkepkaflielhaaGreatDoor
open Go.RowKit Go.PlainAid
theorem natFt_zero {p:Pl} {x:Bb} {q:P4} {now:Int} (h:natFt p x q now=0):bibOk p x=true∧v4Ok q=true∧isTime now=true:=by
 unfold natFt at h;by_cases h1:(bibOk p x&&v4Ok q&&isTime now)=false
 ·rw [if_pos h1] at h; simp at h
 ·simpa using h1
theorem specNatCome_any (pa:Option Addr) (pc:Nat) (p:Pl) (ba bo:Option Addr) (ca cb:Nat) (x:Bb) (q:P4) (now:Int) (w:World) (hlp:p.addrs.length≤1048576) (hpc:p.addrs.length≤pc) (hsz:∀ s∈p.addrs,s.size≤1048576) (hl1:x.binds.length≤1048576) (hl2:x.sess.length≤1048576) (q1:q.src.size≤1048576) (q2:q.dst.size≤1048576) (q3:q.opts.size≤1048576) (q4:q.data.size≤1048576) (hp:SlIs strL1 1 w pa p.addrs) (hx:BbIs w ba bo x) :
  Calls Tryz.prog 19 #[plC pa pc p,bbC ba bo ca cb x,p4C q,iV now] w fun e w'=>NoRet w.heap.size (natComeV p x q now) e w'∧Below w.heap.size w w':=by
 have HOK:Hid (∀ W,Below w.heap.size w W→Cb 28 #[plC pa pc p,bbC ba bo ca cb x,p4C q,iV now] W (iV (natFt p x q now))):=fun W hW=>sp9Ok_any pa pc p ba bo ca cb x q now W hlp hpc hsz hl1 hl2 q1 q2 q3 q4 (hp.below hW) (hx.below hW)
 have HIL:Hid (∀ c W,Cb 29 #[iV c] W (noC none none 0 0 (noE c))):=fun c W=>sp9Ill_any c W
 have HIN:Hid (natFt p x q now=0→∀ W,Below w.heap.size w W→Calls Tryz.prog 46 #[plC pa pc p,bbC ba bo ca cb x,p4C q,iV now] W fun e w'=>NoRet W.heap.size (natComeIn p x q now) e w'∧Below W.heap.size W w'):=fun h W hW=>by
  obtain ⟨h1,h2,h3⟩:=natFt_zero h;exact sp9NatCome_any pa pc p ba bo ca cb x q now W h1 h2 h3 hl1 hl2 (hp.below hW) (hx.below hW)
 have HV:Hid (natComeV p x q now=if natFt p x q now≠0 then noE (natFt p x q now) else natComeIn p x q now):=rfl;generalize natComeV p x q now=ans at *;generalize natComeIn p x q now=nv at *;generalize natFt p x q now=ft at *;obtain ⟨tos,id,whole,more,off,ttl,proto,src,dst,opts,data⟩:=q;clear hp hx hsz;unfold plC bbC p4C at *;dsimp only at *;have e0:HoldsL ((aW (aW (aW w (PlV pa pc p) 27) (BbV ba ca bo cb x) 31) (P4R tos id whole more off ttl proto src dst opts data) 33).alloc (.cells Z25V.toArray 39)) (w.heap.size) (PlV pa pc p):=by
  have h:=HoldsL.new w (PlV pa pc p) 27;try simp only [World.size_alloc] at h
  exact (((h.alloc _).alloc _).alloc _)
 have e1:HoldsL ((aW (aW (aW w (PlV pa pc p) 27) (BbV ba ca bo cb x) 31) (P4R tos id whole more off ttl proto src dst opts data) 33).alloc (.cells Z25V.toArray 39)) (w.heap.size+1) (BbV ba ca bo cb x):=by
  have h:=HoldsL.new (w.alloc (.cells (PlV pa pc p).toArray 27)) (BbV ba ca bo cb x) 31;try simp only [World.size_alloc] at h
  exact ((h.alloc _).alloc _)
 have e2:HoldsL ((aW (aW (aW w (PlV pa pc p) 27) (BbV ba ca bo cb x) 31) (P4R tos id whole more off ttl proto src dst opts data) 33).alloc (.cells Z25V.toArray 39)) (w.heap.size+1+1) (P4R tos id whole more off ttl proto src dst opts data):=by
  have h:=HoldsL.new ((aW w (PlV pa pc p) 27).alloc (.cells (BbV ba ca bo cb x).toArray 31)) (P4R tos id whole more off ttl proto src dst opts data) 33;try simp only [World.size_alloc] at h
  exact (h.alloc _)
 have e3:HoldsL ((aW (aW (aW w (PlV pa pc p) 27) (BbV ba ca bo cb x) 31) (P4R tos id whole more off ttl proto src dst opts data) 33).alloc (.cells Z25V.toArray 39)) (w.heap.size+1+1+1) Z25V:=by
  have h:=HoldsL.new ((aW (aW w (PlV pa pc p) 27) (BbV ba ca bo cb x) 31).alloc (.cells (P4R tos id whole more off ttl proto src dst opts data).toArray 33)) Z25V 39;try simp only [World.size_alloc] at h
  exact h
 have HS0:Hid (Bxs w [(w.heap.size,(PlV pa pc p)),(w.heap.size+1,(BbV ba ca bo cb x)),(w.heap.size+1+1,(P4R tos id whole more off ttl proto src dst opts data)),(w.heap.size+1+1+1,Z25V)] ((aW (aW (aW w (PlV pa pc p) 27) (BbV ba ca bo cb x) 31) (P4R tos id whole more off ttl proto src dst opts data) 33).alloc (.cells Z25V.toArray 39))):=by
  refine ⟨fun e he=>?_,((((bR.alloc (by (try simp only [World.size_alloc]); omega) _).alloc (by (try simp only [World.size_alloc]); omega) _).alloc (by (try simp only [World.size_alloc]); omega) _).alloc (by (try simp only [World.size_alloc]); omega) _),fun e he=>?_⟩
  ·simp only [List.mem_cons,List.not_mem_nil,or_false] at he;rcases he with rfl | rfl | rfl | rfl
   ·exact e0
   ·exact e1
   ·exact e2
   ·exact e3
  ·simp only [List.mem_cons,List.not_mem_nil,or_false] at he;rcases he with rfl | rfl | rfl | rfl<;>simp
 clear e0 e1 e2 e3;have hRw:w.heap.size≤w.heap.size+1+1+1:=by omega
 go_enter Tryz.func19,Tryz.ntmps19
 go_upto_region 1 with fail
 generalize World.alloc _ _=W0 at *;have HHk:=HS0.out.at mE0;obtain ⟨k0,k1,k2,k3,k4,k5,k6,k7,k8,k9⟩:=HHk.c10;clear HHk;have HHl:=HS0.out.at mE1;obtain ⟨l0,l1⟩:=HHl.c2;clear HHl;have HHm:=HS0.out.at mE2;obtain ⟨m0,m1,m2,m3,m4,m5,m6,m7,m8,m9,m10⟩:=HHm.c11;clear HHm;go_wp2_with fail
 refine (HOK.out _ HS0.out.b).mono ?_;rintro e W1 ⟨rfl,r1⟩;have S1:Hid _:=HS0.out.kept r1;clear r1 HS0 HOK k0 k1 k2 k3 k4 k5 k6 k7 k8 k9 l0 l1 m0 m1 m2 m3 m4 m5 m6 m7 m8 m9 m10;by_cases hc:ft=0
 case neg =>
  have d0:(ft != 0)=true:=by simp [hc]
  have HX:Hid (ans=noE ft):=by unfold Hid; rw [HV.out,if_pos hc]
  go_wp2_with fail
  refine (HIL.out ft _).mono ?_;rintro e W3 ⟨rfl,r3⟩;have S3:Hid _:=S1.out.kept r3;clear r3;obtain ⟨HTH,HRR,RB⟩:=mid3 (show HoldsL W3 (w.heap.size+1+1+1) (noL none none 0 0 (noE 0)) from S3.out.k _ mE3) S3.out.b hRw none none 0 0 (noE ft);unfold noC;go_wp2_with (refine wpList_store_mid (by rfl) 39 (.tmp 8) (.tmp 18) (by rfl) _ _ _ (by rfl) (by rfl) HTH.out no_info (noL_one _ _ _ _ _) ?_)
  exact bodyPost_ret (results_mid Tryz.results19 _ _ _ _ _ rfl HRR.out Tryz.underlying39 rfl no_info) rfl (And.intro (by rw [HX.out]; exact noRet_ill _) RB.out)
 have d0:(ft != 0)=false:=by simp [hc]
 rw [if_neg (by simp [hc])] at HV;replace HIN:Hid _:=HIN.out hc;clear hc HIL;go_upto_region 4 with fail
 clear d0;have HHk:=S1.out.at mE0;obtain ⟨k0,k1,k2,k3,k4,k5,k6,k7,k8,k9⟩:=HHk.c10;clear HHk;have HHl:=S1.out.at mE1;obtain ⟨l0,l1⟩:=HHl.c2;clear HHl;have HHm:=S1.out.at mE2;obtain ⟨m0,m1,m2,m3,m4,m5,m6,m7,m8,m9,m10⟩:=HHm.c11;clear HHm;have hR2:w.heap.size+1+1+1 < W1.heap.size:=(S1.out.k _ mE3).lt (by simp);have hw2:w.heap.size≤W1.heap.size:=S1.out.b.size;go_wp2_with fail
 refine (HIN.out _ S1.out.b).mono ?_;rintro e W3 ⟨⟨a9,b9,c9,d9,rfl,hown⟩,r3⟩;have S3:Hid _:=S1.out.kept r3;clear r3 S1 HIN k0 k1 k2 k3 k4 k5 k6 k7 k8 k9 l0 l1 m0 m1 m2 m3 m4 m5 m6 m7 m8 m9 m10;obtain ⟨HTH,HRR,RB⟩:=mid3 (show HoldsL W3 (w.heap.size+1+1+1) (noL none none 0 0 (noE 0)) from S3.out.k _ mE3) S3.out.b hRw a9 b9 c9 d9 nv;have HOW:Hid (BbOwn w.heap.size (W3.setCells (w.heap.size+1+1+1) 0 (noL a9 b9 c9 d9 nv).toArray.toList) a9 b9 nv.bib):=(BbOwn.mid hown hR2 _).lowN hw2;clear hown S3;unfold noC;go_wp2_with (refine wpList_store_mid (by rfl) 39 (.tmp 8) (.tmp 23) (by rfl) _ _ _ (by rfl) (by rfl) HTH.out no_info (noL_one _ _ _ _ _) ?_)
 exact bodyPost_ret (results_mid Tryz.results19 _ _ _ _ _ rfl HRR.out Tryz.underlying39 rfl no_info) rfl (And.intro (by rw [HV.out]; exact ⟨a9,b9,c9,d9,rfl,HOW.out⟩) RB.out)
def sameBd (q p:Bd):Bool:=(q.proto==p.proto)&&((q.inn.toList==p.inn.toList)&&((q.inPort==p.inPort)&&((q.out.toList==p.out.toList)&&((q.outPort==p.outPort)))))
theorem sameBd_self (q:Bd):sameBd q q=true:=by unfold sameBd; simp
theorem eqBdW_run (D:Nat) (q p:Bd) (W:World):(Op.equalIn (D+2) 48 (.agg (BdV q).toArray) (.agg (BdV p).toArray)).run Tryz.prog W=.ok (sameBd q p) W:=by
 have h1:Tryz.prog.underlying 48=some (.struct (Tryz.prog.fieldsOf 48)):=by kernel_rfl
 have h2:Tryz.prog.stoodInHeld 48=false:=by kernel_rfl
 rw [run_equalIn_agg _ _ _ _ _ h1 h2];have h3:(Tryz.prog.fieldsOf 48).toList.length=5:=by kernel_rfl
 have h4 : ((Tryz.prog.fieldsOf 48).toList.map fun f => (f.type, f.offset, f.name == "_")) = [(2, 0, false), (9, 1, false), (2, 2, false), (9, 3, false), (2, 4, false)] := by kernel_rfl
 generalize (Tryz.prog.fieldsOf 48).toList=fs at *;match fs,h3 with
 | [f0,f1,f2,f3,f4],_ =>
  simp only [List.map_cons,List.map_nil,List.cons.injEq,Prod.mk.injEq,and_true] at h4;obtain ⟨⟨a0,b0,c0⟩,⟨a1,b1,c1⟩,⟨a2,b2,c2⟩,⟨a3,b3,c3⟩,⟨a4,b4,c4⟩⟩:=h4
  have d0 : (f0.name ≠ "_") = True := by simpa using c0
  have q0:∀ W,(part 2 (BdV q).toArray 0).run Tryz.prog W=.ok (iV q.proto) W:=fun W=>by kernel_rfl
  have p0:∀ W,(part 2 (BdV p).toArray 0).run Tryz.prog W=.ok (iV p.proto) W:=fun W=>by kernel_rfl
  have d1 : (f1.name ≠ "_") = True := by simpa using c1
  have q1:∀ W,(part 9 (BdV q).toArray 1).run Tryz.prog W=.ok (.string q.inn) W:=fun W=>by kernel_rfl
  have p1:∀ W,(part 9 (BdV p).toArray 1).run Tryz.prog W=.ok (.string p.inn) W:=fun W=>by kernel_rfl
  have d2 : (f2.name ≠ "_") = True := by simpa using c2
  have q2:∀ W,(part 2 (BdV q).toArray 2).run Tryz.prog W=.ok (iV q.inPort) W:=fun W=>by kernel_rfl
  have p2:∀ W,(part 2 (BdV p).toArray 2).run Tryz.prog W=.ok (iV p.inPort) W:=fun W=>by kernel_rfl
  have d3 : (f3.name ≠ "_") = True := by simpa using c3
  have q3:∀ W,(part 9 (BdV q).toArray 3).run Tryz.prog W=.ok (.string q.out) W:=fun W=>by kernel_rfl
  have p3:∀ W,(part 9 (BdV p).toArray 3).run Tryz.prog W=.ok (.string p.out) W:=fun W=>by kernel_rfl
  have d4 : (f4.name ≠ "_") = True := by simpa using c4
  have q4:∀ W,(part 2 (BdV q).toArray 4).run Tryz.prog W=.ok (iV q.outPort) W:=fun W=>by kernel_rfl
  have p4:∀ W,(part 2 (BdV p).toArray 4).run Tryz.prog W=.ok (iV p.outPort) W:=fun W=>by kernel_rfl
  unfold sameBd;simp only [Op.eqFields,a0,b0,d0,q0,p0,a1,b1,d1,q1,p1,a2,b2,d2,q2,p2,a3,b3,d3,q3,p3,a4,b4,d4,q4,p4,if_true,Sem.run_bind,Sem.run_ite,Sem.run_pure,Result.andThen_ok,run_equalIn_string _ _ _ _ _ Tryz.underlying9,run_equalIn_int _ _ _ _ _ _ _ Tryz.underlying2];generalize (q.proto==p.proto)=g0;generalize (q.inn.toList==p.inn.toList)=g1;generalize (q.inPort==p.inPort)=g2;generalize (q.out.toList==p.out.toList)=g3;generalize (q.outPort==p.outPort)=g4
  cases g0
  ·simp
  simp only [Bool.not_true,Bool.false_eq_true,if_false,Bool.true_and]
  cases g1
  ·simp
  simp only [Bool.not_true,Bool.false_eq_true,if_false,Bool.true_and]
  cases g2
  ·simp
  simp only [Bool.not_true,Bool.false_eq_true,if_false,Bool.true_and]
  cases g3
  ·simp
  simp only [Bool.not_true,Bool.false_eq_true,if_false,Bool.true_and]
  cases g4<;>simp
theorem neBdW_bin (q p:Bd) (W:World):(binOp .neq 48 (.agg (BdV q).toArray) (.agg (BdV p).toArray)).run Tryz.prog W=.ok (.bool (!sameBd q p)) W:=by
 rw [run_neq_struct,eqBdW_run 9998 q p W]; rfl
def sameSs (q p:Ss):Bool:=(q.proto==p.proto)&&((q.inn.toList==p.inn.toList)&&((q.inPort==p.inPort)&&((q.peer.toList==p.peer.toList)&&((q.peerPort==p.peerPort)&&((q.state==p.state)&&((q.untl==p.untl)))))))
theorem sameSs_self (q:Ss):sameSs q q=true:=by unfold sameSs; simp
theorem eqSsW_run (D:Nat) (q p:Ss) (W:World):(Op.equalIn (D+2) 59 (.agg (SsV q).toArray) (.agg (SsV p).toArray)).run Tryz.prog W=.ok (sameSs q p) W:=by
 have h1:Tryz.prog.underlying 59=some (.struct (Tryz.prog.fieldsOf 59)):=by kernel_rfl
 have h2:Tryz.prog.stoodInHeld 59=false:=by kernel_rfl
 rw [run_equalIn_agg _ _ _ _ _ h1 h2];have h3:(Tryz.prog.fieldsOf 59).toList.length=7:=by kernel_rfl
 have h4 : ((Tryz.prog.fieldsOf 59).toList.map fun f => (f.type, f.offset, f.name == "_")) = [(2, 0, false), (9, 1, false), (2, 2, false), (9, 3, false), (2, 4, false), (2, 5, false), (2, 6, false)] := by kernel_rfl
 generalize (Tryz.prog.fieldsOf 59).toList=fs at *;match fs,h3 with
 | [f0,f1,f2,f3,f4,f5,f6],_ =>
  simp only [List.map_cons,List.map_nil,List.cons.injEq,Prod.mk.injEq,and_true] at h4;obtain ⟨⟨a0,b0,c0⟩,⟨a1,b1,c1⟩,⟨a2,b2,c2⟩,⟨a3,b3,c3⟩,⟨a4,b4,c4⟩,⟨a5,b5,c5⟩,⟨a6,b6,c6⟩⟩:=h4
  have d0 : (f0.name ≠ "_") = True := by simpa using c0
  have q0:∀ W,(part 2 (SsV q).toArray 0).run Tryz.prog W=.ok (iV q.proto) W:=fun W=>by kernel_rfl
  have p0:∀ W,(part 2 (SsV p).toArray 0).run Tryz.prog W=.ok (iV p.proto) W:=fun W=>by kernel_rfl
  have d1 : (f1.name ≠ "_") = True := by simpa using c1
  have q1:∀ W,(part 9 (SsV q).toArray 1).run Tryz.prog W=.ok (.string q.inn) W:=fun W=>by kernel_rfl
  have p1:∀ W,(part 9 (SsV p).toArray 1).run Tryz.prog W=.ok (.string p.inn) W:=fun W=>by kernel_rfl
  have d2 : (f2.name ≠ "_") = True := by simpa using c2
  have q2:∀ W,(part 2 (SsV q).toArray 2).run Tryz.prog W=.ok (iV q.inPort) W:=fun W=>by kernel_rfl
  have p2:∀ W,(part 2 (SsV p).toArray 2).run Tryz.prog W=.ok (iV p.inPort) W:=fun W=>by kernel_rfl
  have d3 : (f3.name ≠ "_") = True := by simpa using c3
  have q3:∀ W,(part 9 (SsV q).toArray 3).run Tryz.prog W=.ok (.string q.peer) W:=fun W=>by kernel_rfl
  have p3:∀ W,(part 9 (SsV p).toArray 3).run Tryz.prog W=.ok (.string p.peer) W:=fun W=>by kernel_rfl
  have d4 : (f4.name ≠ "_") = True := by simpa using c4
  have q4:∀ W,(part 2 (SsV q).toArray 4).run Tryz.prog W=.ok (iV q.peerPort) W:=fun W=>by kernel_rfl
  have p4:∀ W,(part 2 (SsV p).toArray 4).run Tryz.prog W=.ok (iV p.peerPort) W:=fun W=>by kernel_rfl
  have d5 : (f5.name ≠ "_") = True := by simpa using c5
  have q5:∀ W,(part 2 (SsV q).toArray 5).run Tryz.prog W=.ok (iV q.state) W:=fun W=>by kernel_rfl
  have p5:∀ W,(part 2 (SsV p).toArray 5).run Tryz.prog W=.ok (iV p.state) W:=fun W=>by kernel_rfl
  have d6 : (f6.name ≠ "_") = True := by simpa using c6
  have q6:∀ W,(part 2 (SsV q).toArray 6).run Tryz.prog W=.ok (iV q.untl) W:=fun W=>by kernel_rfl
  have p6:∀ W,(part 2 (SsV p).toArray 6).run Tryz.prog W=.ok (iV p.untl) W:=fun W=>by kernel_rfl
  unfold sameSs;simp only [Op.eqFields,a0,b0,d0,q0,p0,a1,b1,d1,q1,p1,a2,b2,d2,q2,p2,a3,b3,d3,q3,p3,a4,b4,d4,q4,p4,a5,b5,d5,q5,p5,a6,b6,d6,q6,p6,if_true,Sem.run_bind,Sem.run_ite,Sem.run_pure,Result.andThen_ok,run_equalIn_string _ _ _ _ _ Tryz.underlying9,run_equalIn_int _ _ _ _ _ _ _ Tryz.underlying2];generalize (q.proto==p.proto)=g0;generalize (q.inn.toList==p.inn.toList)=g1;generalize (q.inPort==p.inPort)=g2;generalize (q.peer.toList==p.peer.toList)=g3;generalize (q.peerPort==p.peerPort)=g4;generalize (q.state==p.state)=g5;generalize (q.untl==p.untl)=g6
  cases g0
  ·simp
  simp only [Bool.not_true,Bool.false_eq_true,if_false,Bool.true_and]
  cases g1
  ·simp
  simp only [Bool.not_true,Bool.false_eq_true,if_false,Bool.true_and]
  cases g2
  ·simp
  simp only [Bool.not_true,Bool.false_eq_true,if_false,Bool.true_and]
  cases g3
  ·simp
  simp only [Bool.not_true,Bool.false_eq_true,if_false,Bool.true_and]
  cases g4
  ·simp
  simp only [Bool.not_true,Bool.false_eq_true,if_false,Bool.true_and]
  cases g5
  ·simp
  simp only [Bool.not_true,Bool.false_eq_true,if_false,Bool.true_and]
  cases g6<;>simp
theorem neSsW_bin (q p:Ss) (W:World):(binOp .neq 59 (.agg (SsV q).toArray) (.agg (SsV p).toArray)).run Tryz.prog W=.ok (.bool (!sameSs q p)) W:=by
 rw [run_neq_struct,eqSsW_run 9998 q p W]; rfl
theorem lwSame_same (x:Bb) (a1 b1 a2 b2:Option Addr) (ca1 cb1 ca2 cb2:Nat) (w:World) (hl1:x.binds.length≤1048576) (hl2:x.sess.length≤1048576) (h1:BbIs w a1 b1 x) (h2:BbIs w a2 b2 x) :
  Cb 9 #[bbC a1 b1 ca1 cb1 x,bbC a2 b2 ca2 cb2 x] w (.bool true):=by
 have HB:Hid (Below w.heap.size w ((aW w (BbV a1 ca1 b1 cb1 x) 31).alloc (.cells (BbV a2 ca2 b2 cb2 x).toArray 31))):=(bR.alloc lR _).alloc (by simp) _;have H0:=(HoldsL.new w (BbV a1 ca1 b1 cb1 x) 31).alloc (.cells (BbV a2 ca2 b2 cb2 x).toArray 31);have H1:=HoldsL.new (w.alloc (.cells (BbV a1 ca1 b1 cb1 x).toArray 31)) (BbV a2 ca2 b2 cb2 x) 31;rw [World.size_alloc] at H1;have G0:Hid _:=H0;have G1:Hid _:=H1;have R1:Hid (BbIs w a1 b1 x):=h1;have R2:Hid (BbIs w a2 b2 x):=h2;unfold bbC;clear h1 h2 H0 H1;go_enter Tryz.func9,Tryz.ntmps9
 go_upto_region 1 with fail
 generalize World.alloc _ _=W2 at *;have HCL:Hid (∀ wy,Below W2.heap.size W2 wy→wy.cell? ⟨w.heap.size,0,none⟩=some (.slice a1 x.binds.length ca1)∧wy.cell? ⟨w.heap.size,1,none⟩=some (.slice b1 x.sess.length cb1)∧wy.cell? ⟨w.heap.size+1,0,none⟩=some (.slice a2 x.binds.length ca2)∧wy.cell? ⟨w.heap.size+1,1,none⟩=some (.slice b2 x.sess.length cb2)) :=
  fun wy hy=>⟨(G0.out.kept (by simp) hy).cell rfl,(G0.out.kept (by simp) hy).cell rfl,(G1.out.kept (by simp) hy).cell rfl,(G1.out.kept (by simp) hy).cell rfl⟩
 obtain ⟨k0,k1,k2,k3⟩:=HCL.out W2 bR;go_wp2_with fail
 go_loopw [5] (fun i wr=>∃ k:Nat,k≤x.binds.length∧i=iV k∧Below W2.heap.size W2 wr) (fun i _=>x.binds.length-(intOf i).toNat)
 case atStart=>exact ⟨0,Nat.zero_le _,rfl,Below.refl _ _⟩
 case round =>
  obtain ⟨k,hk,rfl,hbel⟩:=hrel;have HL:Hid (Below W2.heap.size W2 wr):=hbel;clear hbel;obtain ⟨k0,k1,k2,k3⟩:=HCL.out wr HL.out;by_cases hlt:k < x.binds.length
  ·obtain ⟨c1,o1,rfl,hc1,hA⟩:=R1.out.bd.at hlt;obtain ⟨c2,o2,rfl,hc2,hB⟩:=R2.out.bd.at hlt;have HW:Hid _:=HB.out.trans (HL.out.mono HB.out.size);obtain ⟨q,hq⟩ : ∃ q,q=x.binds[k]:=⟨_,rfl⟩;have CA:Hid (∀ wy,Below wr.heap.size wr wy→wy.cell? ⟨c1,o1+k*5,none⟩=some (iV q.proto)∧wy.cell? ⟨c1,o1+k*5+1,none⟩=some (.string q.inn)∧wy.cell? ⟨c1,o1+k*5+2,none⟩=some (iV q.inPort)∧wy.cell? ⟨c1,o1+k*5+3,none⟩=some (.string q.out)∧wy.cell? ⟨c1,o1+k*5+4,none⟩=some (iV q.outPort)):=fun wy hy=>by
    have h3:=(hA.below hc1 (HW.out.trans (hy.mono HW.out.size))) k hlt;rw [← hq] at h3;exact ⟨h3 0 _ rfl,h3 1 _ rfl,h3 2 _ rfl,h3 3 _ rfl,h3 4 _ rfl⟩
   have CB:Hid (∀ wy,Below wr.heap.size wr wy→wy.cell? ⟨c2,o2+k*5,none⟩=some (iV q.proto)∧wy.cell? ⟨c2,o2+k*5+1,none⟩=some (.string q.inn)∧wy.cell? ⟨c2,o2+k*5+2,none⟩=some (iV q.inPort)∧wy.cell? ⟨c2,o2+k*5+3,none⟩=some (.string q.out)∧wy.cell? ⟨c2,o2+k*5+4,none⟩=some (iV q.outPort)):=fun wy hy=>by
    have h3:=(hB.below hc2 (HW.out.trans (hy.mono HW.out.size))) k hlt;rw [← hq] at h3;exact ⟨h3 0 _ rfl,h3 1 _ rfl,h3 2 _ rfl,h3 3 _ rfl,h3 4 _ rfl⟩
   have HNE:Hid (∀ W,(binOp .neq 48 (.agg (BdV q).toArray) (.agg (BdV q).toArray)).run Tryz.prog W=.ok (.bool false) W):=fun W=>by rw [neBdW_bin q q W,sameBd_self]; rfl
   clear hq hA hB;have hk2:¬ (x.binds.length:Int)≤(k:Int):=by omega
   go_upto_region 6 with fail
   go_cut [40] (fun v wx=>v=.bool false∧Below wr.heap.size wr wx)
   case first =>
    rename_i J K2 hJ hK2;refine wp_region_growH [30,31,32,33,34,35,36,37,38,39,40] (by kernel_rfl) (by kernel_rfl) ?_;iterate 10 (apply GCh.u rfl;(·intro K' a wy ho hd hb hK;simp [rAt,IsV,slot,Region.binds] at ho hd;have hb:=(Below.refl _ wr).drew.trans hb;have hld:=HCL.out wy (HL.out.trans (hb.mono HL.out.size));obtain ⟨k0,k1,k2,k3⟩:=hld;have hca:=CA.out wy hb;have hcb:=CB.out wy hb;obtain ⟨m0,m1,m2,m3,m4⟩:=hca;obtain ⟨n0,n1,n2,n3,n4⟩:=hcb;go_simp;(try go_bits);exact hK _ _ rfl bQ);dsimp only [nA,cA])
    (apply GCh.u rfl;(·intro K' a wy ho hd hb hK;simp [rAt,IsV,slot,Region.binds] at ho hd;have hne:=HNE.out wy;go_simp;(try go_bits);exact hK _ _ rfl bQ);dsimp only [nA,cA])
    intro X wz hR hz;simp only [List.nil_append,List.cons_append,RAll,IsV] at hR;simp only [putsFrom,hR];clear hR;go_simp;refine hK2 _ _ (hJ _ _ ?_);(repeat apply Exists.intro)
    refine ⟨⟨rfl,(Below.refl _ wr).drew.trans hz⟩,rfl⟩
   case rest =>
   obtain ⟨rfl,hbd⟩:=hcut;have HL2:Hid _:=HL.out.trans (hbd.mono HL.out.size);clear hbd;go_wp2_with fail
   go_roundw
   case rel=>exact ⟨k+1,by omega,by go_num,HL2.out⟩
   case measure=>simp [intOf]; omega
  ·have hk2:(x.binds.length:Int)≤(k:Int):=by omega
   go_wp2_with fail
   go_loopw [6] (fun i wr=>∃ k:Nat,k≤x.sess.length∧i=iV k∧Below W2.heap.size W2 wr) (fun i _=>x.sess.length-(intOf i).toNat)
   case atStart=>exact ⟨0,Nat.zero_le _,rfl,HL.out⟩
   case round =>
    obtain ⟨k,hk,rfl,hbel⟩:=hrel;have HL:Hid (Below W2.heap.size W2 wr):=hbel;clear hbel;obtain ⟨k0,k1,k2,k3⟩:=HCL.out wr HL.out;by_cases hlt:k < x.sess.length
    ·obtain ⟨c1,o1,rfl,hc1,hA⟩:=R1.out.ss.at hlt;obtain ⟨c2,o2,rfl,hc2,hB⟩:=R2.out.ss.at hlt;have HW:Hid _:=HB.out.trans (HL.out.mono HB.out.size);obtain ⟨q,hq⟩ : ∃ q,q=x.sess[k]:=⟨_,rfl⟩;have CA:Hid (∀ wy,Below wr.heap.size wr wy→wy.cell? ⟨c1,o1+k*7,none⟩=some (iV q.proto)∧wy.cell? ⟨c1,o1+k*7+1,none⟩=some (.string q.inn)∧wy.cell? ⟨c1,o1+k*7+2,none⟩=some (iV q.inPort)∧wy.cell? ⟨c1,o1+k*7+3,none⟩=some (.string q.peer)∧wy.cell? ⟨c1,o1+k*7+4,none⟩=some (iV q.peerPort)∧wy.cell? ⟨c1,o1+k*7+5,none⟩=some (iV q.state)∧wy.cell? ⟨c1,o1+k*7+6,none⟩=some (iV q.untl)):=fun wy hy=>by
      have h3:=(hA.below hc1 (HW.out.trans (hy.mono HW.out.size))) k hlt;rw [← hq] at h3;exact ⟨h3 0 _ rfl,h3 1 _ rfl,h3 2 _ rfl,h3 3 _ rfl,h3 4 _ rfl,h3 5 _ rfl,h3 6 _ rfl⟩
     have CB:Hid (∀ wy,Below wr.heap.size wr wy→wy.cell? ⟨c2,o2+k*7,none⟩=some (iV q.proto)∧wy.cell? ⟨c2,o2+k*7+1,none⟩=some (.string q.inn)∧wy.cell? ⟨c2,o2+k*7+2,none⟩=some (iV q.inPort)∧wy.cell? ⟨c2,o2+k*7+3,none⟩=some (.string q.peer)∧wy.cell? ⟨c2,o2+k*7+4,none⟩=some (iV q.peerPort)∧wy.cell? ⟨c2,o2+k*7+5,none⟩=some (iV q.state)∧wy.cell? ⟨c2,o2+k*7+6,none⟩=some (iV q.untl)):=fun wy hy=>by
      have h3:=(hB.below hc2 (HW.out.trans (hy.mono HW.out.size))) k hlt;rw [← hq] at h3;exact ⟨h3 0 _ rfl,h3 1 _ rfl,h3 2 _ rfl,h3 3 _ rfl,h3 4 _ rfl,h3 5 _ rfl,h3 6 _ rfl⟩
     have HNE:Hid (∀ W,(binOp .neq 59 (.agg (SsV q).toArray) (.agg (SsV q).toArray)).run Tryz.prog W=.ok (.bool false) W):=fun W=>by rw [neSsW_bin q q W,sameSs_self]; rfl
     clear hq hA hB;have hk2:¬ (x.sess.length:Int)≤(k:Int):=by omega
     go_upto_region 11 with fail
     go_cut [58] (fun v wx=>v=.bool false∧Below wr.heap.size wr wx)
     case first =>
      rename_i J K2 hJ hK2;refine wp_region_growH [48,49,50,51,52,53,54,55,56,57,58] (by kernel_rfl) (by kernel_rfl) ?_;iterate 10 (apply GCh.u rfl;(·intro K' a wy ho hd hb hK;simp [rAt,IsV,slot,Region.binds] at ho hd;have hb:=(Below.refl _ wr).drew.trans hb;have hld:=HCL.out wy (HL.out.trans (hb.mono HL.out.size));obtain ⟨k0,k1,k2,k3⟩:=hld;have hca:=CA.out wy hb;have hcb:=CB.out wy hb;obtain ⟨m0,m1,m2,m3,m4,m5,m6⟩:=hca;obtain ⟨n0,n1,n2,n3,n4,n5,n6⟩:=hcb;go_simp;(try go_bits);exact hK _ _ rfl bQ);dsimp only [nA,cA])
      (apply GCh.u rfl;(·intro K' a wy ho hd hb hK;simp [rAt,IsV,slot,Region.binds] at ho hd;have hne:=HNE.out wy;go_simp;(try go_bits);exact hK _ _ rfl bQ);dsimp only [nA,cA])
      intro X wz hR hz;simp only [List.nil_append,List.cons_append,RAll,IsV] at hR;simp only [putsFrom,hR];clear hR;go_simp;refine hK2 _ _ (hJ _ _ ?_);(repeat apply Exists.intro)
      refine ⟨⟨rfl,(Below.refl _ wr).drew.trans hz⟩,rfl⟩
     case rest =>
     obtain ⟨rfl,hbd⟩:=hcut;have HL2:Hid _:=HL.out.trans (hbd.mono HL.out.size);clear hbd;go_wp2_with fail
     go_roundw
     case rel=>exact ⟨k+1,by omega,by go_num,HL2.out⟩
     case measure=>simp [intOf]; omega
    ·have hk2:(x.sess.length:Int)≤(k:Int):=by omega
     go_wp2_with fail
     go_ret;exact ⟨rfl,HB.out.trans (HL.out.mono HB.out.size)⟩
theorem tl_eq (a b:ByteArray):(a.toList==b.toList)=decide (a=b):=by
 by_cases h:a=b
 ·subst h; simp
 ·rw [decide_eq_false h];have:a.toList≠b.toList:=fun e=>h (by
   rw [ByteArray.toList_eq,ByteArray.toList_eq] at e;apply ByteArray.ext;exact Array.toList_inj.1 e)
  simpa using this
def sameV4 (q p:P4):Bool:=(q.tos==p.tos)&&((q.id==p.id)&&((q.whole==p.whole)&&((q.more==p.more)&&((q.off==p.off)&&((q.ttl==p.ttl)&&((q.proto==p.proto)&&((q.src.toList==p.src.toList)&&((q.dst.toList==p.dst.toList)&&((q.opts.toList==p.opts.toList)&&((q.data.toList==p.data.toList)))))))))))
theorem sameV4_iff (q p:P4):sameV4 q p=true↔q=p:=by
 unfold sameV4;simp only [tl_eq,Bool.and_eq_true,beq_iff_eq,decide_eq_true_iff];constructor
 ·intro h;obtain ⟨h0,h1,h2,h3,h4,h5,h6,h7,h8,h9,h10⟩:=h
  cases q; cases p; simp_all
 ·rintro rfl; simp
theorem eqV4_run (D:Nat) (q p:P4) (W:World):(Op.equalIn (D+2) 33 (.agg (P4V q).toArray) (.agg (P4V p).toArray)).run Tryz.prog W=.ok (sameV4 q p) W:=by
 have h1:Tryz.prog.underlying 33=some (.struct (Tryz.prog.fieldsOf 33)):=by kernel_rfl
 have h2:Tryz.prog.stoodInHeld 33=false:=by kernel_rfl
 rw [run_equalIn_agg _ _ _ _ _ h1 h2];have h3:(Tryz.prog.fieldsOf 33).toList.length=11:=by kernel_rfl
 have h4 : ((Tryz.prog.fieldsOf 33).toList.map fun f => (f.type, f.offset, f.name == "_")) = [(2, 0, false), (2, 1, false), (4, 2, false), (4, 3, false), (2, 4, false), (2, 5, false), (2, 6, false), (9, 7, false), (9, 8, false), (9, 9, false), (9, 10, false)] := by kernel_rfl
 generalize (Tryz.prog.fieldsOf 33).toList=fs at *;match fs,h3 with
 | [f0,f1,f2,f3,f4,f5,f6,f7,f8,f9,f10],_ =>
  simp only [List.map_cons,List.map_nil,List.cons.injEq,Prod.mk.injEq,and_true] at h4;obtain ⟨⟨a0,b0,c0⟩,⟨a1,b1,c1⟩,⟨a2,b2,c2⟩,⟨a3,b3,c3⟩,⟨a4,b4,c4⟩,⟨a5,b5,c5⟩,⟨a6,b6,c6⟩,⟨a7,b7,c7⟩,⟨a8,b8,c8⟩,⟨a9,b9,c9⟩,⟨a10,b10,c10⟩⟩:=h4
  have d0 : (f0.name ≠ "_") = True := by simpa using c0
  have q0:∀ W,(part 2 (P4V q).toArray 0).run Tryz.prog W=.ok (iV q.tos) W:=fun W=>by kernel_rfl
  have p0:∀ W,(part 2 (P4V p).toArray 0).run Tryz.prog W=.ok (iV p.tos) W:=fun W=>by kernel_rfl
  have d1 : (f1.name ≠ "_") = True := by simpa using c1
  have q1:∀ W,(part 2 (P4V q).toArray 1).run Tryz.prog W=.ok (iV q.id) W:=fun W=>by kernel_rfl
  have p1:∀ W,(part 2 (P4V p).toArray 1).run Tryz.prog W=.ok (iV p.id) W:=fun W=>by kernel_rfl
  have d2 : (f2.name ≠ "_") = True := by simpa using c2
  have q2:∀ W,(part 4 (P4V q).toArray 2).run Tryz.prog W=.ok (.bool q.whole) W:=fun W=>by kernel_rfl
  have p2:∀ W,(part 4 (P4V p).toArray 2).run Tryz.prog W=.ok (.bool p.whole) W:=fun W=>by kernel_rfl
  have d3 : (f3.name ≠ "_") = True := by simpa using c3
  have q3:∀ W,(part 4 (P4V q).toArray 3).run Tryz.prog W=.ok (.bool q.more) W:=fun W=>by kernel_rfl
  have p3:∀ W,(part 4 (P4V p).toArray 3).run Tryz.prog W=.ok (.bool p.more) W:=fun W=>by kernel_rfl
  have d4 : (f4.name ≠ "_") = True := by simpa using c4
  have q4:∀ W,(part 2 (P4V q).toArray 4).run Tryz.prog W=.ok (iV q.off) W:=fun W=>by kernel_rfl
  have p4:∀ W,(part 2 (P4V p).toArray 4).run Tryz.prog W=.ok (iV p.off) W:=fun W=>by kernel_rfl
  have d5 : (f5.name ≠ "_") = True := by simpa using c5
  have q5:∀ W,(part 2 (P4V q).toArray 5).run Tryz.prog W=.ok (iV q.ttl) W:=fun W=>by kernel_rfl
  have p5:∀ W,(part 2 (P4V p).toArray 5).run Tryz.prog W=.ok (iV p.ttl) W:=fun W=>by kernel_rfl
  have d6 : (f6.name ≠ "_") = True := by simpa using c6
  have q6:∀ W,(part 2 (P4V q).toArray 6).run Tryz.prog W=.ok (iV q.proto) W:=fun W=>by kernel_rfl
  have p6:∀ W,(part 2 (P4V p).toArray 6).run Tryz.prog W=.ok (iV p.proto) W:=fun W=>by kernel_rfl
  have d7 : (f7.name ≠ "_") = True := by simpa using c7
  have q7:∀ W,(part 9 (P4V q).toArray 7).run Tryz.prog W=.ok (.string q.src) W:=fun W=>by kernel_rfl
  have p7:∀ W,(part 9 (P4V p).toArray 7).run Tryz.prog W=.ok (.string p.src) W:=fun W=>by kernel_rfl
  have d8 : (f8.name ≠ "_") = True := by simpa using c8
  have q8:∀ W,(part 9 (P4V q).toArray 8).run Tryz.prog W=.ok (.string q.dst) W:=fun W=>by kernel_rfl
  have p8:∀ W,(part 9 (P4V p).toArray 8).run Tryz.prog W=.ok (.string p.dst) W:=fun W=>by kernel_rfl
  have d9 : (f9.name ≠ "_") = True := by simpa using c9
  have q9:∀ W,(part 9 (P4V q).toArray 9).run Tryz.prog W=.ok (.string q.opts) W:=fun W=>by kernel_rfl
  have p9:∀ W,(part 9 (P4V p).toArray 9).run Tryz.prog W=.ok (.string p.opts) W:=fun W=>by kernel_rfl
  have d10 : (f10.name ≠ "_") = True := by simpa using c10
  have q10:∀ W,(part 9 (P4V q).toArray 10).run Tryz.prog W=.ok (.string q.data) W:=fun W=>by kernel_rfl
  have p10:∀ W,(part 9 (P4V p).toArray 10).run Tryz.prog W=.ok (.string p.data) W:=fun W=>by kernel_rfl
  unfold sameV4;simp only [Op.eqFields,a0,b0,d0,q0,p0,a1,b1,d1,q1,p1,a2,b2,d2,q2,p2,a3,b3,d3,q3,p3,a4,b4,d4,q4,p4,a5,b5,d5,q5,p5,a6,b6,d6,q6,p6,a7,b7,d7,q7,p7,a8,b8,d8,q8,p8,a9,b9,d9,q9,p9,a10,b10,d10,q10,p10,if_true,Sem.run_bind,Sem.run_ite,Sem.run_pure,Result.andThen_ok,run_equalIn_string _ _ _ _ _ Tryz.underlying9,run_equalIn_int _ _ _ _ _ _ _ Tryz.underlying2,run_equalIn_bool' _ _ _ _ _ Tryz.underlying4];generalize (q.tos==p.tos)=g0;generalize (q.id==p.id)=g1;generalize (q.whole==p.whole)=g2;generalize (q.more==p.more)=g3;generalize (q.off==p.off)=g4;generalize (q.ttl==p.ttl)=g5;generalize (q.proto==p.proto)=g6;generalize (q.src.toList==p.src.toList)=g7;generalize (q.dst.toList==p.dst.toList)=g8;generalize (q.opts.toList==p.opts.toList)=g9;generalize (q.data.toList==p.data.toList)=g10
  cases g0
  ·simp
  simp only [Bool.not_true,Bool.false_eq_true,if_false,Bool.true_and]
  cases g1
  ·simp
  simp only [Bool.not_true,Bool.false_eq_true,if_false,Bool.true_and]
  cases g2
  ·simp
  simp only [Bool.not_true,Bool.false_eq_true,if_false,Bool.true_and]
  cases g3
  ·simp
  simp only [Bool.not_true,Bool.false_eq_true,if_false,Bool.true_and]
  cases g4
  ·simp
  simp only [Bool.not_true,Bool.false_eq_true,if_false,Bool.true_and]
  cases g5
  ·simp
  simp only [Bool.not_true,Bool.false_eq_true,if_false,Bool.true_and]
  cases g6
  ·simp
  simp only [Bool.not_true,Bool.false_eq_true,if_false,Bool.true_and]
  cases g7
  ·simp
  simp only [Bool.not_true,Bool.false_eq_true,if_false,Bool.true_and]
  cases g8
  ·simp
  simp only [Bool.not_true,Bool.false_eq_true,if_false,Bool.true_and]
  cases g9
  ·simp
  simp only [Bool.not_true,Bool.false_eq_true,if_false,Bool.true_and]
  cases g10<;>simp
theorem eqV4_bin (q p:P4) (W:World):(binOp .eql 33 (.agg (P4V q).toArray) (.agg (P4V p).toArray)).run Tryz.prog W=.ok (.bool (sameV4 q p)) W:=by
 rw [run_eql_struct,eqV4_run 9998 q p W]; rfl
theorem neV4_bin (q p:P4) (W:World):(binOp .neq 33 (.agg (P4V q).toArray) (.agg (P4V p).toArray)).run Tryz.prog W=.ok (.bool (!sameV4 q p)) W:=by
 rw [run_neq_struct,eqV4_run 9998 q p W]; rfl
theorem lwV4_same (q:P4) (s d t:ByteArray) (w:World) :
  Cb 12 #[.agg (P4R q.tos q.id q.whole q.more q.off q.ttl q.proto s d q.opts t).toArray,.agg (P4V q).toArray] w (.bool true):=by
 have HS0:=bx2 w (P4R q.tos q.id q.whole q.more q.off q.ttl q.proto s d q.opts t) 33 (P4V q) 33 (by simp) (by simp)
 skip;go_enter Tryz.func12,Tryz.ntmps12
 go_upto_region 1 with fail
 generalize World.alloc _ _=W0 at *;have HHk:HoldsL W0 (w.heap.size) (P4R q.tos q.id q.whole q.more q.off q.ttl q.proto s d q.opts t):=HS0.out.at mE0;have HHl:HoldsL W0 (w.heap.size+1) (P4V q):=HS0.out.at mE1;have hB0:=HS0.out.b;obtain ⟨-,-,-,-,-,-,-,l7,l8,-,l10⟩:=HHl.c11;obtain ⟨-,-,-,-,-,-,-,kf7,kf8,-,kf10⟩:=HHk.f11;obtain ⟨-,-,-,-,-,-,-,k7,k8,-,k10⟩:=HHk.c11;have G0:Hid (HoldsL ((sW (sW W0 w.heap.size 7 (.string q.src)) w.heap.size 8 (.string q.dst)).setCell ⟨w.heap.size,10,none⟩ (.string q.data)) (w.heap.size) (P4V q)):=((HHk.set 7 (.string q.src)).set 8 (.string q.dst)).set 10 (.string q.data);have G1:Hid (HoldsL ((sW (sW W0 w.heap.size 7 (.string q.src)) w.heap.size 8 (.string q.dst)).setCell ⟨w.heap.size,10,none⟩ (.string q.data)) (w.heap.size+1) (P4V q)):=((HHl.setOther (by omega) _).setOther (by omega) _).setOther (by omega) _;have G2:Hid (Below w.heap.size w ((sW (sW W0 w.heap.size 7 (.string q.src)) w.heap.size 8 (.string q.dst)).setCell ⟨w.heap.size,10,none⟩ (.string q.data))):=((hB0.setCell (p:=⟨w.heap.size,7,none⟩) lR _).setCell (p:=⟨w.heap.size,8,none⟩) lR _).setCell (p:=⟨w.heap.size,10,none⟩) lR _;clear HHk HHl hB0 HS0;go_upto_region 4 with fail
 generalize ((sW (sW W0 w.heap.size 7 (.string q.src)) w.heap.size 8 (.string q.dst)).setCell ⟨w.heap.size,10,none⟩ (.string q.data))=W1 at *;clear k7 k8 k10 kf7 kf8 kf10 l7 l8 l10;obtain ⟨k0,k1,k2,k3,k4,k5,k6,k7,k8,k9,k10⟩:=G0.out.c11;obtain ⟨l0,l1,l2,l3,l4,l5,l6,l7,l8,l9,l10⟩:=G1.out.c11;have hsq:sameV4 q q=true:=(sameV4_iff q q).2 rfl;have heq:(binOp .eql 33 (.agg (P4V q).toArray) (.agg (P4V q).toArray)).run Tryz.prog W1=.ok (.bool true) W1:=by rw [eqV4_bin q q W1,hsq]
 clear hsq G0 G1;go_wp2_with fail
 go_ret;exact ⟨rfl,G2.out⟩
open Go.ChangeShapes Go.WideShapes
section
variable {base lo hi B:Nat} {w W:World} {a b:Option Addr} {x:Bb}
end
theorem sz_of_list {a b:ByteArray} (h:a.toList=b.toList):a.size=b.size:=by rw [baT_ext h]
theorem in64_of {n:Int} (h0:0≤n) (h1:n≤100000):In64t n:=by unfold In64t; omega
theorem in64_isIn {n a b:Int} (h:isIn n a b=true) (ha:0≤a) (hb:b≤100000):In64t n:=by
 have:=isIn_parts h; exact in64_of (by omega) (by omega)
theorem bib_small {p:Pl} {x:Bb} (h:BibR p x) (hsz:∀ s∈p.addrs,s.size≤1048576):x.binds.length≤1048576∧x.sess.length≤1048576∧(∀ q∈x.binds,BdGood q)∧(∀ s∈x.sess,SsGood s):=by
 have hp:=h.pool;unfold poolOk at hp;simp only [Bool.and_eq_true,decide_eq_true_iff] at hp;have hm:=isIn_parts hp.1.1.1.2;have hb:∀ q∈x.binds,BdGood q:=fun q hq=>by
  obtain ⟨i,hi,rfl⟩:=List.getElem_of_mem hq;have h1:=h.bind i hi;unfold bindOne at h1;simp only [Bool.and_eq_true] at h1;obtain ⟨⟨⟨⟨⟨a1,a2⟩,a3⟩,a4⟩,a5⟩,-⟩:=h1;have a2':x.binds[i].inn.size≤16:=by unfold addrOk at a2; simp at a2; omega
  unfold inL at a4;unfold isW at a3;obtain ⟨s,hs,e⟩:=List.any_eq_true.1 a4;have hz:=sz_of_list (of_decide_eq_true e);have:=hsz s hs;unfold protoB at a1;simp only [Bool.or_eq_true,decide_eq_true_iff] at a1;exact ⟨by omega,by omega,by unfold In64t; rcases a1 with (a | a) | a<;>omega,in64_isIn a3 (by omega) (by omega),in64_isIn a5 (by omega) (by omega)⟩
 refine ⟨by have:=h.len; omega,by have:=h.most; omega,hb,fun s hs=>?_⟩;obtain ⟨c,hc,ho⟩:=List.any_eq_true.1 (h.has s hs);have hcd:=hb c hc;have hv:=h.sess s hs;unfold sessV at hv;simp only [Bool.and_eq_true,decide_eq_true_iff] at hv;unfold ofIn at ho;simp only [Bool.and_eq_true,decide_eq_true_iff] at ho;have hi:=sz_of_list ho.1.2;exact ⟨by have:=hcd.1; omega,by have:=hv.1.1.1.1; omega,ho.1.1 ▸ hcd.2.2.1,ho.2 ▸ hcd.2.2.2.1⟩
structure Back (p:Pl) (x:Bb) (q:P4) (now:Int) (ans:No) (ft:Int) (nv:No):Prop where
 a1:ft≠0→ans=noE ft
 a2:ft=0→q.proto=1→ans=noE 11
 a3:ft=0→q.proto≠1→nv.code≠0→ans=nv
 a4:ft=0→q.proto≠1→nv.code=0→ans=natComeV p nv.bib nv.four now
 go:ft=0→natGoV p x q now=nv
 sm:ft=0→nv.code=0→(nv.bib.binds.length≤1048576∧nv.bib.sess.length≤1048576∧(∀ q∈nv.bib.binds,BdGood q)∧(∀ s∈nv.bib.sess,SsGood s))∧nv.four.src.size≤1048576∧nv.four.dst.size≤1048576∧nv.four.opts.size≤1048576∧nv.four.data.size≤1048576
section
variable {w W:World} {base:Nat} {a b:Option Addr} {x:Bb}
end
theorem natCome_err {p:Pl} {x:Bb} {q:P4} {now:Int} (h:(natComeV p x q now).code≠0):natComeV p x q now=noE (natComeV p x q now).code:=by
 unfold natComeV natComeIn at h ⊢;by_cases h1:natFt p x q now≠0
 ·rw [if_pos h1]; rfl
 rw [if_neg h1] at h ⊢;by_cases h2:inL p.addrs q.dst=false
 ·rw [if_pos h2]; rfl
 rw [if_neg h2] at h ⊢;by_cases h3:ofCode q.src.size q.proto q.data≠0
 ·rw [if_pos h3]; rfl
 rw [if_neg h3] at h ⊢;by_cases h4:(goV p x (comeT (ofFl q.src q.dst q.proto q.data) q.data) now).code≠0
 ·rw [if_pos h4]; rfl
 rw [if_neg h4] at h ⊢;by_cases h5:(goV p x (comeT (ofFl q.src q.dst q.proto q.data) q.data) now).bind.inn.size≠4
 ·rw [if_pos h5]; rfl
 rw [if_neg h5] at h;exact absurd rfl h
theorem go_knows {p:Pl} {x:Bb} {t:Tc} {now:Int} {c:Bd} (hi:t.inside=false) (hc:(goV p x t now).code=0) (hf:x.binds.find? (ofOut t.proto t.addr t.port)=some c) (hfl:p.filter=0∨p.filter=1∨p.filter=2) :
  p.filter=0∨∃ s∈x.sess,hasS c s=true∧s.peer.toList=t.peer.toList∧(p.filter=1∨s.peerPort=t.peerPort):=by
 unfold goV at hc;rw [hi] at hc;simp only [Bool.false_eq_true,if_false] at hc;rw [hf] at hc;dsimp only at hc
 cases hs:x.sess.findIdx? (withP c t.peer t.peerPort) with
 | some i =>
  obtain ⟨hlt,hw,_⟩:=List.findIdx?_eq_some_iff_getElem.1 hs;unfold withP at hw;simp only [Bool.and_eq_true,decide_eq_true_iff] at hw;exact .inr ⟨x.sess[i],List.getElem_mem _,hw.1.1,hw.1.2,.inr hw.2⟩
 | none =>
  rw [hs] at hc;dsimp only at hc
  cases hg:goneB p x t c with
  | true=>rw [hg] at hc; simp [boE] at hc
  | false =>
   unfold goneB at hg;rw [hi] at hg;simp only [Bool.not_false,Bool.true_and,Bool.or_eq_false_iff,decide_eq_false_iff_not,Bool.and_eq_false_iff,Bool.not_eq_false'] at hg;rcases hfl with h0 | h1 | h2
   ·exact .inl h0
   ·rcases hg.2 with g | g
    ·exact absurd h1 g
    ·obtain ⟨s,hs1,hs2⟩:=List.any_eq_true.1 g;unfold withA at hs2;simp only [Bool.and_eq_true,decide_eq_true_iff] at hs2;exact .inr ⟨s,hs1,hs2.1,hs2.2,.inl h1⟩
   ·exact absurd h2 hg.1
theorem natCome_ok {p:Pl} {x:Bb} {q:P4} {now:Int} (h:(natComeV p x q now).code=0) (hq:q.data.size≤20000) :
  ∃ c D,flowOfV q.src q.dst q.proto q.data=ofFl q.src q.dst q.proto q.data∧(ofFl q.src q.dst q.proto q.data).proto=q.proto∧(ofFl q.src q.dst q.proto q.data).src=q.src∧(ofFl q.src q.dst q.proto q.data).dst=q.dst
   ∧ bindV (ofOut q.proto q.dst (ofFl q.src q.dst q.proto q.data).dp) x.binds q.dst=c∧c.proto≠0∧(natComeV p x q now).four={ q with dst:=c.inn,data:=D }∧(natComeV p x q now).bib.binds.length=x.binds.length∧bibOk p (natComeV p x q now).bib=true
   ∧ (p.filter=0∨∃ s∈x.sess,hasS c s=true∧s.peer.toList=q.src.toList∧(p.filter=1∨s.peerPort=if q.proto=1 then 0 else (ofFl q.src q.dst q.proto q.data).sp)):=by
 unfold natComeV natComeIn at h ⊢;by_cases h1:natFt p x q now≠0
 ·rw [if_pos h1] at h; exact absurd h h1
 rw [if_neg h1] at h ⊢;by_cases h2:inL p.addrs q.dst=false
 ·rw [if_pos h2] at h; exact absurd h (by decide)
 rw [if_neg h2] at h ⊢;by_cases h3:ofCode q.src.size q.proto q.data≠0
 ·rw [if_pos h3] at h; exact absurd h h3
 rw [if_neg h3] at h ⊢;by_cases h4:(goV p x (comeT (ofFl q.src q.dst q.proto q.data) q.data) now).code≠0
 ·rw [if_pos h4] at h; exact absurd h h4
 rw [if_neg h4] at h ⊢;by_cases h5:(goV p x (comeT (ofFl q.src q.dst q.proto q.data) q.data) now).bind.inn.size≠4
 ·rw [if_pos h5] at h; exact absurd h (by decide)
 rw [if_neg h5];have h1':natFt p x q now=0:=Decidable.not_not.1 h1;have h3':ofCode q.src.size q.proto q.data=0:=Decidable.not_not.1 h3;have h4':=Decidable.not_not.1 h4;obtain ⟨k1,k2,k3⟩:=nat_parts h1';obtain ⟨hs4,hd4,_,_⟩:=v4_sizes k2;have hR:=bibR_iff.1 k1;have hto:=comeT_ok hs4 hd4 h3';obtain ⟨g1,g2,g3,g4,g5⟩:=go_right hR k3 hto h4';obtain ⟨z1,z2,z3,_⟩:=ofFl_zero (d:=q.dst) h3';obtain ⟨g6,g7⟩:=g5 rfl;have hp4:q.proto=6∨q.proto=17∨q.proto=1:=proto_four (by have:=proto_of h3'; rw [hs4] at this; exact this);have hfc:flowCode q.src q.dst q.proto q.data=0:=by
  unfold flowCode;rw [if_neg (by omega),if_neg (by rw [pair_four hs4 hd4]; decide)];exact h3'
 have hkn:=go_knows (now:=now) (c:=(goV p x (comeT (ofFl q.src q.dst q.proto q.data) q.data) now).bind) rfl h4' g6 (pool_filter hR.pool);have hcp:(goV p x (comeT (ofFl q.src q.dst q.proto q.data) q.data) now).bind.proto=q.proto:=by
  have:=List.find?_some g6;unfold ofOut at this;simp only [Bool.and_eq_true,decide_eq_true_iff] at this;have h9:=this.1.1;rw [h9]; exact z1
 refine ⟨(goV p x (comeT (ofFl q.src q.dst q.proto q.data) q.data) now).bind,_,?_,z1,z2,z3,?_,by rw [hcp]; omega,rfl,by show (goV p x _ now).bib.binds.length=_; rw [g7],bibR_iff.2 g1,?_⟩
 ·unfold flowOfV; rw [if_pos hfc]
 ·unfold bindV;rw [if_neg (by omega)];have e:x.binds.find? (ofOut q.proto q.dst (ofFl q.src q.dst q.proto q.data).dp)=some (goV p x (comeT (ofFl q.src q.dst q.proto q.data) q.data) now).bind:=by
   have:x.binds.find? (ofOut (ofFl q.src q.dst q.proto q.data).proto (ofFl q.src q.dst q.proto q.data).dst (ofFl q.src q.dst q.proto q.data).dp)=some (goV p x (comeT (ofFl q.src q.dst q.proto q.data) q.data) now).bind:=g6;rw [z1,z3] at this;exact this
  rw [e]; rfl
 ·rcases hkn with h0 | ⟨s,s1,s2,s3,s4⟩
  ·exact .inl h0
  ·refine .inr ⟨s,s1,s2,by have:=s3; unfold comeT at this; dsimp only at this; rw [z2] at this; exact this,s4.imp id fun e=>?_⟩;unfold comeT at e;dsimp only at e;rw [e,z1];unfold peerV echoP;rcases hp4 with h | h | h<;>rw [h]<;>simp
theorem noE_len (c:Int):(noE c).bib.binds.length≤1048576∧(noE c).bib.sess.length≤1048576:=⟨by simp [noE,bbZ],by simp [noE,bbZ]⟩
theorem no_len_NatCome (p:Pl) (x:Bb) (q:P4) (now:Int) (hsz:∀ s∈p.addrs,s.size≤1048576):(natComeV p x q now).bib.binds.length≤1048576∧(natComeV p x q now).bib.sess.length≤1048576:=by
 unfold natComeV;split
 ·exact noE_len _
 ·rename_i h;have h0:natFt p x q now=0:=by simpa using h
  obtain ⟨h1,h2,h3⟩:=nat_parts h0;obtain ⟨s1,s2,s3,s4⟩:=v4_sizes h2;unfold natComeIn;split
  ·exact noE_len _
  ·split
   ·exact noE_len _
   ·rename_i hc;split
    ·exact noE_len _
    ·rename_i hn;split
     ·exact noE_len _
     ·have hc0:ofCode q.src.size q.proto q.data=0:=by simpa using hc
      have hn0:(goV p x (comeT (ofFl q.src q.dst q.proto q.data) q.data) now).code=0:=by simpa using hn
      have hg:=go_right (bibR_iff.1 h1) h3 (comeT_ok s1 s2 hc0) hn0;have:=bib_small hg.1 hsz;exact ⟨this.1,this.2.1⟩
theorem field_flow (a:Int) (b c:ByteArray) (d e f:Int) (W:World):(Instr.field 45 (.agg #[iV a,.string b,.string c,iV d,iV e,iV f]) 0).run Tryz.prog W=.ok (.agg (FlR a b c d e).toArray) W:=by
 have h3:((Tryz.prog.fieldsOf 45)[0]?).map (fun f=>(f.type,f.offset))=some (43,0):=by kernel_rfl
 obtain ⟨fd,h4,h5⟩:=Option.map_eq_some_iff.1 h3;obtain ⟨h6,h7⟩:=Prod.mk.inj h5;unfold Instr.field;simp [go_sem,Tryz.underlying45,h4,h6,h7];rfl
end Go.Proofs.YtdkepkaflielhaaGreatDoor
