import Derived.Test.YtcckaeppiamebaaGreatDoorAb
import Derived.Test.YtcckaeppiamebaaGreatDoorMerged12
import Derived.Test.YtcckaeppiamebaaGreatDoorProg
import Derived.Laws.StructEq
import Derived.Test.YtcckaeppiamebaaGreatDoorSSet
import Derived.RegionTactic
import Derived.Deep.RegionWith
import Derived.Deep.DeepCutAuto
import Derived.Test.YtcckaeppiamebaaGreatDoorMerged14
import Derived.Test.YtcckaeppiamebaaGreatDoorMerged21
import Derived.Test.YtcckaeppiamebaaGreatDoorMerged1
import Derived.Test.YtcckaeppiamebaaGreatDoorMerged20
import Derived.Test.YtcckaeppiamebaaGreatDoorMerged2
set_option linter.unusedVariables false
set_option linter.unusedSimpArgs false
set_option maxRecDepth 100000
set_option maxHeartbeats 8000000
namespace Go.Proofs.YtcckaeppiamebaaGreatDoor
open Go.RowKit
def sameFlow (q p:Fl):Bool:=(q.proto==p.proto)&&((q.src.toList==p.src.toList)&&((q.dst.toList==p.dst.toList)&&((q.sp==p.sp)&&((q.dp==p.dp)))))
theorem eqFlow_run (D:Nat) (q p:Fl) (W:World):(Op.equalIn (D+2) 91 (.agg (FlV q).toArray) (.agg (FlV p).toArray)).run Tryz.prog W=.ok (sameFlow q p) W:=by
 have h1:Tryz.prog.underlying 91=some (.struct (Tryz.prog.fieldsOf 91)):=by kernel_rfl
 have h2:Tryz.prog.stoodInHeld 91=false:=by kernel_rfl
 rw [run_equalIn_agg _ _ _ _ _ h1 h2];have h3:(Tryz.prog.fieldsOf 91).toList.length=5:=by kernel_rfl
 have h4 : ((Tryz.prog.fieldsOf 91).toList.map fun f => (f.type, f.offset, f.name == "_")) = [(2, 0, false), (9, 1, false), (9, 2, false), (2, 3, false), (2, 4, false)] := by kernel_rfl
 generalize (Tryz.prog.fieldsOf 91).toList=fs at *;match fs,h3 with
 | [f0,f1,f2,f3,f4],_ =>
  simp only [List.map_cons,List.map_nil,List.cons.injEq,Prod.mk.injEq,and_true] at h4;obtain ⟨⟨a0,b0,c0⟩,⟨a1,b1,c1⟩,⟨a2,b2,c2⟩,⟨a3,b3,c3⟩,⟨a4,b4,c4⟩⟩:=h4
  have d0 : (f0.name ≠ "_") = True := by simpa using c0
  have q0:∀ W,(part 2 (FlV q).toArray 0).run Tryz.prog W=.ok (iV q.proto) W:=fun W=>by kernel_rfl
  have p0:∀ W,(part 2 (FlV p).toArray 0).run Tryz.prog W=.ok (iV p.proto) W:=fun W=>by kernel_rfl
  have d1 : (f1.name ≠ "_") = True := by simpa using c1
  have q1:∀ W,(part 9 (FlV q).toArray 1).run Tryz.prog W=.ok (.string q.src) W:=fun W=>by kernel_rfl
  have p1:∀ W,(part 9 (FlV p).toArray 1).run Tryz.prog W=.ok (.string p.src) W:=fun W=>by kernel_rfl
  have d2 : (f2.name ≠ "_") = True := by simpa using c2
  have q2:∀ W,(part 9 (FlV q).toArray 2).run Tryz.prog W=.ok (.string q.dst) W:=fun W=>by kernel_rfl
  have p2:∀ W,(part 9 (FlV p).toArray 2).run Tryz.prog W=.ok (.string p.dst) W:=fun W=>by kernel_rfl
  have d3 : (f3.name ≠ "_") = True := by simpa using c3
  have q3:∀ W,(part 2 (FlV q).toArray 3).run Tryz.prog W=.ok (iV q.sp) W:=fun W=>by kernel_rfl
  have p3:∀ W,(part 2 (FlV p).toArray 3).run Tryz.prog W=.ok (iV p.sp) W:=fun W=>by kernel_rfl
  have d4 : (f4.name ≠ "_") = True := by simpa using c4
  have q4:∀ W,(part 2 (FlV q).toArray 4).run Tryz.prog W=.ok (iV q.dp) W:=fun W=>by kernel_rfl
  have p4:∀ W,(part 2 (FlV p).toArray 4).run Tryz.prog W=.ok (iV p.dp) W:=fun W=>by kernel_rfl
  unfold sameFlow;simp only [Op.eqFields,a0,b0,d0,q0,p0,a1,b1,d1,q1,p1,a2,b2,d2,q2,p2,a3,b3,d3,q3,p3,a4,b4,d4,q4,p4,if_true,Sem.run_bind,Sem.run_ite,Sem.run_pure,Result.andThen_ok,run_equalIn_string _ _ _ _ _ Tryz.underlying9,run_equalIn_int _ _ _ _ _ _ _ Tryz.underlying2,run_equalIn_bool' _ _ _ _ _ Tryz.underlying4];generalize (q.proto==p.proto)=g0;generalize (q.src.toList==p.src.toList)=g1;generalize (q.dst.toList==p.dst.toList)=g2;generalize (q.sp==p.sp)=g3;generalize (q.dp==p.dp)=g4
  cases g0
  ·simp
  simp only [Bool.not_true,Bool.false_eq_true,if_false,Bool.true_and]
  cases g1
  ·simp
  simp only [Bool.not_true,Bool.false_eq_true,if_false,Bool.true_and]
  cases g2
  ·simp
  simp only [Bool.not_true,Bool.false_eq_true,if_false,Bool.true_and]
  cases g3
  ·simp
  simp only [Bool.not_true,Bool.false_eq_true,if_false,Bool.true_and]
  cases g4<;>simp
open Go.PlainAid
theorem ofFl_keeps (s d:ByteArray) (p:Int) (t:ByteArray):(ofFl s d p t).proto=p∧(ofFl s d p t).src=s∧(ofFl s d p t).dst=d:=by
 unfold ofFl;split
 ·split<;>exact ⟨rfl,rfl,rfl⟩
 ·exact ⟨rfl,rfl,rfl⟩
theorem sameFlow_of (f:Fl) (t:ByteArray):sameFlow (ofFl f.src f.dst f.proto t) f=(decide ((ofFl f.src f.dst f.proto t).sp=f.sp)&&decide ((ofFl f.src f.dst f.proto t).dp=f.dp)):=by
 obtain ⟨h1,h2,h3⟩:=ofFl_keeps f.src f.dst f.proto t;unfold sameFlow;rw [h1,h2,h3];simp;rfl
theorem ofCode_size {n:Nat} {p:Int} {t:ByteArray} (h:ofCode n p t=0):8≤t.size∧(p=6→20≤t.size):=by
 unfold ofCode at h;split at h
 ·omega
 split at h
 ·omega
 rename_i h1 h2;have h3:shortP p t=false:=by simpa using h2
 unfold shortP at h3;rw [Bool.or_eq_false_iff,decide_eq_false_iff_not] at h3;refine ⟨by omega,fun hp=>?_⟩;have h4:=h3.1;rw [decide_eq_true hp,Bool.true_and,Bool.or_eq_false_iff,Bool.or_eq_false_iff,decide_eq_false_iff_not] at h4;omega
theorem flowOk_parts {f:Fl} (h:flowOk f=true):(f.src.size≤16∧f.dst.size≤16)∧(0≤f.proto∧f.proto≤255)∧((0≤f.sp∧f.sp≤65535)∧(0≤f.dp∧f.dp≤65535)):=by
 unfold flowOk at h;simp only [Bool.and_eq_true] at h;obtain ⟨⟨⟨⟨h1,h2⟩,h3⟩,h4⟩,h5⟩:=h;obtain ⟨a,b⟩:=pairOk_parts h1;refine ⟨by omega,?_,by simpa [isW] using h3,by simpa [isW] using h4⟩;unfold protoOk at h2;simp only [Bool.or_eq_true,Bool.and_eq_true,decide_eq_true_iff] at h2;omega
theorem shortP_six (t:ByteArray):shortP 6 t=(decide (t.size < 20)||(decide (bt t 12 / 16 < 5)||decide ((t.size:Int) < 4*(bt t 12 / 16)))):=by
 unfold shortP;rw [Bool.eq_iff_iff];simp only [decide_true,Bool.true_and,Bool.or_eq_true,decide_eq_true_eq];constructor
 ·rintro (((h | h) | h) | h)
  ·exact .inl h
  ·exact .inr (.inl h)
  ·exact .inr (.inr h)
  ·exact .inl (by omega)
 ·rintro (h | h | h)
  ·exact .inl (.inl (.inl h))
  ·exact .inl (.inl (.inr h))
  ·exact .inl (.inr h)
theorem shortP_not (p:Int) (t:ByteArray) (h:p≠6):shortP p t=decide (t.size < 8):=by
 unfold shortP;rw [decide_eq_false h]; rfl
theorem ipHeader_any (p:Int) (t:ByteArray) (w:World) (ht:t.size≤1048576) :
  Cw 100 #[iV p,.string t] w (.bool (!shortP p t)):=by
 by_cases h6:p=6
 ·subst h6;rw [shortP_six];by_cases h1:t.size < 20
  ·rw [decide_eq_true h1];go_enter Tryz.func100,Tryz.ntmps100
   go_wp2_with fail
   go_ret;exact ⟨rfl,rfl⟩
  ·rw [decide_eq_false h1];have hb:=get_bt t;have b12:=bt_isByte t 12;by_cases h2:bt t 12 / 16 < 5
   ·rw [decide_eq_true h2];have d2:decide ((20:Int)≤4*(bt t 12 / 16))=false:=by simp; omega
    go_enter Tryz.func100,Tryz.ntmps100
    go_wp2_with fail
    go_ret;exact ⟨rfl,rfl⟩
   ·rw [decide_eq_false h2];have d2:decide ((20:Int)≤4*(bt t 12 / 16))=true:=by simp; omega
    have HQ:Hid ((!decide ((t.size:Int) < 4*(bt t 12 / 16)))=decide (4*(bt t 12 / 16)≤(t.size:Int))):=by
     unfold Hid; rw [Bool.eq_iff_iff]; simp
    go_enter Tryz.func100,Tryz.ntmps100
    go_wp2_with fail
    go_ret;exact ⟨ret_bool HQ.out.symm,rfl⟩
 ·rw [shortP_not p t h6];have d6:(p != 6)=true:=by simp [h6]
  have HQ:Hid ((!decide (t.size < 8))=decide ((8:Int)≤(t.size:Int))):=by
   unfold Hid; rw [Bool.eq_iff_iff]; simp; omega
  clear h6;go_enter Tryz.func100,Tryz.ntmps100
  go_wp2_with fail
  go_ret;exact ⟨ret_bool HQ.out.symm,rfl⟩
theorem ipEchoBytes_any (p:Int) (w:World) (hp:echoP p=true) :
  Cw 133 #[iV p] w (.tuple #[.int .u8 (askP p),.int .u8 (ansP p)]):=by
 have h:p=1∨p=58:=by unfold echoP at hp; simpa using hp
 clear hp;rcases h with rfl | rfl
 ·rw [show askP 1=8 from rfl,show ansP 1=0 from rfl];go_enter Tryz.func133,Tryz.ntmps133
  go_wp2_with fail
  go_ret2
  exact ⟨rfl,rfl⟩
 ·rw [show askP 58=128 from rfl,show ansP 58=129 from rfl];go_enter Tryz.func133,Tryz.ntmps133
  go_wp2_with fail
  go_ret2
  exact ⟨rfl,rfl⟩
def beginsV (p:Int) (t:ByteArray):Bool:=(decide (bt t 0=askP p)||decide (bt t 0=ansP p))&&decide (bt t 1=0)
theorem ipBegins_any (p:Int) (t:ByteArray) (w:World) (hp:echoP p=true) (h8:8≤t.size) (ht:t.size≤1048576) :
  Cw 102 #[iV p,.string t] w (.bool (beginsV p t)):=by
 have HE:Hid (∀ W,Cw 133 #[iV p] W (.tuple #[.int .u8 (askP p),.int .u8 (ansP p)])):=fun W=>ipEchoBytes_any p W hp
 have hb:=get_bt t;have b0:=bt_isByte t 0;have b1:=bt_isByte t 1;have q0:(bt t 0==askP p)=decide (bt t 0=askP p):=rfl;have q1:(bt t 0==ansP p)=decide (bt t 0=ansP p):=rfl;have q2:(bt t 1==0)=decide (bt t 1=0):=rfl;unfold beginsV;generalize decide (bt t 0=askP p)=c0 at *;generalize decide (bt t 0=ansP p)=c1 at *;generalize decide (bt t 1=0)=c2 at *;generalize askP p=a at *;generalize ansP p=b at *;have hun:undef=Value.tuple #[]:=rfl
 cases c0
 ·cases c1
  ·go_enter Tryz.func102,Tryz.ntmps102
   go_wp2_with fail
   refine (HE.out _).mono ?_;rintro e w2 ⟨rfl,rfl⟩;go_wp2_with fail
   go_ret;exact ⟨rfl,rfl⟩
  ·go_enter Tryz.func102,Tryz.ntmps102
   go_wp2_with fail
   refine (HE.out _).mono ?_;rintro e w2 ⟨rfl,rfl⟩;go_wp2_with fail
   go_ret;exact ⟨rfl,rfl⟩
 ·go_enter Tryz.func102,Tryz.ntmps102
  go_wp2_with fail
  refine (HE.out _).mono ?_;rintro e w2 ⟨rfl,rfl⟩;go_wp2_with fail
  go_ret;exact ⟨rfl,rfl⟩
theorem ipPorts_any (p:Int) (t:ByteArray) (w:World) (h8:8≤t.size) (ht:t.size≤1048576) :
  Cw 103 #[iV p,.string t] w (.tuple #[iV (if echoP p=true then wordN (bt t) 4 else wordN (bt t) 0),iV (if echoP p=true then wordN (bt t) 4 else wordN (bt t) 2)]):=by
 have HB:Hid (∀ W,Cw 101 #[iV p] W (.bool (echoP p))):=fun W=>implEcho_any _ W
 have HW:Hid (∀ k:Nat,k < 8→∀ W,Cw 134 #[.string t,iV k] W (iV (wordN (bt t) k))):=fun k hk W=>wordFromS_any t k W (by omega) (by unfold maxLen; omega)
 cases h:echoP p with
 | true =>
  rw [h] at HB;rw [if_pos rfl,if_pos rfl];go_enter Tryz.func103,Tryz.ntmps103
  go_wp2_with fail
  refine (HB.out _).mono ?_;rintro e w2 ⟨rfl,rfl⟩;go_wp2_with fail
  refine (HW.out 4 (by omega) _).mono ?_;rintro e w2 ⟨rfl,rfl⟩;go_wp2_with fail
  go_ret2
  exact ⟨rfl,rfl⟩
 | false =>
  rw [h] at HB;rw [if_neg (by decide),if_neg (by decide)];go_enter Tryz.func103,Tryz.ntmps103
  go_wp2_with fail
  refine (HB.out _).mono ?_;rintro e w2 ⟨rfl,rfl⟩;go_wp2_with fail
  refine (HW.out 0 (by omega) _).mono ?_;rintro e w2 ⟨rfl,rfl⟩;go_wp2_with fail
  refine (HW.out 2 (by omega) _).mono ?_;rintro e w2 ⟨rfl,rfl⟩;go_wp2_with fail
  go_ret2
  exact ⟨rfl,rfl⟩
theorem bytesOf_self (s:ByteArray):bytesOf s.size (bt s)=s:=by
 refine ba_ext (bytesOf_size _ _) fun i hi=>?_
 rw [bytesOf_size] at hi;exact bytesOf_bt hi (bt_nonneg s i) (bt_le s i)
theorem implFlowOf_any (s d:ByteArray) (p:Int) (t:ByteArray) (w:World) (hs:s.size≤1048576) (hd:d.size≤1048576) (ht:t.size≤1048576) :
  Cb 60 #[.string s,.string d,iV p,.string t] w (fwCO (flowOfV s d p t) (flowCode s d p t)):=by
 have HN:Hid (∀ c:Int,flowCode s d p t=c→c≠0→fwCO (flowOfV s d p t) (flowCode s d p t)=.agg #[iV 0,.string ⟨#[]⟩,.string ⟨#[]⟩,iV 0,iV 0,iV c]):=fun c h hc=>by unfold flowOfV; rw [h,if_neg hc]; rfl
 have HY:Hid (flowCode s d p t=0→ofCode s.size p t=0→fwCO (flowOfV s d p t) (flowCode s d p t)=.agg #[iV p,.string s,.string d,iV (if echoP p=true then wordN (bt t) 4 else wordN (bt t) 0),iV (if echoP p=true then wordN (bt t) 4 else wordN (bt t) 2),iV 0]):=fun h h2=>by
  unfold flowOfV; rw [h,if_pos rfl]; unfold ofFl; rw [if_pos h2]; split<;>rfl
 have HD:Hid (flowCode s d p t=if 20000 < t.size∨20000 < s.size∨20000 < d.size then 2 else if pairOk s d=false then 1 else ofCode s.size p t):=rfl;have HA1:Hid (∀ W,Cw 97 #[.string s] W (.bool (decide (20000 < s.size)))):=fun W=>implLong_any s W
 have HA2:Hid (∀ W,Cw 97 #[.string d] W (.bool (decide (20000 < d.size)))):=fun W=>implLong_any d W
 have HA3:Hid (∀ W,Cw 97 #[.string t] W (.bool (decide (20000 < t.size)))):=fun W=>implLong_any t W
 have HB:Hid (∀ W,Cw 98 #[.string s,.string d] W (.bool (pairOk s d))):=fun W=>implPair_any _ _ W (by unfold maxLen; omega) (by unfold maxLen; omega)
 have HC:Hid (∀ W,Cw 99 #[iV p,.string s] W (.bool (protoOk p s.size))):=fun W=>implCarried_any _ _ W (by unfold maxLen; omega)
 have HE:Hid (∀ W,Cw 100 #[iV p,.string t] W (.bool (!shortP p t))):=fun W=>ipHeader_any _ _ W ht
 have HF:Hid (∀ W,Cw 101 #[iV p] W (.bool (echoP p))):=fun W=>implEcho_any _ W
 generalize fwCO (flowOfV s d p t) (flowCode s d p t)=ans at *;generalize flowCode s d p t=code at *;by_cases ls:20000 < s.size
 ·have HV:Hid (ans=.agg #[iV 0,.string ⟨#[]⟩,.string ⟨#[]⟩,iV 0,iV 0,iV 2]):=HN.out 2 (by rw [HD.out,if_pos (Or.inr (Or.inl ls))]) (by decide);rw [decide_eq_true ls] at HA1;clear HN HY HD;go_enter Tryz.func60,Tryz.ntmps60
  go_wp2_with fail
  refine (HA1.out _).mono ?_;rintro e w2 ⟨rfl,rfl⟩;go_wp2_with fail
  refine bodyPost_ret (v:=.agg #[iV 0,.string ⟨#[]⟩,.string ⟨#[]⟩,iV 0,iV 0,iV 2]) (by simp [results,Tryz.results60,go_sem]) rfl ⟨by rw [HV.out],?_⟩;exact (Below.refl _ _).alloc (Nat.le_refl _) _
 rw [decide_eq_false ls] at HA1;by_cases ld:20000 < d.size
 ·have HV:Hid (ans=.agg #[iV 0,.string ⟨#[]⟩,.string ⟨#[]⟩,iV 0,iV 0,iV 2]):=HN.out 2 (by rw [HD.out,if_pos (Or.inr (Or.inr ld))]) (by decide);rw [decide_eq_true ld] at HA2;clear HN HY HD;go_enter Tryz.func60,Tryz.ntmps60
  go_wp2_with fail
  refine (HA1.out _).mono ?_;rintro e w2 ⟨rfl,rfl⟩;go_wp2_with fail
  refine (HA2.out _).mono ?_;rintro e w2 ⟨rfl,rfl⟩;go_wp2_with fail
  refine bodyPost_ret (v:=.agg #[iV 0,.string ⟨#[]⟩,.string ⟨#[]⟩,iV 0,iV 0,iV 2]) (by simp [results,Tryz.results60,go_sem]) rfl ⟨by rw [HV.out],?_⟩;exact (Below.refl _ _).alloc (Nat.le_refl _) _
 rw [decide_eq_false ld] at HA2;by_cases lt:20000 < t.size
 ·have HV:Hid (ans=.agg #[iV 0,.string ⟨#[]⟩,.string ⟨#[]⟩,iV 0,iV 0,iV 2]):=HN.out 2 (by rw [HD.out,if_pos (Or.inl lt)]) (by decide);rw [decide_eq_true lt] at HA3;clear HN HY HD;go_enter Tryz.func60,Tryz.ntmps60
  go_wp2_with fail
  refine (HA1.out _).mono ?_;rintro e w2 ⟨rfl,rfl⟩;go_wp2_with fail
  refine (HA2.out _).mono ?_;rintro e w2 ⟨rfl,rfl⟩;go_wp2_with fail
  refine (HA3.out _).mono ?_;rintro e w2 ⟨rfl,rfl⟩;go_wp2_with fail
  refine bodyPost_ret (v:=.agg #[iV 0,.string ⟨#[]⟩,.string ⟨#[]⟩,iV 0,iV 0,iV 2]) (by simp [results,Tryz.results60,go_sem]) rfl ⟨by rw [HV.out],?_⟩;exact (Below.refl _ _).alloc (Nat.le_refl _) _
 rw [decide_eq_false lt] at HA3;replace HD:Hid (code=if pairOk s d=false then 1 else ofCode s.size p t):=by unfold Hid; rw [HD.out,if_neg (by omega)]
 cases a1:pairOk s d with
 | false =>
  have HV:Hid (ans=.agg #[iV 0,.string ⟨#[]⟩,.string ⟨#[]⟩,iV 0,iV 0,iV 1]):=HN.out 1 (by rw [HD.out,if_pos a1]) (by decide);rw [a1] at HB;clear HN HY HD a1;go_enter Tryz.func60,Tryz.ntmps60
  go_wp2_with fail
  refine (HA1.out _).mono ?_;rintro e w2 ⟨rfl,rfl⟩;go_wp2_with fail
  refine (HA2.out _).mono ?_;rintro e w2 ⟨rfl,rfl⟩;go_wp2_with fail
  refine (HA3.out _).mono ?_;rintro e w2 ⟨rfl,rfl⟩;go_wp2_with fail
  refine (HB.out _).mono ?_;rintro e w2 ⟨rfl,rfl⟩;go_wp2_with fail
  refine bodyPost_ret (v:=.agg #[iV 0,.string ⟨#[]⟩,.string ⟨#[]⟩,iV 0,iV 0,iV 1]) (by simp [results,Tryz.results60,go_sem]) rfl ⟨by rw [HV.out],?_⟩;exact (Below.refl _ _).alloc (Nat.le_refl _) _
 | true =>
 replace HD:Hid (code=ofCode s.size p t):=by unfold Hid; rw [HD.out,if_neg (by rw [a1]; decide)]
 rw [a1] at HB;clear a1
 cases a2:protoOk p s.size with
 | false =>
  have HD2:Hid (ofCode s.size p t=11):=by unfold Hid ofCode; rw [if_pos a2]
  have HV:Hid (ans=.agg #[iV 0,.string ⟨#[]⟩,.string ⟨#[]⟩,iV 0,iV 0,iV 11]):=HN.out 11 (by rw [HD.out,HD2.out]) (by decide);rw [a2] at HC;clear HN HY HD HD2 a2;go_enter Tryz.func60,Tryz.ntmps60
  go_wp2_with fail
  refine (HA1.out _).mono ?_;rintro e w2 ⟨rfl,rfl⟩;go_wp2_with fail
  refine (HA2.out _).mono ?_;rintro e w2 ⟨rfl,rfl⟩;go_wp2_with fail
  refine (HA3.out _).mono ?_;rintro e w2 ⟨rfl,rfl⟩;go_wp2_with fail
  refine (HB.out _).mono ?_;rintro e w2 ⟨rfl,rfl⟩;go_wp2_with fail
  refine (HC.out _).mono ?_;rintro e w2 ⟨rfl,rfl⟩;go_wp2_with fail
  refine bodyPost_ret (v:=.agg #[iV 0,.string ⟨#[]⟩,.string ⟨#[]⟩,iV 0,iV 0,iV 11]) (by simp [results,Tryz.results60,go_sem]) rfl ⟨by rw [HV.out],?_⟩;exact (Below.refl _ _).alloc (Nat.le_refl _) _
 | true =>
 have HO:Hid (ofCode s.size p t=if shortP p t=true then 4 else if echoP p=true then (if (bt t 0≠askP p∧bt t 0≠ansP p)∨bt t 1≠0 then 11 else 0) else 0):=by unfold Hid ofCode; rw [if_neg (by rw [a2]; decide)]
 rw [a2] at HC;clear a2
 cases a3:shortP p t with
 | true =>
  have HD2:Hid (ofCode s.size p t=4):=by unfold Hid; rw [HO.out,if_pos a3]
  have HV:Hid (ans=.agg #[iV 0,.string ⟨#[]⟩,.string ⟨#[]⟩,iV 0,iV 0,iV 4]):=HN.out 4 (by rw [HD.out,HD2.out]) (by decide);rw [a3] at HE;clear HN HY HD HD2 HO a3;go_enter Tryz.func60,Tryz.ntmps60
  go_wp2_with fail
  refine (HA1.out _).mono ?_;rintro e w2 ⟨rfl,rfl⟩;go_wp2_with fail
  refine (HA2.out _).mono ?_;rintro e w2 ⟨rfl,rfl⟩;go_wp2_with fail
  refine (HA3.out _).mono ?_;rintro e w2 ⟨rfl,rfl⟩;go_wp2_with fail
  refine (HB.out _).mono ?_;rintro e w2 ⟨rfl,rfl⟩;go_wp2_with fail
  refine (HC.out _).mono ?_;rintro e w2 ⟨rfl,rfl⟩;go_wp2_with fail
  refine (HE.out _).mono ?_;rintro e w2 ⟨rfl,rfl⟩;go_wp2_with fail
  refine bodyPost_ret (v:=.agg #[iV 0,.string ⟨#[]⟩,.string ⟨#[]⟩,iV 0,iV 0,iV 4]) (by simp [results,Tryz.results60,go_sem]) rfl ⟨by rw [HV.out],?_⟩;exact (Below.refl _ _).alloc (Nat.le_refl _) _
 | false =>
 replace HO:Hid (ofCode s.size p t=if echoP p=true then (if (bt t 0≠askP p∧bt t 0≠ansP p)∨bt t 1≠0 then 11 else 0) else 0):=by unfold Hid; rw [HO.out,if_neg (by rw [a3]; decide)]
 have h8:8≤t.size:=by
  unfold shortP at a3; rw [Bool.or_eq_false_iff,decide_eq_false_iff_not] at a3; omega
 rw [a3] at HE;clear a3;have HP:Hid (∀ W,Cw 103 #[iV p,.string t] W (.tuple #[iV (if echoP p=true then wordN (bt t) 4 else wordN (bt t) 0),iV (if echoP p=true then wordN (bt t) 4 else wordN (bt t) 2)])):=fun W=>ipPorts_any p t W h8 ht
 have HG:Hid (echoP p=true→∀ W,Cw 102 #[iV p,.string t] W (.bool (beginsV p t))):=fun h W=>ipBegins_any p t W h h8 ht
 by_cases hbad:echoP p=true∧beginsV p t=false
 ·obtain ⟨a4,a5⟩:=hbad;have HD2:Hid (ofCode s.size p t=11):=by
   unfold Hid; rw [HO.out,if_pos a4,if_pos];unfold beginsV at a5;rw [Bool.and_eq_false_iff,Bool.or_eq_false_iff] at a5;simpa using a5
  have HG2:Hid _:=HG.out a4;rw [a5] at HG2;have HV:Hid (ans=.agg #[iV 0,.string ⟨#[]⟩,.string ⟨#[]⟩,iV 0,iV 0,iV 11]):=HN.out 11 (by rw [HD.out,HD2.out]) (by decide);rw [a4] at HF;clear HN HY HD HD2 HO HG HP a4 a5;go_enter Tryz.func60,Tryz.ntmps60
  go_wp2_with fail
  refine (HA1.out _).mono ?_;rintro e w2 ⟨rfl,rfl⟩;go_wp2_with fail
  refine (HA2.out _).mono ?_;rintro e w2 ⟨rfl,rfl⟩;go_wp2_with fail
  refine (HA3.out _).mono ?_;rintro e w2 ⟨rfl,rfl⟩;go_wp2_with fail
  refine (HB.out _).mono ?_;rintro e w2 ⟨rfl,rfl⟩;go_wp2_with fail
  refine (HC.out _).mono ?_;rintro e w2 ⟨rfl,rfl⟩;go_wp2_with fail
  refine (HE.out _).mono ?_;rintro e w2 ⟨rfl,rfl⟩;go_wp2_with fail
  refine (HF.out _).mono ?_;rintro e w2 ⟨rfl,rfl⟩;go_wp2_with fail
  refine (HG2.out _).mono ?_;rintro e w2 ⟨rfl,rfl⟩;go_wp2_with fail
  refine bodyPost_ret (v:=.agg #[iV 0,.string ⟨#[]⟩,.string ⟨#[]⟩,iV 0,iV 0,iV 11]) (by simp [results,Tryz.results60,go_sem]) rfl ⟨by rw [HV.out],?_⟩;exact (Below.refl _ _).alloc (Nat.le_refl _) _
 have HD2:Hid (ofCode s.size p t=0):=by
  unfold Hid; rw [HO.out];by_cases a4:echoP p=true
  ·rw [if_pos a4,if_neg];have a5:beginsV p t=true:=by
    cases h:beginsV p t
    ·exact absurd ⟨a4,h⟩ hbad
    ·rfl
   unfold beginsV at a5;rw [Bool.and_eq_true,Bool.or_eq_true] at a5;simp only [decide_eq_true_eq] at a5;omega
  ·rw [if_neg a4]
 have HV:Hid _:=HY.out (HD.out.trans HD2.out) HD2.out;have HG2:Hid (echoP p=true→beginsV p t=true):=fun h=>by
  cases h2:beginsV p t
  ·exact absurd ⟨h,h2⟩ hbad
  ·rfl
 clear HN HY HD HD2 HO hbad;have GR:Hid (Below w.heap.size w (w.alloc (.cells #[iV 0,.string ⟨#[]⟩,.string ⟨#[]⟩,iV 0,iV 0,iV 0] 109))):=(Below.refl _ _).alloc (Nat.le_refl _) _;have KR:Hid (BoxO w.heap.size (w.alloc (.cells #[iV 0,.string ⟨#[]⟩,.string ⟨#[]⟩,iV 0,iV 0,iV 0] 109)) ⟨0,⟨#[]⟩,⟨#[]⟩,0,0⟩ 0):=BoxO.new w ⟨0,⟨#[]⟩,⟨#[]⟩,0,0⟩ 0;obtain ⟨cp1,W1,hcv1,hh1,hb1,_⟩:=bytes_new (w.alloc (.cells #[iV 0,.string ⟨#[]⟩,.string ⟨#[]⟩,iV 0,iV 0,iV 0] 109)) s;have hcw1:=hh1.conv (cap:=cp1) (bt_isByte s)
 rw [bytesOf_self] at hcw1;rw [show (w.alloc (.cells #[iV 0,.string ⟨#[]⟩,.string ⟨#[]⟩,iV 0,iV 0,iV 0] 109)).heap.size=w.heap.size+1 by simp] at hcv1 hcw1;obtain ⟨cp2,W2,hcv2,hh2,hb2,_⟩:=bytes_new W1 d;have hcw2:=hh2.conv (cap:=cp2) (bt_isByte d)
 rw [bytesOf_self] at hcw2;have G2:Hid (Below w.heap.size w W2):=(GR.out.trans (hb1.mono GR.out.size)).trans (hb2.mono (Nat.le_trans GR.out.size hb1.size));have R2:Hid (BoxO w.heap.size W2 ⟨0,⟨#[]⟩,⟨#[]⟩,0,0⟩ 0):=(KR.out.kept hb1).kept hb2;clear hh1 hh2 hb1 hb2 GR KR;generalize (if echoP p=true then wordN (bt t) 4 else wordN (bt t) 0)=x at *;generalize (if echoP p=true then wordN (bt t) 4 else wordN (bt t) 2)=y at *;have hlt:=World.block_lt_of_cell? W2 _ R2.out.c0;have fin:∀ q:Bool,echoP p=q→Calls Tryz.prog 60 #[.string s,.string d,iV p,.string t] w fun e w'=>e=.returned ans∧Below w.heap.size w w':=by
  intro q hq;rw [hq] at HF
  cases q with
  | true =>
   have HG3:Hid _:=HG.out hq;rw [HG2.out hq] at HG3;clear HG HG2 hq;go_enter Tryz.func60,Tryz.ntmps60
   go_wp2_with fail
   refine (HA1.out _).mono ?_;rintro e w2 ⟨rfl,rfl⟩;go_wp2_with fail
   refine (HA2.out _).mono ?_;rintro e w2 ⟨rfl,rfl⟩;go_wp2_with fail
   refine (HA3.out _).mono ?_;rintro e w2 ⟨rfl,rfl⟩;go_wp2_with fail
   refine (HB.out _).mono ?_;rintro e w2 ⟨rfl,rfl⟩;go_wp2_with fail
   refine (HC.out _).mono ?_;rintro e w2 ⟨rfl,rfl⟩;go_wp2_with fail
   refine (HE.out _).mono ?_;rintro e w2 ⟨rfl,rfl⟩;go_wp2_with fail
   refine (HF.out _).mono ?_;rintro e w2 ⟨rfl,rfl⟩;go_wp2_with fail
   refine (HG3.out _).mono ?_;rintro e w2 ⟨rfl,rfl⟩;go_wp2_with fail
   refine (HP.out _).mono ?_;rintro e w2 ⟨rfl,rfl⟩;obtain ⟨k0,y0,k1,y1,k2,y2,k3,y3,k4,y4,k5,y5⟩:=R2.out;dsimp only at k0 k1 k2 k3 k4 k5;go_wp2_with fail
   have hne:w.heap.size≠W2.heap.size:=by omega
   refine bodyPost_ret (v:=.agg #[iV p,.string s,.string d,iV x,iV y,iV 0]) (by simp [results,Tryz.results60,go_sem,k0,k1,k2,k3,k4,k5,hlt,hne]) rfl ⟨by rw [HV.out],?_⟩;have hz:=G2.out.size;exact ((((((G2.out.setCell (Nat.le_refl _) _).setCell (Nat.le_refl _) _).setCell (Nat.le_refl _) _).setCell (Nat.le_refl _) _).setCell (Nat.le_refl _) _).setCell (Nat.le_refl _) _).alloc (by simp; omega) _
  | false =>
   clear HG HG2 hq;go_enter Tryz.func60,Tryz.ntmps60
   go_wp2_with fail
   refine (HA1.out _).mono ?_;rintro e w2 ⟨rfl,rfl⟩;go_wp2_with fail
   refine (HA2.out _).mono ?_;rintro e w2 ⟨rfl,rfl⟩;go_wp2_with fail
   refine (HA3.out _).mono ?_;rintro e w2 ⟨rfl,rfl⟩;go_wp2_with fail
   refine (HB.out _).mono ?_;rintro e w2 ⟨rfl,rfl⟩;go_wp2_with fail
   refine (HC.out _).mono ?_;rintro e w2 ⟨rfl,rfl⟩;go_wp2_with fail
   refine (HE.out _).mono ?_;rintro e w2 ⟨rfl,rfl⟩;go_wp2_with fail
   refine (HF.out _).mono ?_;rintro e w2 ⟨rfl,rfl⟩;go_wp2_with fail
   refine (HP.out _).mono ?_;rintro e w2 ⟨rfl,rfl⟩;obtain ⟨k0,y0,k1,y1,k2,y2,k3,y3,k4,y4,k5,y5⟩:=R2.out;dsimp only at k0 k1 k2 k3 k4 k5;go_wp2_with fail
   have hne:w.heap.size≠W2.heap.size:=by omega
   refine bodyPost_ret (v:=.agg #[iV p,.string s,.string d,iV x,iV y,iV 0]) (by simp [results,Tryz.results60,go_sem,k0,k1,k2,k3,k4,k5,hlt,hne]) rfl ⟨by rw [HV.out],?_⟩;have hz:=G2.out.size;exact ((((((G2.out.setCell (Nat.le_refl _) _).setCell (Nat.le_refl _) _).setCell (Nat.le_refl _) _).setCell (Nat.le_refl _) _).setCell (Nat.le_refl _) _).setCell (Nat.le_refl _) _).alloc (by simp; omega) _
 exact fin _ rfl
theorem sumN_app {f:Nat→Int} (K:Nat):∀ m,∃ z,sumN f (K+m)=sumN f K+sumN (fun i=>f (2*K+i)) m+65535*z
 | 0=>⟨0,by simp [sumN]⟩
 | m+1=>by
  obtain ⟨z,e⟩:=sumN_app (f:=f) K m;obtain ⟨z1,e1⟩:=add1_mod (sumN f (K+m)) (wordN f (2*(K+m)));obtain ⟨z2,e2⟩:=add1_mod (sumN (fun i=>f (2*K+i)) m) (wordN (fun i=>f (2*K+i)) (2*m));have ew:wordN (fun i=>f (2*K+i)) (2*m)=wordN f (2*(K+m)):=by
   unfold wordN;show f (2*K+2*m)*256+f (2*K+(2*m+1))=_;rw [show 2*K+2*m=2*(K+m) by omega,show 2*K+(2*m+1)=2*(K+m)+1 by omega]
  refine ⟨z+z1-z2,?_⟩;show add1 (sumN f (K+m)) (wordN f (2*(K+m)))=sumN f K+add1 (sumN (fun i=>f (2*K+i)) m) (wordN (fun i=>f (2*K+i)) (2*m))+65535*(z+z1-z2);rw [ew] at e2 ⊢;rw [e1,e2,e]; omega
theorem sumV_app {a b:ByteArray} {K:Nat} (ha:a.size=2*K):∃ z,sumV (a++b)=sumV a+sumV b+65535*z:=by
 obtain ⟨z,e⟩:=sumN_app (f:=bt (a++b)) K ((b.size+1) / 2);have e1:sumV (a++b)=sumN (bt (a++b)) (K+(b.size+1) / 2):=by unfold sumV; rw [ByteArray.size_append,ha,show (2*K+b.size+1) / 2=K+(b.size+1) / 2 by omega]
 have e2:sumN (bt (a++b)) K=sumV a:=by
  unfold sumV; rw [ha,show (2*K+1) / 2=K by omega];exact sumN_congr K (fun i hi=>by rw [bt_append,if_pos (by omega)])
 have e3:sumN (fun i=>bt (a++b) (2*K+i)) ((b.size+1) / 2)=sumV b:=by
  unfold sumV;refine sumN_congr _ (fun i hi=>?_);show bt (a++b) (2*K+i)=bt b i;rw [bt_append,if_neg (by omega),ha,show 2*K+i-2*K=i by omega]
 exact ⟨z,by rw [e1,e,e2,e3]⟩
def turn1 (c o n:Int):Int:=65535-add1 (add1 (65535-c) (65535-o)) n
theorem turn1_range {c o n:Int} (hc:0≤c∧c≤65535) (ho:0≤o∧o≤65535) (hn:0≤n∧n≤65535):0≤turn1 c o n∧turn1 c o n≤65535:=by
 unfold turn1;have h1:=add1_range (a:=65535-c) (b:=65535-o) (by omega) (by omega) (by omega) (by omega);have h2:=add1_range h1.1 h1.2 hn.1 hn.2;omega
theorem turn1_mod (c o n:Int):∃ z,turn1 c o n=c+o-n+65535*z:=by
 unfold turn1;obtain ⟨z1,e1⟩:=add1_mod (65535-c) (65535-o);obtain ⟨z2,e2⟩:=add1_mod (add1 (65535-c) (65535-o)) n;exact ⟨-1-z1-z2,by rw [e2,e1]; omega⟩
theorem turnV_of {c o n:Int} (hc:0≤c∧c≤65535) (ho:0≤o∧o≤65535) (hn:0≤n∧n≤65535):sumTurnV c o n=turn1 c o n:=by
 unfold sumTurnV turn1; rw [if_pos ⟨hc,ho,hn⟩]
def setPartV (p:Int) (t:ByteArray):ByteArray:=if echoP p=true then t.extract 0 2++t.extract 4 6 else t.extract 0 4
theorem setPartV_size (p:Int) {t:ByteArray} (h:8≤t.size):(setPartV p t).size=4:=by
 unfold setPartV;split
 ·rw [ByteArray.size_append,ByteArray.size_extract,ByteArray.size_extract]; omega
 ·rw [ByteArray.size_extract]; omega
def checkI (f g:Fl) (t u:ByteArray):Int :=
 let c:=turn1 (turn1 (wordN (bt t) (checkP f.proto)) (sumV (setPartV f.proto t)) (sumV (setPartV g.proto u))) (sumV (pseudoV f.src f.dst f.proto t.size)) (sumV (pseudoV g.src g.dst g.proto u.size))
 if c=0 then 65535 else c
theorem checkI_eq (f g:Fl) (t:ByteArray) (h8:8≤t.size) (h8':8≤(setOut f g t).size):checkI f g t (setOut f g t)=newCheck f g t:=by
 unfold checkI newCheck;obtain ⟨z1,e1⟩:=sumV_app (a:=setPartV f.proto t) (b:=pseudoV f.src f.dst f.proto t.size) (K:=2) (setPartV_size _ h8);obtain ⟨z2,e2⟩:=sumV_app (a:=setPartV g.proto (setOut f g t)) (b:=pseudoV g.src g.dst g.proto (setOut f g t).size) (K:=2) (setPartV_size _ h8');have p1:partV f t=setPartV f.proto t++pseudoV f.src f.dst f.proto t.size:=rfl;have p2:partV g (setOut f g t)=setPartV g.proto (setOut f g t)++pseudoV g.src g.dst g.proto (setOut f g t).size:=rfl;rw [p1,p2];have rc:=wordN_range (bt_isByte t) (checkP f.proto);have r1:=sumV_range (setPartV f.proto t);have r2:=sumV_range (setPartV g.proto (setOut f g t));have r3:=sumV_range (pseudoV f.src f.dst f.proto t.size);have r4:=sumV_range (pseudoV g.src g.dst g.proto (setOut f g t).size);have r5:=sumV_range (setPartV f.proto t++pseudoV f.src f.dst f.proto t.size);have r6:=sumV_range (setPartV g.proto (setOut f g t)++pseudoV g.src g.dst g.proto (setOut f g t).size);generalize sumV (setPartV f.proto t++pseudoV f.src f.dst f.proto t.size)=o at *;generalize sumV (setPartV g.proto (setOut f g t)++pseudoV g.src g.dst g.proto (setOut f g t).size)=n at *;generalize sumV (setPartV f.proto t)=o1 at *;generalize sumV (setPartV g.proto (setOut f g t))=n1 at *;generalize sumV (pseudoV f.src f.dst f.proto t.size)=o2 at *;generalize sumV (pseudoV g.src g.dst g.proto (setOut f g t).size)=n2 at *;generalize wordN (bt t) (checkP f.proto)=c at *;have q1:=turn1_range rc r1 r2;have q2:=turn1_range q1 r3 r4;have q3:=turn1_range rc r5 r6;obtain ⟨y1,d1⟩:=turn1_mod c o1 n1;obtain ⟨y2,d2⟩:=turn1_mod (turn1 c o1 n1) o2 n2;obtain ⟨y3,d3⟩:=turn1_mod c o n;show (if turn1 (turn1 c o1 n1) o2 n2=0 then (65535:Int) else turn1 (turn1 c o1 n1) o2 n2)=if turn1 c o n=0 then 65535 else turn1 c o n;generalize turn1 (turn1 c o1 n1) o2 n2=a at *;generalize turn1 c o1 n1=b at *;generalize turn1 c o n=e at *;split<;>split<;>omega
theorem newCheck_range (f g:Fl) (t:ByteArray):0≤newCheck f g t∧newCheck f g t≤65535:=by
 unfold newCheck;have rc:=wordN_range (bt_isByte t) (checkP f.proto);have r1:=sumV_range (partV f t);have r2:=sumV_range (partV g (setOut f g t));have q:=turn1_range rc r1 r2;unfold turn1 at q;dsimp only;split<;>omega
theorem bt_put {t u:ByteArray} {k:Nat} (h:k+u.size≤t.size) (i:Nat):bt (putV t k u) i=if i < k then bt t i else if i < k+u.size then bt u (i-k) else bt t i:=by
 unfold putV;have s1:(t.extract 0 k).size=k:=by rw [ByteArray.size_extract]; omega
 rw [bt_append,bt_append,ByteArray.size_append,s1];by_cases h1:i < k
 ·rw [if_pos (by omega),if_pos h1,if_pos h1,bt_extract _ _ _ _ (by omega),if_pos (by omega),Nat.zero_add]
 ·by_cases h2:i < k+u.size
  ·rw [if_pos h2,if_neg h1,if_neg h1,if_pos h2]
  ·rw [if_neg h2,if_neg h1,if_neg h2,bt_extract _ _ _ _ (Nat.le_refl _)];by_cases h3:i < t.size
   ·rw [if_pos (by omega),show k+u.size+(i-(k+u.size))=i by omega]
   ·rw [if_neg (by omega)];unfold bt; rw [dif_neg (by omega)]
def layV (p:Int) (g:Fl) (t:ByteArray):ByteArray :=
 if echoP g.proto=true then putV (putV t 4 (twoV g.sp)) 0 (oneV (if bt t 0=askP p then askP g.proto else ansP g.proto)) else putV t 0 (twoV g.sp++twoV g.dp)
theorem oneV_size (x:Int):(oneV x).size=1:=rfl
theorem put_swap {t u v:ByteArray} (hu:u.size=2) (hv:v.size=1) (ht:8≤t.size):putV (putV t 4 u) 0 v=putV (putV t 0 v) 4 u:=by
 have s1:=putV_size (t:=t) (u:=u) (k:=4) (by omega);have s2:=putV_size (t:=t) (u:=v) (k:=0) (by omega);refine ba_ext ?_ (fun i hi=>?_)
 ·have a1:=putV_size (t:=putV t 4 u) (u:=v) (k:=0) (by omega);have a2:=putV_size (t:=putV t 0 v) (u:=u) (k:=4) (by omega);omega
 ·rw [bt_put (by omega),bt_put (by omega),bt_put (by omega),bt_put (by omega),hu,hv];(repeat' split)<;>first | rfl | (exfalso; omega)
theorem first_same {f g:Fl} {t:ByteArray} (hf:echoP f.proto=true) (hg:echoP g.proto=true) (hb:bt t 0=askP f.proto∨bt t 0=ansP f.proto):(if bt t 0=askP f.proto then askP g.proto else ansP g.proto)=firstV8 f g t:=by
 unfold echoP at hf hg;simp only [Bool.or_eq_true,decide_eq_true_iff] at hf hg;unfold firstV8;rcases hf with hf | hf<;>rcases hg with hg | hg<;>rw [hf] at hb ⊢<;>rw [hg]<;>rcases hb with hb | hb<;>rw [hb]<;>decide
theorem setIn_parts {f g:Fl} {t:ByteArray} (h:setIn f g t=true):flowOk f=true∧flowOk g=true∧(f.proto=g.proto∨echoP f.proto=true∧echoP g.proto=true)∧ofCode f.src.size f.proto t=0:=by
 unfold setIn at h;simp only [Bool.and_eq_true,decide_eq_true_iff,Bool.or_eq_true] at h;exact ⟨h.1.1.1.1.1,h.1.1.1.1.2,h.1.1.1.2,h.1.1.2⟩
theorem begins_of {n:Nat} {p:Int} {t:ByteArray} (h:ofCode n p t=0) (he:echoP p=true):bt t 0=askP p∨bt t 0=ansP p:=by
 unfold ofCode at h;by_cases h1:protoOk p n=false
 ·rw [if_pos h1] at h; simp at h
 rw [if_neg h1] at h;by_cases h2:shortP p t=true
 ·rw [if_pos h2] at h; simp at h
 rw [if_neg h2,if_pos he] at h;by_cases h3:(bt t 0≠askP p∧bt t 0≠ansP p)∨bt t 1≠0
 ·rw [if_pos h3] at h; simp at h
 ·by_cases h4:bt t 0=askP p
  ·exact .inl h4
  ·refine .inr (Classical.byContradiction fun h5=>h3 (.inl ⟨h4,h5⟩))
theorem lay_set {f g:Fl} {t:ByteArray} (h:setIn f g t=true):layV f.proto g t=setOut f g t:=by
 obtain ⟨h1,h2,h3,h4⟩:=setIn_parts h;have h8:=(ofCode_size h4).1;have he:echoP g.proto=echoP f.proto:=by
  rcases h3 with h3 | h3
  ·rw [h3]
  ·rw [h3.1,h3.2]
 unfold layV setOut;rw [he];by_cases hf:echoP f.proto=true
 ·rw [if_pos hf,if_pos hf,first_same hf (he.trans hf) (begins_of h4 hf)];exact put_swap (twoV_size _) (oneV_size _) h8
 ·rw [if_neg hf,if_neg hf]
theorem setOut_size {f g:Fl} {t:ByteArray} (h8:8≤t.size):(setOut f g t).size=t.size:=by
 unfold setOut;split
 ·rw [putV_size,putV_size]
  ·rw [oneV_size]; omega
  ·rw [putV_size,twoV_size]
   ·omega
   ·rw [oneV_size]; omega
 ·rw [putV_size];rw [ByteArray.size_append,twoV_size,twoV_size]; omega
theorem setIn_prog {f g:Fl} {t:ByteArray} (ht:t.size≤20000):setIn f g t=((decide (flowCode f.src f.dst f.proto t=0)&&sameFlow (flowOfV f.src f.dst f.proto t) f)&&(flowOk g&&(decide (f.proto=g.proto)||(echoP f.proto&&echoP g.proto)))):=by
 unfold setIn;by_cases hc:flowCode f.src f.dst f.proto t=0
 ·have hfo:flowOfV f.src f.dst f.proto t=ofFl f.src f.dst f.proto t:=by unfold flowOfV; rw [if_pos hc]
  rw [decide_eq_true hc,hfo,sameFlow_of];have hc2:=hc;unfold flowCode at hc2;by_cases h1:20000 < t.size∨20000 < f.src.size∨20000 < f.dst.size
  ·rw [if_pos h1] at hc2; simp at hc2
  rw [if_neg h1] at hc2;by_cases h2:pairOk f.src f.dst=false
  ·rw [if_pos h2] at hc2; simp at hc2
  rw [if_neg h2] at hc2;have h2':pairOk f.src f.dst=true:=by simpa using h2
  have hpo:protoOk f.proto f.src.size=true:=by
   unfold ofCode at hc2;by_cases h3:protoOk f.proto f.src.size=false
   ·rw [if_pos h3] at hc2; simp at hc2
   ·simpa using h3
  by_cases h4:(ofFl f.src f.dst f.proto t).sp=f.sp
  ·by_cases h5:(ofFl f.src f.dst f.proto t).dp=f.dp
   ·have hfk:flowOk f=true:=by
     unfold flowOk;unfold ofFl at h4 h5;rw [if_pos hc2] at h4 h5;have w0:=wordN_range (bt_isByte t) 0;have w2:=wordN_range (bt_isByte t) 2;have w4:=wordN_range (bt_isByte t) 4;by_cases he:echoP f.proto=true
     ·rw [if_pos he] at h4 h5;dsimp only at h4 h5;rw [h2',hpo,he,← h4,← h5,isW_yes w4.1 w4.2]; simp
     ·rw [if_neg he] at h4 h5;dsimp only at h4 h5;rw [h2',hpo,← h4,← h5,isW_yes w0.1 w0.2,isW_yes w2.1 w2.2]; simp [he]
    simp [hfk,hc2,h4,h5,Bool.and_assoc]
   ·simp [h5]
  ·simp [h4]
 ·rw [decide_eq_false hc,Bool.false_and,Bool.false_and];by_cases hf:flowOk f=true
  ·have hp:pairOk f.src f.dst=true:=by unfold flowOk at hf; simp only [Bool.and_eq_true] at hf; exact hf.1.1.1.1
   obtain ⟨hs,hd⟩:=pairOk_parts hp;have:ofCode f.src.size f.proto t≠0:=fun h0=>hc (by
    unfold flowCode;rw [if_neg (by omega),if_neg (by rw [hp]; simp)]; exact h0)
   simp [this]
  ·simp [hf]
def lacksV (f:Fl) (t:ByteArray):Bool:=decide (f.proto=17)&&decide (wordN (bt t) 6=0)
theorem bare_lacks (f:Fl) (t:ByteArray):bareUdp f t=(lacksV f t&&decide (f.src.size=4)):=by
 unfold bareUdp lacksV;by_cases h:f.proto=17
 ·rw [h]; rfl
 ·simp [h]
end Go.Proofs.YtcckaeppiamebaaGreatDoor
