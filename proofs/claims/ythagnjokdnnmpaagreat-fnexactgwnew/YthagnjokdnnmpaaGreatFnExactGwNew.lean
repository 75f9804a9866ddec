/- At every list of routes, pool, prefix and number the program's GwNew answers as the specification's, its answer owns its memory, and nothing that was there is written: the law FnExactGwNew returns true. No condition. -/
import Derived.Test.YthagnjokdnnmpaaGreatRows
import Derived.Test.YthagnjokdnnmpaaGreatGwNewW
import Derived.WalkKit
import Derived.ProofKit
import Derived.OpenShut
import Derived.ShutString
import Derived.ChangeOld
import Derived.Below
import Derived.Lib.SmallJoins
set_option linter.unusedVariables false
set_option linter.unusedSimpArgs false
set_option maxRecDepth 100000
set_option maxHeartbeats 8000000
namespace Go.Proofs.YthagnjokdnnmpaaGreat.fnExactGwNew
open Go.ChangeShapes Go.WideShapes Go.ChangeAt Go.RowKit Go.Joins
open Go.ChangeMaps (open_string shut_string)
theorem own:ownKnob Tryz.prog.godebug=none:=by kernel_rfl
theorem laidOut:laidOutB Tryz.prog=true:=by kernel_rfl
theorem walk (a0:Option Addr) (cap0:Nat) (r0:List Rt) (a1:Option Addr) (cap1:Nat) (p1:Pl) (a2:ByteArray) (b2:Int) (a3:Int) (w:World) (w0:RtsWf r0) (x0:RtsIs w a0 r0) (w1:PlWf p1) (x1:SlIs strL1 1 w a1 p1.addrs) (w2:a2.size≤maxLen) (x2:(Lit.int .i64 b2).wf=true) (w3:(Lit.int .i64 a3).wf=true) :
  Calls Tryz.prog 4 #[.slice a0 r0.length cap0,plC a1 cap1 p1,.agg #[.string a2,.int .i64 b2],.int .i64 a3] w fun e w'=>e=.returned (.bool true)∧Below w.heap.size w w':=by
 exact gwNewWalk a0 cap0 r0 a1 cap1 p1 a2 b2 a3 w w0 x0 w1 x1 w2 x2
theorem lifted (os:Os) (started:os.Started) (H:Type) (enc:TypeId × Value→H) :
  ReturnsInHanded {} Tryz.checked os 4 .any (Rows.fnExactGwNewSpec.pre6 enc Tryz.prog Tryz.f4 Rows.fnExactGwNewRow.domain false) (Rows.fnExactGwNewSpec.post enc Tryz.prog Tryz.f4 false true false false):=by
 refine returnsInHanded_of_change (C:=Tryz.checked) own started (by kernel_rfl) Tryz.func4
  (ChangeSpec.witness6 (enc:=enc) (C:=Tryz.checked) false ⟨#[],#[.slice none 0 0,.agg #[.slice none 0 0,.int .i64 0,.int .i64 0,.int .i64 0,.int .i64 0,.int .i64 0,.int .i64 0,.int .i64 0,.int .i64 0,.int .i64 0],.agg #[.string ByteArray.empty,.int .i64 0],.int .i64 0],[]⟩ 8 (by kernel_rfl) (by kernel_rfl) (by kernel_rfl) (by kernel_rfl)) ?_
 intro W base args ds gs before hval0 hW hcnd _;have hval:∀ (j:Nat) t v,Tryz.f4.params[j]?=some t→args[j]?=some v→Value.okWide Tryz.prog W .any base t v:=hval0;have hW':=hW;obtain ⟨p,q,hA0,hV,rfl,hfz,hnd⟩:=hW;have hA:DataW.TrodAll enc Tryz.prog W 0 (fun _=>true) true Tryz.f4.params.toList args.toList ds p:=hA0;rw [Tryz.params4] at hA hval;obtain ⟨v0,vs0,d0,ds0,p0,q0,hargs,rfl,rfl,h0,r0⟩:=trodAll_cons hA;obtain ⟨v1,vs1,d1,ds1,p1,q1,rfl,rfl,rfl,h1,r1⟩:=trodAll_cons r0;obtain ⟨v2,vs2,d2,ds2,p2,q2,rfl,rfl,rfl,h2,r2⟩:=trodAll_cons r1;obtain ⟨v3,vs3,d3,ds3,p3,q3,rfl,rfl,rfl,h3,r3⟩:=trodAll_cons r2;obtain ⟨rfl,rfl,rfl⟩:=trodAll_nil r3;obtain rfl:args=#[v0,v1,v2,v3]:=by cases args; simp_all
 obtain ⟨rfl,rfl⟩:=trodVars_none hV;obtain ⟨a0,len0,cap0,rfl⟩:=okWide_slice Tryz.underlying45 (hval 0 45 v0 rfl rfl);have k0:=h0;have lt0:∀ x∈p0,x.block < W.heap.size:=by obtain ⟨m,hm⟩:=k0; exact DataW.trod_lt m _ _ _ hm
 obtain ⟨rs0,rfl,w0,x0⟩ : ∃ rs:List Rt,rs.length=len0∧RtsWf rs∧RtsIs W a0 rs:=by
  obtain ⟨fuel,hf⟩:=h0;exact open_routes hf
 have k1:=h1;have lt1:∀ x∈p1,x.block < W.heap.size:=by obtain ⟨m,hm⟩:=k1; exact DataW.trod_lt m _ _ _ hm
 obtain ⟨a1,cap1,pl1,rfl,w1,x1⟩:=open_Pool (hval 1 48 v1 rfl rfl) h1;have k2:=h2;have lt2:∀ x∈p2,x.block < W.heap.size:=by obtain ⟨m,hm⟩:=k2; exact DataW.trod_lt m _ _ _ hm
 obtain ⟨c2,e2,y2,z2,m2,rfl,rfl,rfl,hy2,hz2⟩:=open_agg2 Tryz.underlying49 (by kernel_rfl) (by kernel_rfl) (hval 2 49 v2 rfl rfl) h2;obtain ⟨a2,ey2,rfl,w2⟩:=DataW.trod_string Tryz.underlying9 hy2;obtain ⟨b2,ez2,rfl,x2⟩:=DataW.trod_int Tryz.underlying2 hz2;simp only [List.cons.injEq,and_true] at ey2 ez2;subst ey2 ez2;obtain ⟨a3,rfl,rfl,rfl,w3⟩:=open_int Tryz.underlying2 (hval 3 2 v3 rfl rfl) h3;clear hA0 hval0;refine (walk a0 cap0 rs0 a1 cap1 pl1 a2 b2 a3 W w0 x0 w1 x1 w2 x2 w3).mono fun e W' ⟨he,hg⟩=>?_
 subst he;exact ⟨_,rfl,_,_,_,[],_,[],hW',(trodAll_cons_mk (shut_bool Tryz.underlying4 _) trodAll_mk0),(trodAll_cons_mk (Below.trod laidOut (by kernel_rfl) (of_decide_eq_true (by kernel_rfl)) k0 hg lt0) (trodAll_cons_mk (Below.trod laidOut (by kernel_rfl) (of_decide_eq_true (by kernel_rfl)) k1 hg lt1) (trodAll_cons_mk (Below.trod laidOut (by kernel_rfl) (of_decide_eq_true (by kernel_rfl)) k2 hg lt2) (trodAll_cons_mk (shut_int Tryz.underlying2 w3) trodAll_mk0)))),rfl,hg.frame _,fun h=>by cases h⟩
theorem over:Rows.fnExactGwNewRow.holds Tryz.pinned (OpenSpec.ofChange Rows.fnExactGwNewSpec) :=
 OpenClaim.holds_of_wide 4 Tryz.f4 rfl rfl rfl rfl rfl rfl rfl ⟨rfl,rfl,rfl,rfl,rfl⟩ rfl rfl rfl rfl rfl (by kernel_rfl) Tryz.func4 (by kernel_rfl)
  (of_decide_eq_true (by kernel_rfl)) (by unfold Func.isWrapper; first | (rw [if_pos (by decide +kernel)]; kernel_rfl) | (rw [if_neg (by decide +kernel)]; exact ⟨rfl,rfl⟩))
  (fun os started H enc _=>lifted os started H enc)
end Go.Proofs.YthagnjokdnnmpaaGreat.fnExactGwNew
namespace Go.Proofs.YthagnjokdnnmpaaGreat
theorem fnExactGwNew_holds:Rows.FnExactGwNewSaid:=fnExactGwNew.over
#print axioms fnExactGwNew_holds
end Go.Proofs.YthagnjokdnnmpaaGreat
