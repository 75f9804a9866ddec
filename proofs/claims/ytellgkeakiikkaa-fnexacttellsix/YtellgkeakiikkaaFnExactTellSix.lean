/- At every text, packet and three numbers the program's TellSix answers as the specification's, field by field: the law FnExactTellSix returns true, and writes nothing that was there. No condition. -/
import Derived.Test.YtellgkeakiikkaaRows
import Derived.Test.YtellgkeakiikkaaSTell6
import Derived.Test.YtellgkeakiikkaaITell6
import Derived.Test.YtellgkeakiikkaaLawV6
import Derived.WalkKit
import Derived.ProofKit
import Derived.OpenShut
import Derived.ShutString
import Derived.ChangeOld
import Derived.Below
import Derived.Lib.SmallJoins
set_option linter.unusedVariables false
set_option linter.unusedSimpArgs false
set_option maxRecDepth 100000
set_option maxHeartbeats 8000000
namespace Go.Proofs.Ytellgkeakiikkaa.fnExactTellSix
open Go.ChangeShapes Go.WideShapes Go.ChangeAt Go.RowKit Go.Joins
open Go.ChangeMaps (open_string shut_string)
theorem own:ownKnob Try.prog.godebug=none:=by kernel_rfl
theorem laidOut:laidOutB Try.prog=true:=by kernel_rfl
theorem walk (a0:ByteArray) (p1:P6) (a2:Int) (a3:Int) (a4:Int) (w:World) (w0:a0.size≤maxLen) (w1:P6Wf p1) (w2:(Lit.int .i64 a2).wf=true) (w3:(Lit.int .i64 a3).wf=true) (w4:(Lit.int .i64 a4).wf=true) :
  Calls Try.prog 8 #[.string a0,p6C p1,.int .i64 a2,.int .i64 a3,.int .i64 a4] w fun e w'=>e=.returned (.bool true)∧Below w.heap.size w w':=by
 unfold maxLen at w0;by_cases h0:a0.size≤1048576
 case neg =>
  have h0':(1048576:Int) < a0.size:=by omega
  have GA:Hid (Below w.heap.size w (w.alloc (.cells #[.int .i64 p1.cls,.int .i64 p1.flow,.int .i64 p1.next,.int .i64 p1.hops,.string p1.src,.string p1.dst,.bool p1.piece,.bool p1.more,.int .i64 p1.off,.int .i64 p1.id,.string p1.data] 61))):=(Below.refl _ _).alloc (Nat.le_refl _) _;unfold p6C;go_enter Try.func8,Try.ntmps8
  go_wp2_with fail
  go_ret;exact ⟨rfl,GA.out⟩
 have h0':¬ (1048576:Int) < a0.size:=by omega
 have HS:Hid (∀ W,Calls Try.prog 30 #[p6C p1,.int .i64 1048576] W fun e w'=>e=.returned (.int .i64 (szV6V p1))∧Below W.heap.size W w'):=fun W=>szV6_any p1 W w1
 have HT:Hid (∀ W,Calls Try.prog 31 #[p6C p1] W fun e w'=>e=.returned (p6C p1)∧Below W.heap.size W w'):=fun W=>toV6_any p1 W
 have HP:Hid (P6Sm p1→∀ W,Calls Try.prog 22 #[.string a0,p6C p1,.int .i64 a2,.int .i64 a3,.int .i64 a4] W fun e w'=>e=.returned (p6CO (tell6V a0 p1 a2 a3 a4) (tell6C a0 p1 a2 a3 a4))∧Below W.heap.size W w'):=fun hs W=>specTellSix_any a0 p1 a2 a3 a4 W h0 hs w1
 have HI:Hid (P6Sm p1→∀ W,Calls Try.prog 21 #[.string a0,p6C p1,.int .i64 a2,.int .i64 a3,.int .i64 a4] W fun e w'=>e=.returned (p6CO (tell6V a0 p1 a2 a3 a4) (tell6C a0 p1 a2 a3 a4))∧Below W.heap.size W w'):=fun hs W=>implTellSix_any a0 p1 a2 a3 a4 W h0 hs w1
 have HE:Hid (∀ W,Calls Try.prog 32 #[p6CO (tell6V a0 p1 a2 a3 a4) (tell6C a0 p1 a2 a3 a4),p6CO (tell6V a0 p1 a2 a3 a4) (tell6C a0 p1 a2 a3 a4)] W fun e w'=>e=.returned (.bool true)∧Below W.heap.size W w'):=fun W=>eqV6Out_same _ _ W
 have HL:Hid (0≤szV6V p1→P6Sm p1):=szV6_in;clear w0 w1 w2 w3 w4 h0;generalize tell6V a0 p1 a2 a3 a4=q at *;generalize tell6C a0 p1 a2 a3 a4=code at *;generalize szV6V p1=sz at *;obtain ⟨qcls,qflow,qnext,qhops,qsrc,qdst,qpiece,qmore,qoff,qid,qdata⟩:=q;unfold p6CO at *;obtain ⟨cls,flow,next,hops,src,dst,piece,more,off,id,data⟩:=p1;unfold p6C at *;dsimp only at *;have e0:HoldsL (w.alloc (.cells #[.int .i64 cls,.int .i64 flow,.int .i64 next,.int .i64 hops,.string src,.string dst,.bool piece,.bool more,.int .i64 off,.int .i64 id,.string data] 61)) (w.heap.size) [.int .i64 cls,.int .i64 flow,.int .i64 next,.int .i64 hops,.string src,.string dst,.bool piece,.bool more,.int .i64 off,.int .i64 id,.string data]:=by
  have h:=HoldsL.new w [.int .i64 cls,.int .i64 flow,.int .i64 next,.int .i64 hops,.string src,.string dst,.bool piece,.bool more,.int .i64 off,.int .i64 id,.string data] 61;try simp only [World.size_alloc] at h
  exact h
 have HS0:Hid (Bxs w [(w.heap.size,[.int .i64 cls,.int .i64 flow,.int .i64 next,.int .i64 hops,.string src,.string dst,.bool piece,.bool more,.int .i64 off,.int .i64 id,.string data])] (w.alloc (.cells #[.int .i64 cls,.int .i64 flow,.int .i64 next,.int .i64 hops,.string src,.string dst,.bool piece,.bool more,.int .i64 off,.int .i64 id,.string data] 61))):=by
  refine ⟨fun e he=>?_,((Below.refl _ _).alloc (by (try simp only [World.size_alloc]); omega) _),fun e he=>?_⟩
  ·simp only [List.mem_cons,List.not_mem_nil,or_false] at he;rcases he with rfl
   ·exact e0
  ·simp only [List.mem_cons,List.not_mem_nil,or_false] at he;rcases he with rfl<;>simp
 clear e0;by_cases hsz:0≤sz
 case neg =>
  have hsz':sz < 0:=by omega
  clear HL HP HI HT hsz;go_enter Try.func8,Try.ntmps8
  go_wp2_with fail
  refine (HS.out _).mono ?_;rintro e v1 ⟨rfl,q1⟩;have S1:Hid _:=HS0.out.kept q1;clear q1 HS0;have HFB:Hid _:=S1.out.b;go_wp2_with fail
  go_ret;exact ⟨rfl,HFB.out⟩
 have hsm:=HL.out hsz;replace HP:Hid _:=HP.out hsm;replace HI:Hid _:=HI.out hsm;have hsz':¬ sz < 0:=by omega
 clear hsz hsm HL;go_enter Try.func8,Try.ntmps8
 go_wp2_with fail
 refine (HS.out _).mono ?_;rintro e v1 ⟨rfl,q1⟩;have S1:Hid _:=HS0.out.kept q1;clear q1 HS0;have HHk:=S1.out.at (.head _);have k0:=HHk.cell (j:=0) rfl;have k1:=HHk.cell (j:=1) rfl;have k2:=HHk.cell (j:=2) rfl;have k3:=HHk.cell (j:=3) rfl;have k4:=HHk.cell (j:=4) rfl;have k5:=HHk.cell (j:=5) rfl;have k6:=HHk.cell (j:=6) rfl;have k7:=HHk.cell (j:=7) rfl;have k8:=HHk.cell (j:=8) rfl;have k9:=HHk.cell (j:=9) rfl;have k10:=HHk.cell (j:=10) rfl;clear HHk;go_wp2_with fail
 refine (HT.out _).mono ?_;rintro e v2 ⟨rfl,q2⟩;have S2:Hid _:=S1.out.kept q2;clear q2 S1;clear k0 k1 k2 k3 k4 k5 k6 k7 k8 k9 k10;go_wp2_with fail
 refine (HP.out _).mono ?_;rintro e v3 ⟨rfl,q3⟩;have S3:Hid _:=S2.out.kept q3;clear q3 S2;have SB3:Hid (Bxs w ((v3.heap.size,[.int .i64 qcls,.int .i64 qflow,.int .i64 qnext,.int .i64 qhops,.string qsrc,.string qdst,.bool qpiece,.bool qmore,.int .i64 qoff,.int .i64 qid,.string qdata,.int .i64 code])::[(w.heap.size,[.int .i64 cls,.int .i64 flow,.int .i64 next,.int .i64 hops,.string src,.string dst,.bool piece,.bool more,.int .i64 off,.int .i64 id,.string data])]) (v3.alloc (.cells #[.int .i64 qcls,.int .i64 qflow,.int .i64 qnext,.int .i64 qhops,.string qsrc,.string qdst,.bool qpiece,.bool qmore,.int .i64 qoff,.int .i64 qid,.string qdata,.int .i64 code] 47))):=S3.out.push [.int .i64 qcls,.int .i64 qflow,.int .i64 qnext,.int .i64 qhops,.string qsrc,.string qdst,.bool qpiece,.bool qmore,.int .i64 qoff,.int .i64 qid,.string qdata,.int .i64 code] (by simp) _;clear S3;go_upto_region 8 with fail
 generalize v3.alloc (.cells #[.int .i64 qcls,.int .i64 qflow,.int .i64 qnext,.int .i64 qhops,.string qsrc,.string qdst,.bool qpiece,.bool qmore,.int .i64 qoff,.int .i64 qid,.string qdata,.int .i64 code] 47)=WB1 at *;generalize v3.heap.size=B1 at *;have HHk:=SB3.out.at (.tail _ (.head _));have k0:=HHk.cell (j:=0) rfl;have k1:=HHk.cell (j:=1) rfl;have k2:=HHk.cell (j:=2) rfl;have k3:=HHk.cell (j:=3) rfl;have k4:=HHk.cell (j:=4) rfl;have k5:=HHk.cell (j:=5) rfl;have k6:=HHk.cell (j:=6) rfl;have k7:=HHk.cell (j:=7) rfl;have k8:=HHk.cell (j:=8) rfl;have k9:=HHk.cell (j:=9) rfl;have k10:=HHk.cell (j:=10) rfl;clear HHk;go_wp2_with fail
 refine (HT.out _).mono ?_;rintro e v4 ⟨rfl,q4⟩;have S4:Hid _:=SB3.out.kept q4;clear q4 SB3;clear k0 k1 k2 k3 k4 k5 k6 k7 k8 k9 k10;go_wp2_with fail
 refine (HI.out _).mono ?_;rintro e v5 ⟨rfl,q5⟩;have S5:Hid _:=S4.out.kept q5;clear q5 S4;have SB5:Hid (Bxs w ((v5.heap.size,[.int .i64 qcls,.int .i64 qflow,.int .i64 qnext,.int .i64 qhops,.string qsrc,.string qdst,.bool qpiece,.bool qmore,.int .i64 qoff,.int .i64 qid,.string qdata,.int .i64 code])::[(B1,[.int .i64 qcls,.int .i64 qflow,.int .i64 qnext,.int .i64 qhops,.string qsrc,.string qdst,.bool qpiece,.bool qmore,.int .i64 qoff,.int .i64 qid,.string qdata,.int .i64 code]),(w.heap.size,[.int .i64 cls,.int .i64 flow,.int .i64 next,.int .i64 hops,.string src,.string dst,.bool piece,.bool more,.int .i64 off,.int .i64 id,.string data])]) (v5.alloc (.cells #[.int .i64 qcls,.int .i64 qflow,.int .i64 qnext,.int .i64 qhops,.string qsrc,.string qdst,.bool qpiece,.bool qmore,.int .i64 qoff,.int .i64 qid,.string qdata,.int .i64 code] 47))):=S5.out.push [.int .i64 qcls,.int .i64 qflow,.int .i64 qnext,.int .i64 qhops,.string qsrc,.string qdst,.bool qpiece,.bool qmore,.int .i64 qoff,.int .i64 qid,.string qdata,.int .i64 code] (by simp) _;clear S5;go_upto_region 9 with fail
 generalize v5.alloc (.cells #[.int .i64 qcls,.int .i64 qflow,.int .i64 qnext,.int .i64 qhops,.string qsrc,.string qdst,.bool qpiece,.bool qmore,.int .i64 qoff,.int .i64 qid,.string qdata,.int .i64 code] 47)=WB2 at *;generalize v5.heap.size=B2 at *;have HHk:=SB5.out.at (.tail _ (.head _));have k0:=HHk.cell (j:=0) rfl;have k1:=HHk.cell (j:=1) rfl;have k2:=HHk.cell (j:=2) rfl;have k3:=HHk.cell (j:=3) rfl;have k4:=HHk.cell (j:=4) rfl;have k5:=HHk.cell (j:=5) rfl;have k6:=HHk.cell (j:=6) rfl;have k7:=HHk.cell (j:=7) rfl;have k8:=HHk.cell (j:=8) rfl;have k9:=HHk.cell (j:=9) rfl;have k10:=HHk.cell (j:=10) rfl;have k11:=HHk.cell (j:=11) rfl;clear HHk;have HHl:=SB5.out.at (.head _);have l0:=HHl.cell (j:=0) rfl;have l1:=HHl.cell (j:=1) rfl;have l2:=HHl.cell (j:=2) rfl;have l3:=HHl.cell (j:=3) rfl;have l4:=HHl.cell (j:=4) rfl;have l5:=HHl.cell (j:=5) rfl;have l6:=HHl.cell (j:=6) rfl;have l7:=HHl.cell (j:=7) rfl;have l8:=HHl.cell (j:=8) rfl;have l9:=HHl.cell (j:=9) rfl;have l10:=HHl.cell (j:=10) rfl;have l11:=HHl.cell (j:=11) rfl;clear HHl;go_wp2_with fail
 refine (HE.out _).mono ?_;rintro e v6 ⟨rfl,q6⟩;have S6:Hid _:=SB5.out.kept q6;clear q6 SB5;have HFB:Hid _:=S6.out.b;clear k0 k1 k2 k3 k4 k5 k6 k7 k8 k9 k10 k11 l0 l1 l2 l3 l4 l5 l6 l7 l8 l9 l10 l11;go_wp2_with fail
 go_ret;exact ⟨rfl,HFB.out⟩
theorem lifted (os:Os) (started:os.Started) (H:Type) (enc:TypeId × Value→H) :
  ReturnsInHanded {} Try.checked os 8 .any (Rows.fnExactTellSixSpec.pre6 enc Try.prog Try.f8 Rows.fnExactTellSixRow.domain false) (Rows.fnExactTellSixSpec.post enc Try.prog Try.f8 false true false false):=by
 refine returnsInHanded_of_change (C:=Try.checked) own started (by kernel_rfl) Try.func8
  (ChangeSpec.witness6 (enc:=enc) (C:=Try.checked) false ⟨#[],#[.string ByteArray.empty,.agg #[.int .i64 0,.int .i64 0,.int .i64 0,.int .i64 0,.string ByteArray.empty,.string ByteArray.empty,.bool false,.bool false,.int .i64 0,.int .i64 0,.string ByteArray.empty],.int .i64 0,.int .i64 0,.int .i64 0],[]⟩ 8 (by kernel_rfl) (by kernel_rfl) (by kernel_rfl) (by kernel_rfl)) ?_
 intro W base args ds gs before hval0 hW hcnd _;have hval:∀ (j:Nat) t v,Try.f8.params[j]?=some t→args[j]?=some v→Value.okWide Try.prog W .any base t v:=hval0;have hW':=hW;obtain ⟨p,q,hA0,hV,rfl,hfz,hnd⟩:=hW;have hA:DataW.TrodAll enc Try.prog W 0 (fun _=>true) true Try.f8.params.toList args.toList ds p:=hA0;rw [Try.params8] at hA hval;obtain ⟨v0,vs0,d0,ds0,p0,q0,hargs,rfl,rfl,h0,r0⟩:=trodAll_cons hA;obtain ⟨v1,vs1,d1,ds1,p1,q1,rfl,rfl,rfl,h1,r1⟩:=trodAll_cons r0;obtain ⟨v2,vs2,d2,ds2,p2,q2,rfl,rfl,rfl,h2,r2⟩:=trodAll_cons r1;obtain ⟨v3,vs3,d3,ds3,p3,q3,rfl,rfl,rfl,h3,r3⟩:=trodAll_cons r2;obtain ⟨v4,vs4,d4,ds4,p4,q4,rfl,rfl,rfl,h4,r4⟩:=trodAll_cons r3;obtain ⟨rfl,rfl,rfl⟩:=trodAll_nil r4;obtain rfl:args=#[v0,v1,v2,v3,v4]:=by cases args; simp_all
 obtain ⟨rfl,rfl⟩:=trodVars_none hV;obtain ⟨a0,rfl,rfl,rfl,w0⟩:=open_string Try.underlying9 (hval 0 9 v0 rfl rfl) h0;have k1:=h1;have lt1:∀ x∈p1,x.block < W.heap.size:=by obtain ⟨m,hm⟩:=k1; exact DataW.trod_lt m _ _ _ hm
 obtain ⟨a1,rfl,w1⟩:=open_V6 (hval 1 61 v1 rfl rfl) h1;obtain ⟨a2,rfl,rfl,rfl,w2⟩:=open_int Try.underlying2 (hval 2 2 v2 rfl rfl) h2;obtain ⟨a3,rfl,rfl,rfl,w3⟩:=open_int Try.underlying2 (hval 3 2 v3 rfl rfl) h3;obtain ⟨a4,rfl,rfl,rfl,w4⟩:=open_int Try.underlying2 (hval 4 2 v4 rfl rfl) h4;clear hA0 hval0;refine (walk a0 a1 a2 a3 a4 W w0 w1 w2 w3 w4).mono fun e W' ⟨he,hg⟩=>?_
 subst he;exact ⟨_,rfl,_,_,_,[],_,[],hW',(trodAll_cons_mk (shut_bool Try.underlying4 _) trodAll_mk0),(trodAll_cons_mk (shut_string Try.underlying9 w0) (trodAll_cons_mk (Below.trod laidOut (by kernel_rfl) (of_decide_eq_true (by kernel_rfl)) k1 hg lt1) (trodAll_cons_mk (shut_int Try.underlying2 w2) (trodAll_cons_mk (shut_int Try.underlying2 w3) (trodAll_cons_mk (shut_int Try.underlying2 w4) trodAll_mk0))))),rfl,hg.frame _,fun h=>by cases h⟩
theorem over:Rows.fnExactTellSixRow.holds Try.pinned (OpenSpec.ofChange Rows.fnExactTellSixSpec) :=
 OpenClaim.holds_of_wide 8 Try.f8 rfl rfl rfl rfl rfl rfl rfl ⟨rfl,rfl,rfl,rfl,rfl⟩ rfl rfl rfl rfl rfl (by kernel_rfl) Try.func8 (by kernel_rfl)
  (of_decide_eq_true (by kernel_rfl)) (by unfold Func.isWrapper; first | (rw [if_pos (by decide +kernel)]; kernel_rfl) | (rw [if_neg (by decide +kernel)]; exact ⟨rfl,rfl⟩))
  (fun os started H enc _=>lifted os started H enc)
end Go.Proofs.Ytellgkeakiikkaa.fnExactTellSix
namespace Go.Proofs.Ytellgkeakiikkaa
theorem fnExactTellSix_holds:Rows.FnExactTellSixSaid:=fnExactTellSix.over
#print axioms fnExactTellSix_holds
end Go.Proofs.Ytellgkeakiikkaa
