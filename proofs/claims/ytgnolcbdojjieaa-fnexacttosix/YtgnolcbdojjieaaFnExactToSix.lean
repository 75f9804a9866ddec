/- At every packet and two texts the program's ToSix answers as the specification's, field by field: the law FnExactToSix returns true, and writes nothing that was there. No condition. -/
import Derived.Test.YtgnolcbdojjieaaRows
import Derived.Test.YtgnolcbdojjieaaSXlat2
import Derived.Test.YtgnolcbdojjieaaIXlatU
import Derived.Test.YtgnolcbdojjieaaIOut
import Derived.WalkKit
import Derived.ProofKit
import Derived.OpenShut
import Derived.ShutString
import Derived.ChangeOld
import Derived.Below
import Derived.Lib.SmallJoins
namespace Go.Proofs.Ytgnolcbdojjieaa.fnExactToSix
open Go.ChangeShapes Go.WideShapes Go.ChangeAt Go.RowKit Go.Joins
open Go.ChangeMaps (open_string shut_string)
set_option linter.unusedVariables false

theorem own : ownKnob Try.prog.godebug = none := by kernel_rfl
theorem laidOut : laidOutB Try.prog = true := by kernel_rfl

set_option maxRecDepth 100000 in
set_option maxHeartbeats 4000000 in
theorem walk (p0 : P4) (a1 : ByteArray) (a2 : ByteArray) (w : World) (w0 : P4Wf p0) (w1 : a1.size ≤ maxLen) (w2 : a2.size ≤ maxLen) :
  Calls Try.prog 5 #[p4C p0, .string a1, .string a2] w fun e w' => e = .returned (.bool true) ∧ Below w.heap.size w w' := by
 unfold maxLen at w1 w2
 by_cases h1 : a1.size ≤ 1048576
 case neg =>
  have h1' : (1048576 : Int) < a1.size := by omega
  have GA : Hid (Below w.heap.size w (w.alloc (.cells #[.int .i64 p0.tos, .int .i64 p0.id, .bool p0.whole, .bool p0.more, .int .i64 p0.off, .int .i64 p0.ttl, .int .i64 p0.proto, .string p0.src, .string p0.dst, .string p0.opts, .string p0.data] 43))) := (Below.refl _ _).alloc (Nat.le_refl _) _
  unfold p4C
  go_enter Try.func5, Try.ntmps5
  go_wp2_with fail
  go_ret
  exact ⟨rfl, GA.out⟩
 have h1' : ¬ (1048576 : Int) < a1.size := by omega
 by_cases h2 : a2.size ≤ 1048576
 case neg =>
  have h2' : (1048576 : Int) < a2.size := by omega
  have GA : Hid (Below w.heap.size w (w.alloc (.cells #[.int .i64 p0.tos, .int .i64 p0.id, .bool p0.whole, .bool p0.more, .int .i64 p0.off, .int .i64 p0.ttl, .int .i64 p0.proto, .string p0.src, .string p0.dst, .string p0.opts, .string p0.data] 43))) := (Below.refl _ _).alloc (Nat.le_refl _) _
  unfold p4C
  go_enter Try.func5, Try.ntmps5
  go_wp2_with fail
  go_ret
  exact ⟨rfl, GA.out⟩
 have h2' : ¬ (1048576 : Int) < a2.size := by omega
 have HS : Hid (∀ W, Calls Try.prog 15 #[p4C p0, .int .i64 1048576] W fun e w' => e = .returned (.int .i64 (szV4V p0)) ∧ Below W.heap.size W w') := fun W => szV4_any p0 W w0
 have HT : Hid (∀ W, Calls Try.prog 16 #[p4C p0] W fun e w' => e = .returned (p4C p0) ∧ Below W.heap.size W w') := fun W => toV4_any p0 W
 have HP : Hid (P4Sm p0 → ∀ W, Calls Try.prog 8 #[p4C p0, .string a1, .string a2] W fun e w' => e = .returned (p6CO (six4V p0 a1 a2) (six4C p0 a1 a2)) ∧ Below W.heap.size W w') := fun hs W => specToSix_any p0 a1 a2 W hs w0 h1 h2 hs.2.2.2
 have HI : Hid (P4Sm p0 → ∀ W, Calls Try.prog 7 #[p4C p0, .string a1, .string a2] W fun e w' => e = .returned (p6CO (six4V p0 a1 a2) (six4C p0 a1 a2)) ∧ Below W.heap.size W w') := fun hs W => implToSix_any p0 a1 a2 W hs w0 h1 h2
 have HE : Hid (∀ W, Calls Try.prog 17 #[p6CO (six4V p0 a1 a2) (six4C p0 a1 a2), p6CO (six4V p0 a1 a2) (six4C p0 a1 a2)] W fun e w' => e = .returned (.bool true) ∧ Below W.heap.size W w') := fun W => eqV6Out_same _ _ W
 have HL : Hid (0 ≤ szV4V p0 → P4Sm p0) := szV4_in
 have GA : Hid (Below w.heap.size w (w.alloc (.cells #[.int .i64 p0.tos, .int .i64 p0.id, .bool p0.whole, .bool p0.more, .int .i64 p0.off, .int .i64 p0.ttl, .int .i64 p0.proto, .string p0.src, .string p0.dst, .string p0.opts, .string p0.data] 43))) := (Below.refl _ _).alloc (Nat.le_refl _) _
 have KA : Hid (BoxV4 (w.alloc (.cells #[.int .i64 p0.tos, .int .i64 p0.id, .bool p0.whole, .bool p0.more, .int .i64 p0.off, .int .i64 p0.ttl, .int .i64 p0.proto, .string p0.src, .string p0.dst, .string p0.opts, .string p0.data] 43)) w.heap.size p0) := BoxV4.new w p0
 clear w0 w1 w2 h1 h2
 generalize six4V p0 a1 a2 = q at *
 generalize six4C p0 a1 a2 = code at *
 generalize szV4V p0 = sz at *
 obtain ⟨qcls, qflow, qnext, qhops, qsrc, qdst, qpiece, qmore, qoff, qid, qdata⟩ := q
 unfold p6CO at *
 dsimp only at *
 by_cases hsz : 0 ≤ sz
 case neg =>
  have hsz' : sz < 0 := by omega
  clear HL HP HI HT hsz KA
  obtain ⟨tos, id, whole, more, off, ttl, proto, src, dst, opts, data⟩ := p0
  unfold p4C at *
  dsimp only at *
  go_enter Try.func5, Try.ntmps5
  go_wp2_with fail
  refine (HS.out _).mono ?_
  rintro e v1 ⟨rfl, q1⟩
  go_wp2_with fail
  go_ret
  exact ⟨rfl, GA.out.trans (q1.mono GA.out.size)⟩
 have hsm := HL.out hsz
 replace HP : Hid _ := HP.out hsm
 replace HI : Hid _ := HI.out hsm
 have hsz' : ¬ sz < 0 := by omega
 clear hsz hsm HL
 obtain ⟨tos, id, whole, more, off, ttl, proto, src, dst, opts, data⟩ := p0
 unfold p4C at *
 dsimp only at *
 go_enter Try.func5, Try.ntmps5
 go_wp2_with fail
 refine (HS.out _).mono ?_
 rintro e v1 ⟨rfl, q1⟩
 have G1 : Hid (Below w.heap.size w v1) := GA.out.trans (q1.mono GA.out.size)
 have K1 : Hid (BoxV4 v1 w.heap.size ⟨tos, id, whole, more, off, ttl, proto, src, dst, opts, data⟩) := KA.out.kept q1
 clear q1 GA KA
 obtain ⟨k0, k1, k2, k3, k4, k5, k6, k7, k8, k9, k10⟩ := K1.out
 go_wp2_with fail
 refine (HT.out _).mono ?_
 rintro e v2 ⟨rfl, q2⟩
 have G2 : Hid (Below w.heap.size w v2) := G1.out.trans (q2.mono G1.out.size)
 have K2 : Hid (BoxV4 v2 w.heap.size ⟨tos, id, whole, more, off, ttl, proto, src, dst, opts, data⟩) := K1.out.kept q2
 clear q2 G1 K1
 clear k0 k1 k2 k3 k4 k5 k6 k7 k8 k9 k10
 go_wp2_with fail
 refine (HP.out _).mono ?_
 rintro e v3 ⟨rfl, q3⟩
 have G3 : Hid (Below w.heap.size w v3) := G2.out.trans (q3.mono G2.out.size)
 have K3 : Hid (BoxV4 v3 w.heap.size ⟨tos, id, whole, more, off, ttl, proto, src, dst, opts, data⟩) := K2.out.kept q3
 clear q3 G2 K2
 have z3 : Below v3.heap.size v3 (v3.alloc (.cells #[.int .i64 qcls, .int .i64 qflow, .int .i64 qnext, .int .i64 qhops, .string qsrc, .string qdst, .bool qpiece, .bool qmore, .int .i64 qoff, .int .i64 qid, .string qdata, .int .i64 code] 30)) := (Below.refl _ _).alloc (Nat.le_refl _) _
 have GB3 : Hid (Below w.heap.size w (v3.alloc (.cells #[.int .i64 qcls, .int .i64 qflow, .int .i64 qnext, .int .i64 qhops, .string qsrc, .string qdst, .bool qpiece, .bool qmore, .int .i64 qoff, .int .i64 qid, .string qdata, .int .i64 code] 30))) := G3.out.trans (z3.mono G3.out.size)
 have KB3 : Hid (BoxV4 (v3.alloc (.cells #[.int .i64 qcls, .int .i64 qflow, .int .i64 qnext, .int .i64 qhops, .string qsrc, .string qdst, .bool qpiece, .bool qmore, .int .i64 qoff, .int .i64 qid, .string qdata, .int .i64 code] 30)) w.heap.size ⟨tos, id, whole, more, off, ttl, proto, src, dst, opts, data⟩) := K3.out.kept z3
 have OC3 : Hid (BoxC6 (v3.alloc (.cells #[.int .i64 qcls, .int .i64 qflow, .int .i64 qnext, .int .i64 qhops, .string qsrc, .string qdst, .bool qpiece, .bool qmore, .int .i64 qoff, .int .i64 qid, .string qdata, .int .i64 code] 30)) v3.heap.size ⟨qcls, qflow, qnext, qhops, qsrc, qdst, qpiece, qmore, qoff, qid, qdata⟩ code) := BoxC6.new v3 ⟨qcls, qflow, qnext, qhops, qsrc, qdst, qpiece, qmore, qoff, qid, qdata⟩ code
 clear z3 G3 K3
 go_upto_region 10 with fail
 generalize v3.alloc (.cells #[.int .i64 qcls, .int .i64 qflow, .int .i64 qnext, .int .i64 qhops, .string qsrc, .string qdst, .bool qpiece, .bool qmore, .int .i64 qoff, .int .i64 qid, .string qdata, .int .i64 code] 30) = W1 at *
 generalize v3.heap.size = B1 at *
 obtain ⟨k0, k1, k2, k3, k4, k5, k6, k7, k8, k9, k10⟩ := KB3.out
 go_wp2_with fail
 refine (HT.out _).mono ?_
 rintro e v4 ⟨rfl, q4⟩
 have G4 : Hid (Below w.heap.size w v4) := GB3.out.trans (q4.mono GB3.out.size)
 have K4 : Hid (BoxV4 v4 w.heap.size ⟨tos, id, whole, more, off, ttl, proto, src, dst, opts, data⟩) := KB3.out.kept q4
 have O4_0 : Hid (BoxC6 v4 B1 ⟨qcls, qflow, qnext, qhops, qsrc, qdst, qpiece, qmore, qoff, qid, qdata⟩ code) := OC3.out.kept q4
 clear q4 GB3 KB3 OC3
 clear k0 k1 k2 k3 k4 k5 k6 k7 k8 k9 k10
 go_wp2_with fail
 refine (HI.out _).mono ?_
 rintro e v5 ⟨rfl, q5⟩
 have G5 : Hid (Below w.heap.size w v5) := G4.out.trans (q5.mono G4.out.size)
 have K5 : Hid (BoxV4 v5 w.heap.size ⟨tos, id, whole, more, off, ttl, proto, src, dst, opts, data⟩) := K4.out.kept q5
 have O5_0 : Hid (BoxC6 v5 B1 ⟨qcls, qflow, qnext, qhops, qsrc, qdst, qpiece, qmore, qoff, qid, qdata⟩ code) := O4_0.out.kept q5
 clear q5 G4 K4 O4_0
 have z5 : Below v5.heap.size v5 (v5.alloc (.cells #[.int .i64 qcls, .int .i64 qflow, .int .i64 qnext, .int .i64 qhops, .string qsrc, .string qdst, .bool qpiece, .bool qmore, .int .i64 qoff, .int .i64 qid, .string qdata, .int .i64 code] 30)) := (Below.refl _ _).alloc (Nat.le_refl _) _
 have GB5 : Hid (Below w.heap.size w (v5.alloc (.cells #[.int .i64 qcls, .int .i64 qflow, .int .i64 qnext, .int .i64 qhops, .string qsrc, .string qdst, .bool qpiece, .bool qmore, .int .i64 qoff, .int .i64 qid, .string qdata, .int .i64 code] 30))) := G5.out.trans (z5.mono G5.out.size)
 have KB5 : Hid (BoxV4 (v5.alloc (.cells #[.int .i64 qcls, .int .i64 qflow, .int .i64 qnext, .int .i64 qhops, .string qsrc, .string qdst, .bool qpiece, .bool qmore, .int .i64 qoff, .int .i64 qid, .string qdata, .int .i64 code] 30)) w.heap.size ⟨tos, id, whole, more, off, ttl, proto, src, dst, opts, data⟩) := K5.out.kept z5
 have OB5_0 : Hid (BoxC6 (v5.alloc (.cells #[.int .i64 qcls, .int .i64 qflow, .int .i64 qnext, .int .i64 qhops, .string qsrc, .string qdst, .bool qpiece, .bool qmore, .int .i64 qoff, .int .i64 qid, .string qdata, .int .i64 code] 30)) B1 ⟨qcls, qflow, qnext, qhops, qsrc, qdst, qpiece, qmore, qoff, qid, qdata⟩ code) := O5_0.out.kept z5
 have OC5 : Hid (BoxC6 (v5.alloc (.cells #[.int .i64 qcls, .int .i64 qflow, .int .i64 qnext, .int .i64 qhops, .string qsrc, .string qdst, .bool qpiece, .bool qmore, .int .i64 qoff, .int .i64 qid, .string qdata, .int .i64 code] 30)) v5.heap.size ⟨qcls, qflow, qnext, qhops, qsrc, qdst, qpiece, qmore, qoff, qid, qdata⟩ code) := BoxC6.new v5 ⟨qcls, qflow, qnext, qhops, qsrc, qdst, qpiece, qmore, qoff, qid, qdata⟩ code
 clear z5 G5 K5 O5_0
 go_upto_region 11 with fail
 generalize v5.alloc (.cells #[.int .i64 qcls, .int .i64 qflow, .int .i64 qnext, .int .i64 qhops, .string qsrc, .string qdst, .bool qpiece, .bool qmore, .int .i64 qoff, .int .i64 qid, .string qdata, .int .i64 code] 30) = W2 at *
 generalize v5.heap.size = B2 at *
 obtain ⟨k0, k1, k2, k3, k4, k5, k6, k7, k8, k9, k10, k11⟩ := OB5_0.out
 obtain ⟨j0, j1, j2, j3, j4, j5, j6, j7, j8, j9, j10, j11⟩ := OC5.out
 dsimp only at k0 k1 k2 k3 k4 k5 k6 k7 k8 k9 k10 k11 j0 j1 j2 j3 j4 j5 j6 j7 j8 j9 j10 j11
 go_wp2_with fail
 refine (HE.out _).mono ?_
 rintro e v9 ⟨rfl, q9⟩
 have G9 : Hid (Below w.heap.size w v9) := GB5.out.trans (q9.mono GB5.out.size)
 clear k0 k1 k2 k3 k4 k5 k6 k7 k8 k9 k10 k11 j0 j1 j2 j3 j4 j5 j6 j7 j8 j9 j10 j11
 go_wp2_with fail
 go_ret
 exact ⟨rfl, G9.out⟩

set_option maxRecDepth 100000 in
theorem lifted (os : Os) (started : os.Started) (H : Type) (enc : TypeId × Value → H) :
  ReturnsInHanded {} Try.checked os 5 .any (Rows.fnExactToSixSpec.pre6 enc Try.prog Try.f5 Rows.fnExactToSixRow.domain false) (Rows.fnExactToSixSpec.post enc Try.prog Try.f5 false true false false) := by
 refine returnsInHanded_of_change (C := Try.checked) own started (by kernel_rfl) Try.func5
  (ChangeSpec.witness6 (enc := enc) (C := Try.checked) false ⟨#[], #[.agg #[.int .i64 0, .int .i64 0, .bool false, .bool false, .int .i64 0, .int .i64 0, .int .i64 0, .string ByteArray.empty, .string ByteArray.empty, .string ByteArray.empty, .string ByteArray.empty], .string ByteArray.empty, .string ByteArray.empty], []⟩ 8 (by kernel_rfl) (by kernel_rfl) (by kernel_rfl) (by kernel_rfl)) ?_
 intro W base args ds gs before hval0 hW hcnd _
 have hval : ∀ (j : Nat) t v, Try.f5.params[j]? = some t → args[j]? = some v → Value.okWide Try.prog W .any base t v := hval0
 have hW' := hW
 obtain ⟨p, q, hA0, hV, rfl, hfz, hnd⟩ := hW
 have hA : DataW.TrodAll enc Try.prog W 0 (fun _ => true) true Try.f5.params.toList args.toList ds p := hA0
 rw [Try.params5] at hA hval
 obtain ⟨v0, vs0, d0, ds0, p0, q0, hargs, rfl, rfl, h0, r0⟩ := trodAll_cons hA
 obtain ⟨v1, vs1, d1, ds1, p1, q1, rfl, rfl, rfl, h1, r1⟩ := trodAll_cons r0
 obtain ⟨v2, vs2, d2, ds2, p2, q2, rfl, rfl, rfl, h2, r2⟩ := trodAll_cons r1
 obtain ⟨rfl, rfl, rfl⟩ := trodAll_nil r2
 obtain rfl : args = #[v0, v1, v2] := by cases args; simp_all
 obtain ⟨rfl, rfl⟩ := trodVars_none hV
 have k0 := h0
 have lt0 : ∀ x ∈ p0, x.block < W.heap.size := by obtain ⟨m, hm⟩ := k0; exact DataW.trod_lt m _ _ _ hm
 obtain ⟨a0, rfl, w0⟩ := open_V4 (hval 0 43 v0 rfl rfl) h0
 obtain ⟨a1, rfl, rfl, rfl, w1⟩ := open_string Try.underlying9 (hval 1 9 v1 rfl rfl) h1
 obtain ⟨a2, rfl, rfl, rfl, w2⟩ := open_string Try.underlying9 (hval 2 9 v2 rfl rfl) h2
 clear hA0 hval0
 refine (walk a0 a1 a2 W w0 w1 w2).mono fun e W' ⟨he, hg⟩ => ?_
 subst he
 exact ⟨_, rfl, _, _, _, [], _, [], hW', (trodAll_cons_mk (shut_bool Try.underlying4 _) trodAll_mk0), (trodAll_cons_mk (Below.trod laidOut (by kernel_rfl) (of_decide_eq_true (by kernel_rfl)) k0 hg lt0) (trodAll_cons_mk (shut_string Try.underlying9 w1) (trodAll_cons_mk (shut_string Try.underlying9 w2) trodAll_mk0))), rfl, hg.frame _, fun h => by cases h⟩

theorem over : Rows.fnExactToSixRow.holds Try.pinned (OpenSpec.ofChange Rows.fnExactToSixSpec) :=
 OpenClaim.holds_of_wide 5 Try.f5 rfl rfl rfl rfl rfl rfl rfl ⟨rfl, rfl, rfl, rfl, rfl⟩ rfl rfl rfl rfl rfl (by kernel_rfl) Try.func5 (by kernel_rfl)
  (of_decide_eq_true (by kernel_rfl)) (by unfold Func.isWrapper; first | (rw [if_pos (by decide +kernel)]; kernel_rfl) | (rw [if_neg (by decide +kernel)]; exact ⟨rfl, rfl⟩))
  (fun os started H enc _ => lifted os started H enc)

end Go.Proofs.Ytgnolcbdojjieaa.fnExactToSix
namespace Go.Proofs.Ytgnolcbdojjieaa
theorem fnExactToSix_holds : Rows.FnExactToSixSaid := fnExactToSix.over
#print axioms fnExactToSix_holds
end Go.Proofs.Ytgnolcbdojjieaa
