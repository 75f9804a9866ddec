/- At every bucket and time the program's BucketTake answers as the specification's, field by field: the law FnExactBucketTake returns true, and writes nothing that was there. No condition. -/
import Derived.Test.YtellgkeakiikkaaRows
import Derived.Test.YtellgkeakiikkaaSBuck
import Derived.Test.YtellgkeakiikkaaIBuck
import Derived.Test.YtellgkeakiikkaaLawBkO
import Derived.WalkKit
import Derived.ProofKit
import Derived.OpenShut
import Derived.ShutString
import Derived.ChangeOld
import Derived.Below
import Derived.Lib.SmallJoins
namespace Go.Proofs.Ytellgkeakiikkaa.fnExactBucketTake
open Go.ChangeShapes Go.WideShapes Go.ChangeAt Go.RowKit Go.Joins
open Go.ChangeMaps (open_string shut_string)
set_option linter.unusedVariables false

theorem own : ownKnob Try.prog.godebug = none := by kernel_rfl
theorem laidOut : laidOutB Try.prog = true := by kernel_rfl

set_option maxRecDepth 100000 in
set_option maxHeartbeats 4000000 in
theorem walk (p0 : Bk) (a1 : Int) (w : World) (w0 : BkWf p0) (w1 : (Lit.int .i64 a1).wf = true) :
    Calls Try.prog 6 #[bkC p0, .int .i64 a1] w fun e w' => e = .returned (.bool true) ∧ Below w.heap.size w w' := by
  have HP : Hid (∀ W, Calls Try.prog 11 #[bkC p0, .int .i64 a1] W fun e w' => e = .returned (bkO (takeB p0 a1) (takeK p0 a1)) ∧ Below W.heap.size W w') := fun W => specBucketTake_any p0 a1 W
  have HI : Hid (∀ W, Calls Try.prog 10 #[bkC p0, .int .i64 a1] W fun e w' => e = .returned (bkO (takeB p0 a1) (takeK p0 a1)) ∧ Below W.heap.size W w') := fun W => implBucketTake_any p0 a1 W
  have HT : Hid (∀ W, Calls Try.prog 25 #[bkC p0] W fun e w' => e = .returned (bkC p0) ∧ Below W.heap.size W w') := fun W => toBucket_any p0 W
  have HE : Hid (∀ W, Calls Try.prog 26 #[bkO (takeB p0 a1) (takeK p0 a1), bkO (takeB p0 a1) (takeK p0 a1)] W fun e w' => e = .returned (.bool true) ∧ Below W.heap.size W w') := fun W => eqBucketOut_same _ _ W
  generalize takeB p0 a1 = tb at *
  generalize takeK p0 a1 = tk at *
  clear w0 w1
  obtain ⟨left, most, each, since⟩ := p0
  obtain ⟨tl, tm, te, ts⟩ := tb
  unfold bkC bkO at *
  dsimp only at *
  have e0 : HoldsL (w.alloc (.cells #[.int .i64 left, .int .i64 most, .int .i64 each, .int .i64 since] 51)) (w.heap.size) [.int .i64 left, .int .i64 most, .int .i64 each, .int .i64 since] := by
    have h := HoldsL.new w [.int .i64 left, .int .i64 most, .int .i64 each, .int .i64 since] 51
    try simp only [World.size_alloc] at h
    exact h
  have HS0 : Hid (Bxs w [(w.heap.size, [.int .i64 left, .int .i64 most, .int .i64 each, .int .i64 since])] (w.alloc (.cells #[.int .i64 left, .int .i64 most, .int .i64 each, .int .i64 since] 51))) := by
    refine ⟨fun e he => ?_, ((Below.refl _ _).alloc (by (try simp only [World.size_alloc]); omega) _), fun e he => ?_⟩
    · simp only [List.mem_cons, List.not_mem_nil, or_false] at he
      rcases he with rfl
      · exact e0
    · simp only [List.mem_cons, List.not_mem_nil, or_false] at he
      rcases he with rfl <;> simp
  clear e0
  go_enter Try.func6, Try.ntmps6
  go_upto_region 1 with fail
  generalize w.alloc (.cells #[.int .i64 left, .int .i64 most, .int .i64 each, .int .i64 since] 51) = W0 at *
  have HHk : HoldsL W0 (w.heap.size) [.int .i64 left, .int .i64 most, .int .i64 each, .int .i64 since] := HS0.out.k _ (.head _)
  have k0 : W0.cell? ⟨w.heap.size, 0, none⟩ = some (.int .i64 left) := HHk.cell rfl
  have k1 : W0.cell? ⟨w.heap.size, 1, none⟩ = some (.int .i64 most) := HHk.cell rfl
  have k2 : W0.cell? ⟨w.heap.size, 2, none⟩ = some (.int .i64 each) := HHk.cell rfl
  have k3 : W0.cell? ⟨w.heap.size, 3, none⟩ = some (.int .i64 since) := HHk.cell rfl
  clear HHk
  go_wp2_with fail
  refine (HT.out _).mono ?_
  rintro e v1 ⟨rfl, q1⟩
  have S1 : Hid (Bxs w [(w.heap.size, [.int .i64 left, .int .i64 most, .int .i64 each, .int .i64 since])] v1) := HS0.out.kept q1
  clear q1 HS0
  clear k0 k1 k2 k3
  go_wp2_with fail
  refine (HP.out _).mono ?_
  rintro e v2 ⟨rfl, q2⟩
  have S2 : Hid (Bxs w [(w.heap.size, [.int .i64 left, .int .i64 most, .int .i64 each, .int .i64 since])] v2) := S1.out.kept q2
  clear q2 S1
  have SB2 : Hid (Bxs w ((v2.heap.size, [.int .i64 tl, .int .i64 tm, .int .i64 te, .int .i64 ts, .bool tk]) :: [(w.heap.size, [.int .i64 left, .int .i64 most, .int .i64 each, .int .i64 since])]) (v2.alloc (.cells #[.int .i64 tl, .int .i64 tm, .int .i64 te, .int .i64 ts, .bool tk] 28))) := S2.out.push [.int .i64 tl, .int .i64 tm, .int .i64 te, .int .i64 ts, .bool tk] (by simp) _
  clear S2
  go_upto_region 2 with fail
  generalize v2.alloc (.cells #[.int .i64 tl, .int .i64 tm, .int .i64 te, .int .i64 ts, .bool tk] 28) = WB1 at *
  generalize v2.heap.size = B1 at *
  have HHk : HoldsL WB1 (w.heap.size) [.int .i64 left, .int .i64 most, .int .i64 each, .int .i64 since] := SB2.out.k _ (.tail _ (.head _))
  have k0 : WB1.cell? ⟨w.heap.size, 0, none⟩ = some (.int .i64 left) := HHk.cell rfl
  have k1 : WB1.cell? ⟨w.heap.size, 1, none⟩ = some (.int .i64 most) := HHk.cell rfl
  have k2 : WB1.cell? ⟨w.heap.size, 2, none⟩ = some (.int .i64 each) := HHk.cell rfl
  have k3 : WB1.cell? ⟨w.heap.size, 3, none⟩ = some (.int .i64 since) := HHk.cell rfl
  clear HHk
  go_wp2_with fail
  refine (HT.out _).mono ?_
  rintro e v3 ⟨rfl, q3⟩
  have S3 : Hid (Bxs w [(B1, [.int .i64 tl, .int .i64 tm, .int .i64 te, .int .i64 ts, .bool tk]), (w.heap.size, [.int .i64 left, .int .i64 most, .int .i64 each, .int .i64 since])] v3) := SB2.out.kept q3
  clear q3 SB2
  clear k0 k1 k2 k3
  go_wp2_with fail
  refine (HI.out _).mono ?_
  rintro e v4 ⟨rfl, q4⟩
  have S4 : Hid (Bxs w [(B1, [.int .i64 tl, .int .i64 tm, .int .i64 te, .int .i64 ts, .bool tk]), (w.heap.size, [.int .i64 left, .int .i64 most, .int .i64 each, .int .i64 since])] v4) := S3.out.kept q4
  clear q4 S3
  have SB4 : Hid (Bxs w ((v4.heap.size, [.int .i64 tl, .int .i64 tm, .int .i64 te, .int .i64 ts, .bool tk]) :: [(B1, [.int .i64 tl, .int .i64 tm, .int .i64 te, .int .i64 ts, .bool tk]), (w.heap.size, [.int .i64 left, .int .i64 most, .int .i64 each, .int .i64 since])]) (v4.alloc (.cells #[.int .i64 tl, .int .i64 tm, .int .i64 te, .int .i64 ts, .bool tk] 28))) := S4.out.push [.int .i64 tl, .int .i64 tm, .int .i64 te, .int .i64 ts, .bool tk] (by simp) _
  clear S4
  go_upto_region 3 with fail
  generalize v4.alloc (.cells #[.int .i64 tl, .int .i64 tm, .int .i64 te, .int .i64 ts, .bool tk] 28) = WB2 at *
  generalize v4.heap.size = B2 at *
  have HHk : HoldsL WB2 (B1) [.int .i64 tl, .int .i64 tm, .int .i64 te, .int .i64 ts, .bool tk] := SB4.out.k _ (.tail _ (.head _))
  have k0 : WB2.cell? ⟨B1, 0, none⟩ = some (.int .i64 tl) := HHk.cell rfl
  have k1 : WB2.cell? ⟨B1, 1, none⟩ = some (.int .i64 tm) := HHk.cell rfl
  have k2 : WB2.cell? ⟨B1, 2, none⟩ = some (.int .i64 te) := HHk.cell rfl
  have k3 : WB2.cell? ⟨B1, 3, none⟩ = some (.int .i64 ts) := HHk.cell rfl
  have k4 : WB2.cell? ⟨B1, 4, none⟩ = some (.bool tk) := HHk.cell rfl
  clear HHk
  have HHl : HoldsL WB2 (B2) [.int .i64 tl, .int .i64 tm, .int .i64 te, .int .i64 ts, .bool tk] := SB4.out.k _ (.head _)
  have l0 : WB2.cell? ⟨B2, 0, none⟩ = some (.int .i64 tl) := HHl.cell rfl
  have l1 : WB2.cell? ⟨B2, 1, none⟩ = some (.int .i64 tm) := HHl.cell rfl
  have l2 : WB2.cell? ⟨B2, 2, none⟩ = some (.int .i64 te) := HHl.cell rfl
  have l3 : WB2.cell? ⟨B2, 3, none⟩ = some (.int .i64 ts) := HHl.cell rfl
  have l4 : WB2.cell? ⟨B2, 4, none⟩ = some (.bool tk) := HHl.cell rfl
  clear HHl
  go_wp2_with fail
  refine (HE.out _).mono ?_
  rintro e v5 ⟨rfl, q5⟩
  have S5 : Hid (Bxs w [(B2, [.int .i64 tl, .int .i64 tm, .int .i64 te, .int .i64 ts, .bool tk]), (B1, [.int .i64 tl, .int .i64 tm, .int .i64 te, .int .i64 ts, .bool tk]), (w.heap.size, [.int .i64 left, .int .i64 most, .int .i64 each, .int .i64 since])] v5) := SB4.out.kept q5
  clear q5 SB4
  have HFB : Hid _ := S5.out.b
  clear k0 k1 k2 k3 k4 l0 l1 l2 l3 l4
  go_wp2_with fail
  go_ret
  exact ⟨rfl, HFB.out⟩

set_option maxRecDepth 100000 in
theorem lifted (os : Os) (started : os.Started) (H : Type) (enc : TypeId × Value → H) :
    ReturnsInHanded {} Try.checked os 6 .any (Rows.fnExactBucketTakeSpec.pre6 enc Try.prog Try.f6 Rows.fnExactBucketTakeRow.domain false) (Rows.fnExactBucketTakeSpec.post enc Try.prog Try.f6 false true false false) := by
  refine returnsInHanded_of_change (C := Try.checked) own started (by kernel_rfl) Try.func6
    (ChangeSpec.witness6 (enc := enc) (C := Try.checked) false ⟨#[], #[.agg #[.int .i64 0, .int .i64 0, .int .i64 0, .int .i64 0], .int .i64 0], []⟩ 8 (by kernel_rfl) (by kernel_rfl) (by kernel_rfl) (by kernel_rfl)) ?_
  intro W base args ds gs before hval0 hW hcnd _
  have hval : ∀ (j : Nat) t v, Try.f6.params[j]? = some t → args[j]? = some v → Value.okWide Try.prog W .any base t v := hval0
  have hW' := hW
  obtain ⟨p, q, hA0, hV, rfl, hfz, hnd⟩ := hW
  have hA : DataW.TrodAll enc Try.prog W 0 (fun _ => true) true Try.f6.params.toList args.toList ds p := hA0
  rw [Try.params6] at hA hval
  obtain ⟨v0, vs0, d0, ds0, p0, q0, hargs, rfl, rfl, h0, r0⟩ := trodAll_cons hA
  obtain ⟨v1, vs1, d1, ds1, p1, q1, rfl, rfl, rfl, h1, r1⟩ := trodAll_cons r0
  obtain ⟨rfl, rfl, rfl⟩ := trodAll_nil r1
  obtain rfl : args = #[v0, v1] := by cases args; simp_all
  obtain ⟨rfl, rfl⟩ := trodVars_none hV
  have k0 := h0
  have lt0 : ∀ x ∈ p0, x.block < W.heap.size := by obtain ⟨m, hm⟩ := k0; exact DataW.trod_lt m _ _ _ hm
  obtain ⟨a0, rfl, w0⟩ := open_Bucket (hval 0 51 v0 rfl rfl) h0
  obtain ⟨a1, rfl, rfl, rfl, w1⟩ := open_int Try.underlying2 (hval 1 2 v1 rfl rfl) h1
  clear hA0 hval0
  refine (walk a0 a1 W w0 w1).mono fun e W' ⟨he, hg⟩ => ?_
  subst he
  exact ⟨_, rfl, _, _, _, [], _, [], hW', (trodAll_cons_mk (shut_bool Try.underlying4 _) trodAll_mk0), (trodAll_cons_mk (Below.trod laidOut (by kernel_rfl) (of_decide_eq_true (by kernel_rfl)) k0 hg lt0) (trodAll_cons_mk (shut_int Try.underlying2 w1) trodAll_mk0)), rfl, hg.frame _, fun h => by cases h⟩

theorem over : Rows.fnExactBucketTakeRow.holds Try.pinned (OpenSpec.ofChange Rows.fnExactBucketTakeSpec) :=
  OpenClaim.holds_of_wide 6 Try.f6 rfl rfl rfl rfl rfl rfl rfl ⟨rfl, rfl, rfl, rfl, rfl⟩ rfl rfl rfl rfl rfl (by kernel_rfl) Try.func6 (by kernel_rfl)
    (of_decide_eq_true (by kernel_rfl)) (by unfold Func.isWrapper; first | (rw [if_pos (by decide +kernel)]; kernel_rfl) | (rw [if_neg (by decide +kernel)]; exact ⟨rfl, rfl⟩))
    (fun os started H enc _ => lifted os started H enc)

end Go.Proofs.Ytellgkeakiikkaa.fnExactBucketTake
namespace Go.Proofs.Ytellgkeakiikkaa
theorem fnExactBucketTake_holds : Rows.FnExactBucketTakeSaid := fnExactBucketTake.over
#print axioms fnExactBucketTake_holds
end Go.Proofs.Ytellgkeakiikkaa
