/- At every bucket the program's BucketRight answers as the specification's: the law FnExactBucketRight returns true, and writes nothing that was there. No condition. -/
import Derived.Test.YtellgkeakiikkaaRows
import Derived.Test.YtellgkeakiikkaaSBuck
import Derived.Test.YtellgkeakiikkaaIBuck
import Derived.WalkKit
import Derived.ProofKit
import Derived.OpenShut
import Derived.ShutString
import Derived.ChangeOld
import Derived.Below
import Derived.Lib.SmallJoins
namespace Go.Proofs.Ytellgkeakiikkaa.fnExactBucketRight
open Go.ChangeShapes Go.WideShapes Go.ChangeAt Go.RowKit Go.Joins
open Go.ChangeMaps (open_string shut_string)
set_option linter.unusedVariables false

theorem own : ownKnob Try.prog.godebug = none := by kernel_rfl
theorem laidOut : laidOutB Try.prog = true := by kernel_rfl

set_option maxRecDepth 100000 in
set_option maxHeartbeats 4000000 in
theorem walk (p0 : Bk) (w : World) (w0 : BkWf p0) :
    Calls Try.prog 5 #[bkC p0] w fun e w' => e = .returned (.bool true) ∧ Below w.heap.size w w' := by
  have HP : Hid (∀ W, Calls Try.prog 13 #[bkC p0] W fun e w' => e = .returned (.bool (bucketOk p0)) ∧ Below W.heap.size W w') := fun W => specBucketRight_any p0 W
  have HI : Hid (∀ W, Calls Try.prog 12 #[bkC p0] W fun e w' => e = .returned (.bool (bucketOk p0)) ∧ Below W.heap.size W w') := fun W => implBucketRight_any p0 W
  have HT : Hid (∀ W, Calls Try.prog 25 #[bkC p0] W fun e w' => e = .returned (bkC p0) ∧ Below W.heap.size W w') := fun W => toBucket_any p0 W
  generalize bucketOk p0 = ans at *
  clear w0
  obtain ⟨left, most, each, since⟩ := p0
  unfold bkC at *
  dsimp only at *
  have e0 : HoldsL (w.alloc (.cells #[.int .i64 left, .int .i64 most, .int .i64 each, .int .i64 since] 51)) (w.heap.size) [.int .i64 left, .int .i64 most, .int .i64 each, .int .i64 since] := by
    have h := HoldsL.new w [.int .i64 left, .int .i64 most, .int .i64 each, .int .i64 since] 51
    try simp only [World.size_alloc] at h
    exact h
  have HS0 : Hid (Bxs w [(w.heap.size, [.int .i64 left, .int .i64 most, .int .i64 each, .int .i64 since])] (w.alloc (.cells #[.int .i64 left, .int .i64 most, .int .i64 each, .int .i64 since] 51))) := by
    refine ⟨fun e he => ?_, ((Below.refl _ _).alloc (by (try simp only [World.size_alloc]); omega) _), fun e he => ?_⟩
    · simp only [List.mem_cons, List.not_mem_nil, or_false] at he
      rcases he with rfl
      · exact e0
    · simp only [List.mem_cons, List.not_mem_nil, or_false] at he
      rcases he with rfl <;> simp
  clear e0
  go_enter Try.func5, Try.ntmps5
  go_upto_region 1 with fail
  generalize w.alloc (.cells #[.int .i64 left, .int .i64 most, .int .i64 each, .int .i64 since] 51) = W0 at *
  have HHk : HoldsL W0 (w.heap.size) [.int .i64 left, .int .i64 most, .int .i64 each, .int .i64 since] := HS0.out.k _ (.head _)
  have k0 : W0.cell? ⟨w.heap.size, 0, none⟩ = some (.int .i64 left) := HHk.cell rfl
  have k1 : W0.cell? ⟨w.heap.size, 1, none⟩ = some (.int .i64 most) := HHk.cell rfl
  have k2 : W0.cell? ⟨w.heap.size, 2, none⟩ = some (.int .i64 each) := HHk.cell rfl
  have k3 : W0.cell? ⟨w.heap.size, 3, none⟩ = some (.int .i64 since) := HHk.cell rfl
  clear HHk
  go_wp2_with fail
  refine (HT.out _).mono ?_
  rintro e v1 ⟨rfl, q1⟩
  have S1 : Hid (Bxs w [(w.heap.size, [.int .i64 left, .int .i64 most, .int .i64 each, .int .i64 since])] v1) := HS0.out.kept q1
  clear q1 HS0
  clear k0 k1 k2 k3
  go_wp2_with fail
  refine (HP.out _).mono ?_
  rintro e v2 ⟨rfl, q2⟩
  have S2 : Hid (Bxs w [(w.heap.size, [.int .i64 left, .int .i64 most, .int .i64 each, .int .i64 since])] v2) := S1.out.kept q2
  clear q2 S1
  have HHk : HoldsL v2 (w.heap.size) [.int .i64 left, .int .i64 most, .int .i64 each, .int .i64 since] := S2.out.k _ (.head _)
  have k0 : v2.cell? ⟨w.heap.size, 0, none⟩ = some (.int .i64 left) := HHk.cell rfl
  have k1 : v2.cell? ⟨w.heap.size, 1, none⟩ = some (.int .i64 most) := HHk.cell rfl
  have k2 : v2.cell? ⟨w.heap.size, 2, none⟩ = some (.int .i64 each) := HHk.cell rfl
  have k3 : v2.cell? ⟨w.heap.size, 3, none⟩ = some (.int .i64 since) := HHk.cell rfl
  clear HHk
  go_wp2_with fail
  refine (HT.out _).mono ?_
  rintro e v3 ⟨rfl, q3⟩
  have S3 : Hid (Bxs w [(w.heap.size, [.int .i64 left, .int .i64 most, .int .i64 each, .int .i64 since])] v3) := S2.out.kept q3
  clear q3 S2
  clear k0 k1 k2 k3
  go_wp2_with fail
  refine (HI.out _).mono ?_
  rintro e v4 ⟨rfl, q4⟩
  have S4 : Hid (Bxs w [(w.heap.size, [.int .i64 left, .int .i64 most, .int .i64 each, .int .i64 since])] v4) := S3.out.kept q4
  clear q4 S3
  have HFB : Hid _ := S4.out.b
  go_wp2_with fail
  go_ret
  exact ⟨rfl, HFB.out⟩

set_option maxRecDepth 100000 in
theorem lifted (os : Os) (started : os.Started) (H : Type) (enc : TypeId × Value → H) :
    ReturnsInHanded {} Try.checked os 5 .any (Rows.fnExactBucketRightSpec.pre6 enc Try.prog Try.f5 Rows.fnExactBucketRightRow.domain false) (Rows.fnExactBucketRightSpec.post enc Try.prog Try.f5 false true false false) := by
  refine returnsInHanded_of_change (C := Try.checked) own started (by kernel_rfl) Try.func5
    (ChangeSpec.witness6 (enc := enc) (C := Try.checked) false ⟨#[], #[.agg #[.int .i64 0, .int .i64 0, .int .i64 0, .int .i64 0]], []⟩ 8 (by kernel_rfl) (by kernel_rfl) (by kernel_rfl) (by kernel_rfl)) ?_
  intro W base args ds gs before hval0 hW hcnd _
  have hval : ∀ (j : Nat) t v, Try.f5.params[j]? = some t → args[j]? = some v → Value.okWide Try.prog W .any base t v := hval0
  have hW' := hW
  obtain ⟨p, q, hA0, hV, rfl, hfz, hnd⟩ := hW
  have hA : DataW.TrodAll enc Try.prog W 0 (fun _ => true) true Try.f5.params.toList args.toList ds p := hA0
  rw [Try.params5] at hA hval
  obtain ⟨v0, vs0, d0, ds0, p0, q0, hargs, rfl, rfl, h0, r0⟩ := trodAll_cons hA
  obtain ⟨rfl, rfl, rfl⟩ := trodAll_nil r0
  obtain rfl : args = #[v0] := by cases args; simp_all
  obtain ⟨rfl, rfl⟩ := trodVars_none hV
  have k0 := h0
  have lt0 : ∀ x ∈ p0, x.block < W.heap.size := by obtain ⟨m, hm⟩ := k0; exact DataW.trod_lt m _ _ _ hm
  obtain ⟨a0, rfl, w0⟩ := open_Bucket (hval 0 51 v0 rfl rfl) h0
  clear hA0 hval0
  refine (walk a0 W w0).mono fun e W' ⟨he, hg⟩ => ?_
  subst he
  exact ⟨_, rfl, _, _, _, [], _, [], hW', (trodAll_cons_mk (shut_bool Try.underlying4 _) trodAll_mk0), (trodAll_cons_mk (Below.trod laidOut (by kernel_rfl) (of_decide_eq_true (by kernel_rfl)) k0 hg lt0) trodAll_mk0), rfl, hg.frame _, fun h => by cases h⟩

theorem over : Rows.fnExactBucketRightRow.holds Try.pinned (OpenSpec.ofChange Rows.fnExactBucketRightSpec) :=
  OpenClaim.holds_of_wide 5 Try.f5 rfl rfl rfl rfl rfl rfl rfl ⟨rfl, rfl, rfl, rfl, rfl⟩ rfl rfl rfl rfl rfl (by kernel_rfl) Try.func5 (by kernel_rfl)
    (of_decide_eq_true (by kernel_rfl)) (by unfold Func.isWrapper; first | (rw [if_pos (by decide +kernel)]; kernel_rfl) | (rw [if_neg (by decide +kernel)]; exact ⟨rfl, rfl⟩))
    (fun os started H enc _ => lifted os started H enc)

end Go.Proofs.Ytellgkeakiikkaa.fnExactBucketRight
namespace Go.Proofs.Ytellgkeakiikkaa
theorem fnExactBucketRight_holds : Rows.FnExactBucketRightSaid := fnExactBucketRight.over
#print axioms fnExactBucketRight_holds
end Go.Proofs.Ytellgkeakiikkaa
