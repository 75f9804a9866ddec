/- At every prefix and every text the program's PrefixHas answers as the specification's PrefixHas: the law FnExactPrefixHas returns true, and writes nothing that was there. No condition. -/
import Derived.Test.YtebhljogijemoagRows
import Derived.Test.YtebhljogijemoagImpl2
import Derived.Test.YtebhljogijemoagLawAid
import Derived.WalkKit
import Derived.ProofKit
import Derived.OpenShut
import Derived.ShutString
import Derived.ChangeOld
import Derived.Below
import Derived.Lib.SmallJoins
namespace Go.Proofs.Ytebhljogijemoag.fnExactPrefixHas
open Go.ChangeShapes Go.WideShapes Go.ChangeAt Go.RowKit Go.Joins
open Go.ChangeMaps (open_string shut_string)
set_option linter.unusedVariables false

theorem own : ownKnob Try.prog.godebug = none := by kernel_rfl
theorem laidOut : laidOutB Try.prog = true := by kernel_rfl

theorem walk (a0 : ByteArray) (b0 : Int) (a1 : ByteArray) (w0 : a0.size ≤ maxLen) (x0 : (Lit.int .i64 b0).wf = true) (w1 : a1.size ≤ maxLen) (w : World) :
    Calls Try.prog 4 #[.agg #[.string a0, .int .i64 b0], .string a1] w fun e w' => e = .returned (.bool true) ∧ Below w.heap.size w w' := by
  by_cases hs : a1.size ≤ 1048576
  · by_cases h : a0.size ≤ 1048576
    · go_enter Try.func4, Try.ntmps4
      go_wp2_with fail
      refine (szPrefix_in a0 b0 _ h).mono ?_
      rintro e w1 ⟨rfl, q1⟩
      have X1 := one_keep q1
      obtain ⟨k0, k1⟩ := one_box X1
      clear q1
      have H1 : Hid _ := X1
      clear X1
      go_wp2_with fail
      refine (toPrefix_any a0 b0 _).mono ?_
      rintro e w2 ⟨rfl, q2⟩
      have H2 : Hid _ := one_next H1.out q2
      clear q2 H1 k0 k1
      go_wp2_with fail
      refine (specPrefixHas_any a0 b0 a1 _ h hs).mono ?_
      rintro e w3 ⟨rfl, q3⟩
      have X3 := one_next H2.out q3
      obtain ⟨k0, k1⟩ := one_box X3
      have H3 : Hid _ := X3
      clear q3 H2 X3
      go_wp2_with fail
      refine (toPrefix_any a0 b0 _).mono ?_
      rintro e w4 ⟨rfl, q4⟩
      have H4 : Hid _ := one_next H3.out q4
      clear q4 H3 k0 k1
      go_wp2_with fail
      refine (implPrefixHas_any a0 b0 a1 _ h hs).mono ?_
      rintro e w5 ⟨rfl, q5⟩
      have H5 : Hid _ := one_next H4.out q5
      clear q5 H4
      go_wp2
      go_ret
      exact ⟨rfl, one_back H5.out⟩
    · go_enter Try.func4, Try.ntmps4
      go_wp2_with fail
      refine (szPrefix_out a0 b0 _ (by omega) w0).mono ?_
      rintro e w1 ⟨rfl, q1⟩
      have H1 : Hid _ := one_keep q1
      clear q1
      go_wp2
      go_ret
      exact ⟨rfl, one_back H1.out⟩
  · unfold maxLen at w1
    go_enter Try.func4, Try.ntmps4
    go_wp2
    go_ret
    exact ⟨rfl, (Below.refl _ _).alloc (Nat.le_refl _) _⟩

set_option maxRecDepth 100000 in
theorem lifted (os : Os) (started : os.Started) (H : Type) (enc : TypeId × Value → H) :
    ReturnsInHanded {} Try.checked os 4 .any (Rows.fnExactPrefixHasSpec.pre6 enc Try.prog Try.f4 Rows.fnExactPrefixHasRow.domain false) (Rows.fnExactPrefixHasSpec.post enc Try.prog Try.f4 false true false false) := by
  refine returnsInHanded_of_change (C := Try.checked) own started (by kernel_rfl) Try.func4
    (ChangeSpec.witness6 (enc := enc) (C := Try.checked) false ⟨#[], #[.agg #[.string ByteArray.empty, .int .i64 0], .string ByteArray.empty], []⟩ 8 (by kernel_rfl) (by kernel_rfl) (by kernel_rfl) (by kernel_rfl)) ?_
  intro W base args ds gs before hval0 hW hcnd _
  have hval : ∀ (j : Nat) t v, Try.f4.params[j]? = some t → args[j]? = some v → Value.okWide Try.prog W .any base t v := hval0
  have hW' := hW
  obtain ⟨p, q, hA0, hV, rfl, hfz, hnd⟩ := hW
  have hA : DataW.TrodAll enc Try.prog W 0 (fun _ => true) true Try.f4.params.toList args.toList ds p := hA0
  rw [Try.params4] at hA hval
  obtain ⟨v0, vs0, d0, ds0, p0, q0, hargs, rfl, rfl, h0, r0⟩ := trodAll_cons hA
  obtain ⟨v1, vs1, d1, ds1, p1, q1, rfl, rfl, rfl, h1, r1⟩ := trodAll_cons r0
  obtain ⟨rfl, rfl, rfl⟩ := trodAll_nil r1
  obtain rfl : args = #[v0, v1] := by cases args; simp_all
  obtain ⟨rfl, rfl⟩ := trodVars_none hV
  have k0 := h0
  have lt0 : ∀ x ∈ p0, x.block < W.heap.size := by obtain ⟨m, hm⟩ := k0; exact DataW.trod_lt m _ _ _ hm
  obtain ⟨c0, e0, y0, z0, m0, rfl, rfl, rfl, hy0, hz0⟩ := open_agg2 Try.underlying23 (by kernel_rfl) (by kernel_rfl) (hval 0 23 v0 rfl rfl) h0
  obtain ⟨a0, ey0, rfl, w0⟩ := DataW.trod_string Try.underlying9 hy0
  obtain ⟨b0, ez0, rfl, x0⟩ := DataW.trod_int Try.underlying2 hz0
  simp only [List.cons.injEq, and_true] at ey0 ez0
  subst ey0 ez0
  obtain ⟨a1, rfl, rfl, rfl, w1⟩ := open_string Try.underlying9 (hval 1 9 v1 rfl rfl) h1
  clear hA0 hval0
  refine (walk a0 b0 a1 w0 x0 w1 W).mono fun e W' ⟨he, hg⟩ => ?_
  subst he
  exact ⟨_, rfl, _, _, _, [], _, [], hW', (trodAll_cons_mk (shut_bool Try.underlying4 _) trodAll_mk0), (trodAll_cons_mk (Below.trod laidOut (by kernel_rfl) (of_decide_eq_true (by kernel_rfl)) k0 hg lt0) (trodAll_cons_mk (shut_string Try.underlying9 w1) trodAll_mk0)), rfl, hg.frame _, fun h => by cases h⟩

theorem over : Rows.fnExactPrefixHasRow.holds Try.pinned (OpenSpec.ofChange Rows.fnExactPrefixHasSpec) :=
  OpenClaim.holds_of_wide 4 Try.f4 rfl rfl rfl rfl rfl rfl rfl ⟨rfl, rfl, rfl, rfl, rfl⟩ rfl rfl rfl rfl rfl (by kernel_rfl) Try.func4 (by kernel_rfl)
    (of_decide_eq_true (by kernel_rfl)) (by unfold Func.isWrapper; first | (rw [if_pos (by decide +kernel)]; kernel_rfl) | (rw [if_neg (by decide +kernel)]; exact ⟨rfl, rfl⟩))
    (fun os started H enc _ => lifted os started H enc)

end Go.Proofs.Ytebhljogijemoag.fnExactPrefixHas
namespace Go.Proofs.Ytebhljogijemoag
theorem fnExactPrefixHas_holds : Rows.FnExactPrefixHasSaid := fnExactPrefixHas.over
#print axioms fnExactPrefixHas_holds
end Go.Proofs.Ytebhljogijemoag
