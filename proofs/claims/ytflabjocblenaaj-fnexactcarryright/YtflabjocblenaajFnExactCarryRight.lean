/- At every two addresses, proto and data the program's CarryRight answers as the specification's: the law FnExactCarryRight returns true, and writes nothing that was there. No condition. -/
import Derived.Test.YtflabjocblenaajRows
import Derived.Test.YtflabjocblenaajSPseudo
import Derived.Test.YtflabjocblenaajICarry
import Derived.WalkKit
import Derived.ProofKit
import Derived.OpenShut
import Derived.ShutString
import Derived.ChangeOld
import Derived.Below
import Derived.Lib.SmallJoins
namespace Go.Proofs.Ytflabjocblenaaj.fnExactCarryRight
open Go.ChangeShapes Go.WideShapes Go.ChangeAt Go.RowKit Go.Joins
open Go.ChangeMaps (open_string shut_string)
set_option linter.unusedVariables false

theorem own : ownKnob Try.prog.godebug = none := by kernel_rfl
theorem laidOut : laidOutB Try.prog = true := by kernel_rfl

theorem walk (a0 : ByteArray) (a1 : ByteArray) (a2 : Int) (a3 : ByteArray) (w : World) (w0 : a0.size ≤ maxLen) (w1 : a1.size ≤ maxLen) (w2 : (Lit.int .i64 a2).wf = true) (w3 : a3.size ≤ maxLen) :
    Calls Try.prog 3 #[.string a0, .string a1, .int .i64 a2, .string a3] w fun e w' => e = .returned (.bool true) ∧ Below w.heap.size w w' := by
  unfold maxLen at w0 w1 w3
  by_cases h0 : 1048576 < a0.size
  · have h0' : (1048576 : Int) < a0.size := by omega
    go_enter Try.func3, Try.ntmps3
    go_wp2
    go_ret
    exact ⟨rfl, Below.refl _ _⟩
  by_cases h1 : 1048576 < a1.size
  · have h1' : (1048576 : Int) < a1.size := by omega
    go_enter Try.func3, Try.ntmps3
    go_wp2
    go_ret
    exact ⟨rfl, Below.refl _ _⟩
  by_cases h3 : 1048576 < a3.size
  · have h3' : (1048576 : Int) < a3.size := by omega
    go_enter Try.func3, Try.ntmps3
    go_wp2
    go_ret
    exact ⟨rfl, Below.refl _ _⟩
  replace h0 : a0.size ≤ 1048576 := by omega
  replace h1 : a1.size ≤ 1048576 := by omega
  replace h3 : a3.size ≤ 1048576 := by omega
  have HP : Hid (∀ W, Calls Try.prog 7 #[.string a0, .string a1, .int .i64 a2, .string a3] W fun e w' => e = .returned (.bool (carryOk a0 a1 a2 a3)) ∧ Below W.heap.size W w') := fun W => specCarryRight_any a0 a1 a2 a3 W h0 h1 h3
  have HI : Hid (∀ W, Calls Try.prog 8 #[.string a0, .string a1, .int .i64 a2, .string a3] W fun e w' => e = .returned (.bool (carryOk a0 a1 a2 a3)) ∧ Below W.heap.size W w') := fun W => implCarryRight_any a0 a1 a2 a3 W h0 h1 h3
  have g0 : ¬ (1048576 : Int) < a0.size := by omega
  have g1 : ¬ (1048576 : Int) < a1.size := by omega
  have g3 : ¬ (1048576 : Int) < a3.size := by omega
  generalize carryOk a0 a1 a2 a3 = ans at *
  go_enter Try.func3, Try.ntmps3
  go_wp2_with fail
  refine (HP.out _).mono ?_
  rintro e v1 ⟨rfl, q1⟩
  have G1 : Hid (Below w.heap.size w v1) := q1
  clear q1
  go_wp2_with fail
  refine (HI.out _).mono ?_
  rintro e v2 ⟨rfl, q2⟩
  have G2 : Hid (Below w.heap.size w v2) := G1.out.trans (q2.mono G1.out.size)
  clear q2 G1
  go_wp2_with fail
  go_ret
  exact ⟨rfl, G2.out⟩

set_option maxRecDepth 100000 in
theorem lifted (os : Os) (started : os.Started) (H : Type) (enc : TypeId × Value → H) :
    ReturnsInHanded {} Try.checked os 3 .any (Rows.fnExactCarryRightSpec.pre6 enc Try.prog Try.f3 Rows.fnExactCarryRightRow.domain false) (Rows.fnExactCarryRightSpec.post enc Try.prog Try.f3 false true false false) := by
  refine returnsInHanded_of_change (C := Try.checked) own started (by kernel_rfl) Try.func3
    (ChangeSpec.witness6 (enc := enc) (C := Try.checked) false ⟨#[], #[.string ByteArray.empty, .string ByteArray.empty, .int .i64 0, .string ByteArray.empty], []⟩ 8 (by kernel_rfl) (by kernel_rfl) (by kernel_rfl) (by kernel_rfl)) ?_
  intro W base args ds gs before hval0 hW hcnd _
  have hval : ∀ (j : Nat) t v, Try.f3.params[j]? = some t → args[j]? = some v → Value.okWide Try.prog W .any base t v := hval0
  have hW' := hW
  obtain ⟨p, q, hA0, hV, rfl, hfz, hnd⟩ := hW
  have hA : DataW.TrodAll enc Try.prog W 0 (fun _ => true) true Try.f3.params.toList args.toList ds p := hA0
  rw [Try.params3] at hA hval
  obtain ⟨v0, vs0, d0, ds0, p0, q0, hargs, rfl, rfl, h0, r0⟩ := trodAll_cons hA
  obtain ⟨v1, vs1, d1, ds1, p1, q1, rfl, rfl, rfl, h1, r1⟩ := trodAll_cons r0
  obtain ⟨v2, vs2, d2, ds2, p2, q2, rfl, rfl, rfl, h2, r2⟩ := trodAll_cons r1
  obtain ⟨v3, vs3, d3, ds3, p3, q3, rfl, rfl, rfl, h3, r3⟩ := trodAll_cons r2
  obtain ⟨rfl, rfl, rfl⟩ := trodAll_nil r3
  obtain rfl : args = #[v0, v1, v2, v3] := by cases args; simp_all
  obtain ⟨rfl, rfl⟩ := trodVars_none hV
  obtain ⟨a0, rfl, rfl, rfl, w0⟩ := open_string Try.underlying9 (hval 0 9 v0 rfl rfl) h0
  obtain ⟨a1, rfl, rfl, rfl, w1⟩ := open_string Try.underlying9 (hval 1 9 v1 rfl rfl) h1
  obtain ⟨a2, rfl, rfl, rfl, w2⟩ := open_int Try.underlying2 (hval 2 2 v2 rfl rfl) h2
  obtain ⟨a3, rfl, rfl, rfl, w3⟩ := open_string Try.underlying9 (hval 3 9 v3 rfl rfl) h3
  clear hA0 hval0
  refine (walk a0 a1 a2 a3 W w0 w1 w2 w3).mono fun e W' ⟨he, hg⟩ => ?_
  subst he
  exact ⟨_, rfl, _, _, _, [], _, [], hW', (trodAll_cons_mk (shut_bool Try.underlying4 _) trodAll_mk0), (trodAll_cons_mk (shut_string Try.underlying9 w0) (trodAll_cons_mk (shut_string Try.underlying9 w1) (trodAll_cons_mk (shut_int Try.underlying2 w2) (trodAll_cons_mk (shut_string Try.underlying9 w3) trodAll_mk0)))), rfl, hg.frame _, fun h => by cases h⟩

theorem over : Rows.fnExactCarryRightRow.holds Try.pinned (OpenSpec.ofChange Rows.fnExactCarryRightSpec) :=
  OpenClaim.holds_of_wide 3 Try.f3 rfl rfl rfl rfl rfl rfl rfl ⟨rfl, rfl, rfl, rfl, rfl⟩ rfl rfl rfl rfl rfl (by kernel_rfl) Try.func3 (by kernel_rfl)
    (of_decide_eq_true (by kernel_rfl)) (by unfold Func.isWrapper; first | (rw [if_pos (by decide +kernel)]; kernel_rfl) | (rw [if_neg (by decide +kernel)]; exact ⟨rfl, rfl⟩))
    (fun os started H enc _ => lifted os started H enc)

end Go.Proofs.Ytflabjocblenaaj.fnExactCarryRight
namespace Go.Proofs.Ytflabjocblenaaj
theorem fnExactCarryRight_holds : Rows.FnExactCarryRightSaid := fnExactCarryRight.over
#print axioms fnExactCarryRight_holds
end Go.Proofs.Ytflabjocblenaaj
