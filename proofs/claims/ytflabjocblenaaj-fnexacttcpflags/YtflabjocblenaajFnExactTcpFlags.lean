/- At every text the program's TcpFlags answers as the specification's: the law FnExactTcpFlags returns true, and writes nothing that was there. No condition. -/
import Derived.Test.YtflabjocblenaajRows
import Derived.Test.YtflabjocblenaajSFlow
import Derived.Test.YtflabjocblenaajIFlow
import Derived.WalkKit
import Derived.ProofKit
import Derived.OpenShut
import Derived.ShutString
import Derived.ChangeOld
import Derived.Below
import Derived.Lib.SmallJoins
namespace Go.Proofs.Ytflabjocblenaaj.fnExactTcpFlags
open Go.ChangeShapes Go.WideShapes Go.ChangeAt Go.RowKit Go.Joins
open Go.ChangeMaps (open_string shut_string)
set_option linter.unusedVariables false

theorem own : ownKnob Try.prog.godebug = none := by kernel_rfl
theorem laidOut : laidOutB Try.prog = true := by kernel_rfl

theorem walk (a0 : ByteArray) (w : World) (w0 : a0.size ≤ maxLen) :
    Calls Try.prog 5 #[.string a0] w fun e w' => e = .returned (.bool true) ∧ Below w.heap.size w w' := by
  unfold maxLen at w0
  by_cases h0 : 1048576 < a0.size
  · have h0' : (1048576 : Int) < a0.size := by omega
    go_enter Try.func5, Try.ntmps5
    go_wp2
    go_ret
    exact ⟨rfl, Below.refl _ _⟩
  replace h0 : a0.size ≤ 1048576 := by omega
  have HP : Hid (∀ W, Calls Try.prog 14 #[.string a0] W fun e w' => e = .returned (.int .i64 (tcpFlagsV a0)) ∧ Below W.heap.size W w') := fun W => specTcpFlags_any a0 W h0
  have HI : Hid (∀ W, Calls Try.prog 15 #[.string a0] W fun e w' => e = .returned (.int .i64 (tcpFlagsV a0)) ∧ Below W.heap.size W w') := fun W => implTcpFlags_any a0 W h0
  have g0 : ¬ (1048576 : Int) < a0.size := by omega
  generalize tcpFlagsV a0 = ans at *
  go_enter Try.func5, Try.ntmps5
  go_wp2_with fail
  refine (HP.out _).mono ?_
  rintro e v1 ⟨rfl, q1⟩
  have G1 : Hid (Below w.heap.size w v1) := q1
  clear q1
  go_wp2_with fail
  refine (HI.out _).mono ?_
  rintro e v2 ⟨rfl, q2⟩
  have G2 : Hid (Below w.heap.size w v2) := G1.out.trans (q2.mono G1.out.size)
  clear q2 G1
  go_wp2_with fail
  go_ret
  exact ⟨rfl, G2.out⟩

set_option maxRecDepth 100000 in
theorem lifted (os : Os) (started : os.Started) (H : Type) (enc : TypeId × Value → H) :
    ReturnsInHanded {} Try.checked os 5 .any (Rows.fnExactTcpFlagsSpec.pre6 enc Try.prog Try.f5 Rows.fnExactTcpFlagsRow.domain false) (Rows.fnExactTcpFlagsSpec.post enc Try.prog Try.f5 false true false false) := by
  refine returnsInHanded_of_change (C := Try.checked) own started (by kernel_rfl) Try.func5
    (ChangeSpec.witness6 (enc := enc) (C := Try.checked) false ⟨#[], #[.string ByteArray.empty], []⟩ 8 (by kernel_rfl) (by kernel_rfl) (by kernel_rfl) (by kernel_rfl)) ?_
  intro W base args ds gs before hval0 hW hcnd _
  have hval : ∀ (j : Nat) t v, Try.f5.params[j]? = some t → args[j]? = some v → Value.okWide Try.prog W .any base t v := hval0
  have hW' := hW
  obtain ⟨p, q, hA0, hV, rfl, hfz, hnd⟩ := hW
  have hA : DataW.TrodAll enc Try.prog W 0 (fun _ => true) true Try.f5.params.toList args.toList ds p := hA0
  rw [Try.params5] at hA hval
  obtain ⟨v0, vs0, d0, ds0, p0, q0, hargs, rfl, rfl, h0, r0⟩ := trodAll_cons hA
  obtain ⟨rfl, rfl, rfl⟩ := trodAll_nil r0
  obtain rfl : args = #[v0] := by cases args; simp_all
  obtain ⟨rfl, rfl⟩ := trodVars_none hV
  obtain ⟨a0, rfl, rfl, rfl, w0⟩ := open_string Try.underlying9 (hval 0 9 v0 rfl rfl) h0
  clear hA0 hval0
  refine (walk a0 W w0).mono fun e W' ⟨he, hg⟩ => ?_
  subst he
  exact ⟨_, rfl, _, _, _, [], _, [], hW', (trodAll_cons_mk (shut_bool Try.underlying4 _) trodAll_mk0), (trodAll_cons_mk (shut_string Try.underlying9 w0) trodAll_mk0), rfl, hg.frame _, fun h => by cases h⟩

theorem over : Rows.fnExactTcpFlagsRow.holds Try.pinned (OpenSpec.ofChange Rows.fnExactTcpFlagsSpec) :=
  OpenClaim.holds_of_wide 5 Try.f5 rfl rfl rfl rfl rfl rfl rfl ⟨rfl, rfl, rfl, rfl, rfl⟩ rfl rfl rfl rfl rfl (by kernel_rfl) Try.func5 (by kernel_rfl)
    (of_decide_eq_true (by kernel_rfl)) (by unfold Func.isWrapper; first | (rw [if_pos (by decide +kernel)]; kernel_rfl) | (rw [if_neg (by decide +kernel)]; exact ⟨rfl, rfl⟩))
    (fun os started H enc _ => lifted os started H enc)

end Go.Proofs.Ytflabjocblenaaj.fnExactTcpFlags
namespace Go.Proofs.Ytflabjocblenaaj
theorem fnExactTcpFlags_holds : Rows.FnExactTcpFlagsSaid := fnExactTcpFlags.over
#print axioms fnExactTcpFlags_holds
end Go.Proofs.Ytflabjocblenaaj
