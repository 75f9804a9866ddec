/- At every packet the program's V6Bytes answers as the specification's: the law FnExactV6Bytes returns true, and writes nothing that was there. No condition. -/
import Derived.Test.YtofhcplnnamcdaiRows
import Derived.Test.YtofhcplnnamcdaiLawV6
import Derived.Test.YtofhcplnnamcdaiSV6B
import Derived.Test.YtofhcplnnamcdaiIV6B
import Derived.WalkKit
import Derived.ProofKit
import Derived.OpenShut
import Derived.ShutString
import Derived.ChangeOld
import Derived.Below
import Derived.Lib.SmallJoins
namespace Go.Proofs.Ytofhcplnnamcdai.fnExactV6Bytes
open Go.ChangeShapes Go.WideShapes Go.ChangeAt Go.RowKit Go.Joins
open Go.ChangeMaps (open_string shut_string)
set_option linter.unusedVariables false

theorem own : ownKnob Try.prog.godebug = none := by kernel_rfl
theorem laidOut : laidOutB Try.prog = true := by kernel_rfl

theorem walk (p0 : P6) (w : World) (w0 : P6Wf p0) :
    Calls Try.prog 4 #[p6C p0] w fun e w' => e = .returned (.bool true) ∧ Below w.heap.size w w' := by
  have HS : Hid (∀ W, Calls Try.prog 9 #[p6C p0, .int .i64 1048576] W fun e w' => e = .returned (.int .i64 (szV6V p0)) ∧ Below W.heap.size W w') := fun W => szV6_any p0 W w0
  have HT : Hid (∀ W, Calls Try.prog 11 #[p6C p0] W fun e w' => e = .returned (p6C p0) ∧ Below W.heap.size W w') := fun W => toV6_any p0 W
  have HP : Hid (P6Sm p0 → ∀ W, Calls Try.prog 13 #[p6C p0] W fun e w' => e = .returned (.string (v6BytesV p0)) ∧ Below W.heap.size W w') := fun hs W => specV6Bytes_sm p0 W hs w0
  have HI : Hid (P6Sm p0 → ∀ W, Calls Try.prog 14 #[p6C p0] W fun e w' => e = .returned (.string (v6BytesV p0)) ∧ Below W.heap.size W w') := fun hs W => implV6Bytes_sm p0 W hs w0
  have HL : Hid (0 ≤ szV6V p0 → P6Sm p0) := szV6_in
  have GA : Hid (Below w.heap.size w (w.alloc (.cells #[.int .i64 p0.cls, .int .i64 p0.flow, .int .i64 p0.next, .int .i64 p0.hops, .string p0.src, .string p0.dst, .bool p0.piece, .bool p0.more, .int .i64 p0.off, .int .i64 p0.id, .string p0.data] 23))) := (Below.refl _ _).alloc (Nat.le_refl _) _
  have KA : Hid (BoxV6 (w.alloc (.cells #[.int .i64 p0.cls, .int .i64 p0.flow, .int .i64 p0.next, .int .i64 p0.hops, .string p0.src, .string p0.dst, .bool p0.piece, .bool p0.more, .int .i64 p0.off, .int .i64 p0.id, .string p0.data] 23)) w.heap.size p0) := BoxV6.new w p0
  clear w0
  generalize v6BytesV p0 = ans at *
  generalize szV6V p0 = sz at *
  by_cases hsz : 0 ≤ sz
  · have hsm := HL.out hsz
    replace HP := HP.out hsm
    replace HI := HI.out hsm
    have HP : Hid _ := HP
    have HI : Hid _ := HI
    have hsz' : ¬ sz < 0 := by omega
    clear hsz hsm HL
    obtain ⟨cls, flow, next, hops, src, dst, piece, more, off, id, data⟩ := p0
    unfold p6C at *
    dsimp only at *
    go_enter Try.func4, Try.ntmps4
    go_wp2_with fail
    refine (HS.out _).mono ?_
    rintro e v1 ⟨rfl, q1⟩
    have G1 : Hid (Below w.heap.size w v1) := GA.out.trans (q1.mono GA.out.size)
    have K1 : Hid (BoxV6 v1 w.heap.size ⟨cls, flow, next, hops, src, dst, piece, more, off, id, data⟩) := KA.out.kept q1
    clear q1 GA KA
    obtain ⟨k0, k1, k2, k3, k4, k5, k6, k7, k8, k9, k10⟩ := K1.out
    go_wp2_with fail
    refine (HT.out _).mono ?_
    rintro e v2 ⟨rfl, q2⟩
    have G2 : Hid (Below w.heap.size w v2) := G1.out.trans (q2.mono G1.out.size)
    have K2 : Hid (BoxV6 v2 w.heap.size ⟨cls, flow, next, hops, src, dst, piece, more, off, id, data⟩) := K1.out.kept q2
    clear q2 G1 K1
    clear k0 k1 k2 k3 k4 k5 k6 k7 k8 k9 k10
    go_wp2_with fail
    refine (HP.out _).mono ?_
    rintro e v3 ⟨rfl, q3⟩
    have G3 : Hid (Below w.heap.size w v3) := G2.out.trans (q3.mono G2.out.size)
    have K3 : Hid (BoxV6 v3 w.heap.size ⟨cls, flow, next, hops, src, dst, piece, more, off, id, data⟩) := K2.out.kept q3
    clear q3 G2 K2
    obtain ⟨k0, k1, k2, k3, k4, k5, k6, k7, k8, k9, k10⟩ := K3.out
    go_wp2_with fail
    refine (HT.out _).mono ?_
    rintro e v4 ⟨rfl, q4⟩
    have G4 : Hid (Below w.heap.size w v4) := G3.out.trans (q4.mono G3.out.size)
    have K4 : Hid (BoxV6 v4 w.heap.size ⟨cls, flow, next, hops, src, dst, piece, more, off, id, data⟩) := K3.out.kept q4
    clear q4 G3 K3
    clear k0 k1 k2 k3 k4 k5 k6 k7 k8 k9 k10
    go_wp2_with fail
    refine (HI.out _).mono ?_
    rintro e v5 ⟨rfl, q5⟩
    have G5 : Hid (Below w.heap.size w v5) := G4.out.trans (q5.mono G4.out.size)
    have K5 : Hid (BoxV6 v5 w.heap.size ⟨cls, flow, next, hops, src, dst, piece, more, off, id, data⟩) := K4.out.kept q5
    clear q5 G4 K4
    go_wp2_with fail
    go_ret
    exact ⟨rfl, G5.out⟩
  · have hsz' : sz < 0 := by omega
    clear HL HP HI HT hsz
    obtain ⟨cls, flow, next, hops, src, dst, piece, more, off, id, data⟩ := p0
    unfold p6C at *
    dsimp only at *
    go_enter Try.func4, Try.ntmps4
    go_wp2_with fail
    refine (HS.out _).mono ?_
    rintro e v1 ⟨rfl, q1⟩
    go_wp2_with fail
    go_ret
    exact ⟨rfl, GA.out.trans (q1.mono GA.out.size)⟩

set_option maxRecDepth 100000 in
theorem lifted (os : Os) (started : os.Started) (H : Type) (enc : TypeId × Value → H) :
    ReturnsInHanded {} Try.checked os 4 .any (Rows.fnExactV6BytesSpec.pre6 enc Try.prog Try.f4 Rows.fnExactV6BytesRow.domain false) (Rows.fnExactV6BytesSpec.post enc Try.prog Try.f4 false true false false) := by
  refine returnsInHanded_of_change (C := Try.checked) own started (by kernel_rfl) Try.func4
    (ChangeSpec.witness6 (enc := enc) (C := Try.checked) false ⟨#[], #[.agg #[.int .i64 0, .int .i64 0, .int .i64 0, .int .i64 0, .string ByteArray.empty, .string ByteArray.empty, .bool false, .bool false, .int .i64 0, .int .i64 0, .string ByteArray.empty]], []⟩ 8 (by kernel_rfl) (by kernel_rfl) (by kernel_rfl) (by kernel_rfl)) ?_
  intro W base args ds gs before hval0 hW hcnd _
  have hval : ∀ (j : Nat) t v, Try.f4.params[j]? = some t → args[j]? = some v → Value.okWide Try.prog W .any base t v := hval0
  have hW' := hW
  obtain ⟨p, q, hA0, hV, rfl, hfz, hnd⟩ := hW
  have hA : DataW.TrodAll enc Try.prog W 0 (fun _ => true) true Try.f4.params.toList args.toList ds p := hA0
  rw [Try.params4] at hA hval
  obtain ⟨v0, vs0, d0, ds0, p0, q0, hargs, rfl, rfl, h0, r0⟩ := trodAll_cons hA
  obtain ⟨rfl, rfl, rfl⟩ := trodAll_nil r0
  obtain rfl : args = #[v0] := by cases args; simp_all
  obtain ⟨rfl, rfl⟩ := trodVars_none hV
  have k0 := h0
  have lt0 : ∀ x ∈ p0, x.block < W.heap.size := by obtain ⟨m, hm⟩ := k0; exact DataW.trod_lt m _ _ _ hm
  obtain ⟨a0, rfl, w0⟩ := open_V6 (hval 0 23 v0 rfl rfl) h0
  clear hA0 hval0
  refine (walk a0 W w0).mono fun e W' ⟨he, hg⟩ => ?_
  subst he
  exact ⟨_, rfl, _, _, _, [], _, [], hW', (trodAll_cons_mk (shut_bool Try.underlying4 _) trodAll_mk0), (trodAll_cons_mk (Below.trod laidOut (by kernel_rfl) (of_decide_eq_true (by kernel_rfl)) k0 hg lt0) trodAll_mk0), rfl, hg.frame _, fun h => by cases h⟩

theorem over : Rows.fnExactV6BytesRow.holds Try.pinned (OpenSpec.ofChange Rows.fnExactV6BytesSpec) :=
  OpenClaim.holds_of_wide 4 Try.f4 rfl rfl rfl rfl rfl rfl rfl ⟨rfl, rfl, rfl, rfl, rfl⟩ rfl rfl rfl rfl rfl (by kernel_rfl) Try.func4 (by kernel_rfl)
    (of_decide_eq_true (by kernel_rfl)) (by unfold Func.isWrapper; first | (rw [if_pos (by decide +kernel)]; kernel_rfl) | (rw [if_neg (by decide +kernel)]; exact ⟨rfl, rfl⟩))
    (fun os started H enc _ => lifted os started H enc)

end Go.Proofs.Ytofhcplnnamcdai.fnExactV6Bytes
namespace Go.Proofs.Ytofhcplnnamcdai
theorem fnExactV6Bytes_holds : Rows.FnExactV6BytesSaid := fnExactV6Bytes.over
#print axioms fnExactV6Bytes_holds
end Go.Proofs.Ytofhcplnnamcdai
