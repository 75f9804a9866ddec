/- At every row of pieces the program's PiecesRight answers as the specification's PiecesRight: the law FnExactPiecesRight returns true, and writes nothing that was there. No condition. -/
import Derived.Test.YtofhcplnnamcdajRows
import Derived.Test.YtofhcplnnamcdajSTick
import Derived.Test.YtofhcplnnamcdajIGather
import Derived.WalkKit
import Derived.ProofKit
import Derived.OpenShut
import Derived.ShutString
import Derived.ChangeOld
import Derived.Below
import Derived.Lib.SmallJoins
namespace Go.Proofs.Ytofhcplnnamcdaj.fnExactPiecesRight
open Go.ChangeShapes Go.WideShapes Go.ChangeAt Go.RowKit Go.Joins
open Go.ChangeMaps (open_string shut_string)
set_option linter.unusedVariables false

theorem own : ownKnob Try.prog.godebug = none := by kernel_rfl
theorem laidOut : laidOutB Try.prog = true := by kernel_rfl

theorem walk (a0 : Option Addr) (cap0 : Nat) (r0 : List Pc) (w : World) (w0 : PcsWf r0) (x0 : SlIs pcL 8 w a0 r0) :
    Calls Try.prog 7 #[.slice a0 r0.length cap0] w fun e w' => e = .returned (.bool true) ∧ Below w.heap.size w w' := by
  have HX : Hid (SlIs pcL 8 w a0 r0) := x0
  have HW : Hid (PcsWf r0) := w0
  have HS : Hid (∀ W, SlIs pcL 8 W a0 r0 → Calls Try.prog 22 #[.slice a0 r0.length cap0, .int .i64 1048576] W fun e w' => e = .returned (.int .i64 (szSl pieceN r0 1048576)) ∧ Below W.heap.size W w') := fun W hW => szPieceS_at r0 a0 cap0 1048576 W w0 hW (by omega) (by omega)
  clear x0 w0
  by_cases hsz : 0 ≤ szSl pieceN r0 1048576
  · have hin : PcsIn r0 := pcs_in (by omega) (by omega) hsz
    have hlen := hin.1
    have HT : Hid (∀ W, SlIs pcL 8 W a0 r0 → Calls Try.prog 24 #[.slice a0 r0.length cap0] W fun e w' => e = .returned (.slice (some ⟨W.heap.size, 0, none⟩) r0.length r0.length) ∧ Below W.heap.size W w' ∧ SlLaid pcL 8 w' W.heap.size r0 r0.length r0.length) := fun W hW => toPieceS_any r0 a0 cap0 W hlen hW
    have hsz' : ¬ szSl pieceN r0 1048576 < 0 := by omega
    clear hsz
    go_enter Try.func7, Try.ntmps7
    go_wp2_with fail
    refine (HS.out _ HX.out).mono ?_
    generalize szSl pieceN r0 1048576 = sz at *
    rintro e w1 ⟨rfl, q1⟩
    have H1 : Hid (Below w.heap.size w w1) := q1
    clear q1
    go_wp2_with fail
    refine (HT.out _ (HX.out.below H1.out)).mono ?_
    rintro e w2 ⟨rfl, q2, y2⟩
    have H2 : Hid (Below w.heap.size w w2) := H1.out.trans (q2.mono H1.out.size)
    have Y2 : Hid (SlLaid pcL 8 w2 w1.heap.size r0 r0.length r0.length) := y2
    clear q2 y2
    go_wp2_with fail
    refine (specPiecesRight_any r0 _ _ _ hin Y2.out.is).mono ?_
    generalize hok : piecesOk r0 = ok
    have HI : Hid (∀ (b : Nat) (W : World), SlIs pcL 8 W (some ⟨b, 0, none⟩) r0 → Calls Try.prog 25 #[.slice (some ⟨b, 0, none⟩) r0.length r0.length] W fun e w' => e = .returned (.bool ok) ∧ Below W.heap.size W w') := fun b W hr => by rw [← hok]; exact implPiecesRight_any r0 _ _ W hin hr
    clear hok
    rintro e w3 ⟨rfl, q3⟩
    have H3 : Hid (Below w.heap.size w w3) := H2.out.trans (q3.mono H2.out.size)
    clear q3 Y2
    go_wp2_with fail
    refine (HT.out _ (HX.out.below H3.out)).mono ?_
    rintro e w4 ⟨rfl, q4, y4⟩
    have H4 : Hid (Below w.heap.size w w4) := H3.out.trans (q4.mono H3.out.size)
    have Y4 : Hid (SlLaid pcL 8 w4 w3.heap.size r0 r0.length r0.length) := y4
    clear q4 y4
    go_wp2_with fail
    refine (HI.out _ _ Y4.out.is).mono ?_
    rintro e w5 ⟨rfl, q5⟩
    have H5 : Hid (Below w.heap.size w w5) := H4.out.trans (q5.mono H4.out.size)
    have Y5 : Hid (SlLaid pcL 8 w5 w3.heap.size r0 r0.length r0.length) := Y4.out.kept q5
    clear q5 Y4 HI
    go_wp2_with fail
    refine (HT.out _ (HX.out.below H5.out)).mono ?_
    rintro e w6 ⟨rfl, q6, y6⟩
    have H6 : Hid (Below w.heap.size w w6) := H5.out.trans (q6.mono H5.out.size)
    have Y6 : Hid (SlLaid pcL 8 w6 w5.heap.size r0 r0.length r0.length) := y6
    have Z6 : Hid (SlLaid pcL 8 w6 w3.heap.size r0 r0.length r0.length) := Y5.out.kept q6
    clear q6 y6 Y5
    go_wp2_with fail
    refine (eqPieceS_same r0 _ _ _ _ _ hlen Z6.out.is Y6.out.is).mono ?_
    rintro e w7 ⟨rfl, q7⟩
    have H7 : Hid (Below w.heap.size w w7) := H6.out.trans (q7.mono H6.out.size)
    clear q7
    go_wp2_with fail
    go_ret
    exact ⟨rfl, H7.out⟩
  · have hsz' : szSl pieceN r0 1048576 < 0 := by omega
    go_enter Try.func7, Try.ntmps7
    go_wp2_with fail
    refine (HS.out _ HX.out).mono ?_
    generalize szSl pieceN r0 1048576 = sz at *
    rintro e w1 ⟨rfl, q1⟩
    go_wp2_with fail
    go_ret
    exact ⟨rfl, q1⟩

set_option maxRecDepth 100000 in
theorem lifted (os : Os) (started : os.Started) (H : Type) (enc : TypeId × Value → H) :
    ReturnsInHanded {} Try.checked os 7 .any (Rows.fnExactPiecesRightSpec.pre6 enc Try.prog Try.f7 Rows.fnExactPiecesRightRow.domain false) (Rows.fnExactPiecesRightSpec.post enc Try.prog Try.f7 false true false false) := by
  refine returnsInHanded_of_change (C := Try.checked) own started (by kernel_rfl) Try.func7
    (ChangeSpec.witness6 (enc := enc) (C := Try.checked) false ⟨#[], #[.slice none 0 0], []⟩ 8 (by kernel_rfl) (by kernel_rfl) (by kernel_rfl) (by kernel_rfl)) ?_
  intro W base args ds gs before hval0 hW hcnd _
  have hval : ∀ (j : Nat) t v, Try.f7.params[j]? = some t → args[j]? = some v → Value.okWide Try.prog W .any base t v := hval0
  have hW' := hW
  obtain ⟨p, q, hA0, hV, rfl, hfz, hnd⟩ := hW
  have hA : DataW.TrodAll enc Try.prog W 0 (fun _ => true) true Try.f7.params.toList args.toList ds p := hA0
  rw [Try.params7] at hA hval
  obtain ⟨v0, vs0, d0, ds0, p0, q0, hargs, rfl, rfl, h0, r0⟩ := trodAll_cons hA
  obtain ⟨rfl, rfl, rfl⟩ := trodAll_nil r0
  obtain rfl : args = #[v0] := by cases args; simp_all
  obtain ⟨rfl, rfl⟩ := trodVars_none hV
  obtain ⟨a0, len0, cap0, rfl⟩ := okWide_slice Try.underlying42 (hval 0 42 v0 rfl rfl)
  have k0 := h0
  have lt0 : ∀ x ∈ p0, x.block < W.heap.size := by obtain ⟨m, hm⟩ := k0; exact DataW.trod_lt m _ _ _ hm
  obtain ⟨rs0, rfl, w0, x0⟩ : ∃ rs : List Pc, rs.length = len0 ∧ PcsWf rs ∧ SlIs pcL 8 W a0 rs := by
    obtain ⟨fuel, hf⟩ := h0
    exact open_PieceS hf
  clear hA0 hval0
  refine (walk a0 cap0 rs0 W w0 x0).mono fun e W' ⟨he, hg⟩ => ?_
  subst he
  exact ⟨_, rfl, _, _, _, [], _, [], hW', (trodAll_cons_mk (shut_bool Try.underlying4 _) trodAll_mk0), (trodAll_cons_mk (Below.trod laidOut (by kernel_rfl) (of_decide_eq_true (by kernel_rfl)) k0 hg lt0) trodAll_mk0), rfl, hg.frame _, fun h => by cases h⟩

theorem over : Rows.fnExactPiecesRightRow.holds Try.pinned (OpenSpec.ofChange Rows.fnExactPiecesRightSpec) :=
  OpenClaim.holds_of_wide 7 Try.f7 rfl rfl rfl rfl rfl rfl rfl ⟨rfl, rfl, rfl, rfl, rfl⟩ rfl rfl rfl rfl rfl (by kernel_rfl) Try.func7 (by kernel_rfl)
    (of_decide_eq_true (by kernel_rfl)) (by unfold Func.isWrapper; first | (rw [if_pos (by decide +kernel)]; kernel_rfl) | (rw [if_neg (by decide +kernel)]; exact ⟨rfl, rfl⟩))
    (fun os started H enc _ => lifted os started H enc)

end Go.Proofs.Ytofhcplnnamcdaj.fnExactPiecesRight
namespace Go.Proofs.Ytofhcplnnamcdaj
theorem fnExactPiecesRight_holds : Rows.FnExactPiecesRightSaid := fnExactPiecesRight.over
#print axioms fnExactPiecesRight_holds
end Go.Proofs.Ytofhcplnnamcdaj
