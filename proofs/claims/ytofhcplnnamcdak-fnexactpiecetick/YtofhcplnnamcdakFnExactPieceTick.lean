/- At every row of pieces and time the program's PieceTick answers as the specification's, its answer owns its memory, and nothing that was there is written: the law FnExactPieceTick returns true. No condition. -/
import Derived.Test.YtofhcplnnamcdakRows
import Derived.Test.YtofhcplnnamcdakSTick
import Derived.Test.YtofhcplnnamcdakIPieces
import Derived.WalkKit
import Derived.ProofKit
import Derived.OpenShut
import Derived.ShutString
import Derived.ChangeOld
import Derived.Below
import Derived.Lib.SmallJoins
namespace Go.Proofs.Ytofhcplnnamcdak.fnExactPieceTick
open Go.ChangeShapes Go.WideShapes Go.ChangeAt Go.RowKit Go.Joins
open Go.ChangeMaps (open_string shut_string)
set_option linter.unusedVariables false

theorem own : ownKnob Try.prog.godebug = none := by kernel_rfl
theorem laidOut : laidOutB Try.prog = true := by kernel_rfl

theorem walk (a0 : Option Addr) (cap0 : Nat) (r0 : List Pc) (a1 : Int) (w : World) (w0 : PcsWf r0) (x0 : SlIs pcL 8 w a0 r0) (w1 : (Lit.int .i64 a1).wf = true) :
    Calls Try.prog 3 #[.slice a0 r0.length cap0, .int .i64 a1] w fun e w' => e = .returned (.bool true) ∧ Below w.heap.size w w' := by
  have X_0 : Hid (SlIs pcL 8 w a0 r0) := x0
  have HW : Hid (PcsWf r0) := w0
  have HAU : Hid (∀ B, w.heap.size ≤ B → r0 = [] ∨ ∀ g o, a0 = some ⟨g, o, none⟩ → g ≠ B) := fun B hB => x0.upto.imp (fun x => x) fun hh g o e => Nat.ne_of_lt (Nat.lt_of_lt_of_le (hh g o e) hB)
  have HAV : Hid (∀ B, w.heap.size ≤ B → r0 = [] ∨ ∀ g o, a0 = some ⟨g, o, none⟩ → g < B) := fun B hB => x0.upto.imp (fun x => x) fun hh g o e => Nat.lt_of_lt_of_le (hh g o e) hB
  clear x0 w0 w1
  by_cases hsz : 0 ≤ szSl pieceN r0 1048576
  · have hin : PcsIn r0 := pcs_in (by omega) (by omega) hsz
    have hlen := hin.1
    have hsz' : ¬ szSl pieceN r0 1048576 < 0 := by omega
    have B_0 : Hid (Below w.heap.size w w) := Below.refl _ _
    have hyl0 : (tickPc r0 a1).length ≤ 1048576 := Nat.le_trans (tickPc_le r0 a1) hlen
    obtain ⟨ys, hys⟩ : ∃ ys, tickPc r0 a1 = ys := ⟨_, rfl⟩
    have HYS : Hid (tickPc r0 a1 = ys) := hys
    have hyl : ys.length ≤ 1048576 := by rw [← hys]; exact hyl0
    clear hsz hys hyl0
    go_enter Try.func3, Try.ntmps3
    go_wp2_with fail
    refine (szPieceS_at r0 a0 cap0 1048576 _ HW.out X_0.out (by omega) (by omega)).mono ?_
    rintro e v1 ⟨rfl, q1⟩
    generalize hsg : szSl pieceN r0 1048576 = sz at *
    have B_1 : Hid (Below w.heap.size w v1) := B_0.out.trans (q1.mono B_0.out.size)
    have X_1 : Hid (SlIs pcL 8 v1 a0 r0) := X_0.out.below q1
    clear B_0
    clear X_0
    clear q1
    go_wp2_with fail
    refine (toPieceS_any r0 a0 cap0 _ hlen X_1.out).mono ?_
    rintro e v2 ⟨rfl, q2, y2⟩
    have B_2 : Hid (Below w.heap.size w v2) := B_1.out.trans (q2.mono B_1.out.size)
    have X_2 : Hid (SlIs pcL 8 v2 a0 r0) := X_1.out.below q2
    clear B_1
    clear X_1
    have L_2 : Hid (SlLaid pcL 8 v2 v1.heap.size r0 r0.length r0.length) := y2
    clear q2 y2
    go_wp2_with fail
    refine (specPieceTick_any r0 _ _ a1 _ hin L_2.out.is).mono ?_
    rintro e v3 ⟨aw, cw, rfl, hcw, hw3, q3⟩
    clear L_2
    have B_3 : Hid (Below w.heap.size w v3) := B_2.out.trans (q3.mono B_2.out.size)
    have HZ0 : Hid (w.heap.size ≤ v3.heap.size) := B_3.out.size
    have X_3 : Hid (SlIs pcL 8 v3 a0 r0) := X_2.out.below q3
    clear B_2
    clear X_2
    have O_3 : Hid (SlIs pcL 8 v3 aw ys) := by have h := hw3.is; rw [HYS.out] at h; exact h
    rw [HYS.out]
    have hU := O_3.out.upto
    have HU : Hid (ys = [] ∨ ∀ g o, aw = some ⟨g, o, none⟩ → g < v3.heap.size) := hU
    clear q3 hw3 hcw hU
    go_wp2_with fail
    refine (toPieceS_any r0 a0 cap0 _ hlen X_3.out).mono ?_
    rintro e v4 ⟨rfl, q4, y4⟩
    have B_4 : Hid (Below w.heap.size w v4) := B_3.out.trans (q4.mono B_3.out.size)
    have X_4 : Hid (SlIs pcL 8 v4 a0 r0) := X_3.out.below q4
    have O_4 : Hid (SlIs pcL 8 v4 aw ys) := O_3.out.below q4
    clear B_3
    clear X_3
    clear O_3
    have L_4 : Hid (SlLaid pcL 8 v4 v3.heap.size r0 r0.length r0.length) := y4
    have HZB : Hid (w.heap.size ≤ v3.heap.size) := HZ0.out
    have HZC : Hid (w.heap.size ≤ v4.heap.size) := B_4.out.size
    have hlt4 : v3.heap.size < v4.heap.size := L_4.out.blk
    clear q4 y4
    go_wp2_with fail
    refine (implPieceTick_any r0 _ _ a1 _ hin L_4.out.is).mono ?_
    rintro e v5 ⟨ag, cg, rfl, hcg, hw5, q5⟩
    have B_5 : Hid (Below w.heap.size w v5) := B_4.out.trans (q5.mono B_4.out.size)
    have X_5 : Hid (SlIs pcL 8 v5 a0 r0) := X_4.out.below q5
    have O_5 : Hid (SlIs pcL 8 v5 aw ys) := O_4.out.below q5
    have L_5 : Hid (SlLaid pcL 8 v5 v3.heap.size r0 r0.length r0.length) := L_4.out.kept q5
    clear B_4
    clear X_4
    clear O_4
    clear L_4
    have G_5 : Hid (SlOwn pcL 8 v4.heap.size v5 ag ys) := by have h := hw5; rw [HYS.out] at h; exact h
    rw [HYS.out]
    clear q5 hw5 hcg
    go_wp2_with fail
    refine (eqPieceS_same ys _ _ _ _ _ hyl G_5.out.is O_5.out).mono ?_
    rintro e v6 ⟨rfl, q6⟩
    have B_6 : Hid (Below w.heap.size w v6) := B_5.out.trans (q6.mono B_5.out.size)
    have X_6 : Hid (SlIs pcL 8 v6 a0 r0) := X_5.out.below q6
    have O_6 : Hid (SlIs pcL 8 v6 aw ys) := O_5.out.below q6
    have L_6 : Hid (SlLaid pcL 8 v6 v3.heap.size r0 r0.length r0.length) := L_5.out.kept q6
    have G_6 : Hid (SlOwn pcL 8 v4.heap.size v6 ag ys) := G_5.out.kept q6
    clear B_5
    clear X_5
    clear O_5
    clear L_5
    clear G_5
    clear q6
    go_wp2_with fail
    refine (toPieceS_any r0 a0 cap0 _ hlen X_6.out).mono ?_
    rintro e v7 ⟨rfl, q7, y7⟩
    have B_7 : Hid (Below w.heap.size w v7) := B_6.out.trans (q7.mono B_6.out.size)
    have X_7 : Hid (SlIs pcL 8 v7 a0 r0) := X_6.out.below q7
    have O_7 : Hid (SlIs pcL 8 v7 aw ys) := O_6.out.below q7
    have L_7 : Hid (SlLaid pcL 8 v7 v3.heap.size r0 r0.length r0.length) := L_6.out.kept q7
    have G_7 : Hid (SlOwn pcL 8 v4.heap.size v7 ag ys) := G_6.out.kept q7
    clear B_6
    clear X_6
    clear O_6
    clear L_6
    clear G_6
    have H_7 : Hid (SlIs pcL 8 v7 (some ⟨v6.heap.size, 0, none⟩) r0) := y7.is
    clear q7 y7
    go_wp2_with fail
    refine (eqPieceS_same r0 _ _ _ _ _ hlen L_7.out.is H_7.out).mono ?_
    rintro e v8 ⟨rfl, q8⟩
    clear H_7
    have B_8 : Hid (Below w.heap.size w v8) := B_7.out.trans (q8.mono B_7.out.size)
    have X_8 : Hid (SlIs pcL 8 v8 a0 r0) := X_7.out.below q8
    have O_8 : Hid (SlIs pcL 8 v8 aw ys) := O_7.out.below q8
    have L_8 : Hid (SlLaid pcL 8 v8 v3.heap.size r0 r0.length r0.length) := L_7.out.kept q8
    have G_8 : Hid (SlOwn pcL 8 v4.heap.size v8 ag ys) := G_7.out.kept q8
    clear B_7
    clear X_7
    clear O_7
    clear L_7
    clear G_7
    clear q8
    go_wp2_with fail
    refine (markPieceS_any _ r0.length _ 1 _ (by omega) (by omega) (L_8.out.other _)).mono ?_
    rintro e v9 ⟨rfl, m9, g9⟩
    clear L_8
    have hz9 := B_8.out.size
    have B_9 : Hid (Below w.heap.size w v9) := below_grown B_8.out g9 HZB.out (by have := B_8.out.size; omega)
    have X_9 : Hid (SlIs pcL 8 v9 a0 r0) := X_8.out.grown g9 (HAU.out _ HZB.out)
    have O_9 : Hid (SlIs pcL 8 v9 aw ys) := O_8.out.grown g9 (HU.out.imp (fun x => x) fun hh g o e => Nat.ne_of_lt (hh g o e))
    have G_9 : Hid (SlOwn pcL 8 v4.heap.size v9 ag ys) := G_8.out.grown g9 hlt4
    clear B_8
    clear X_8
    clear O_8
    clear G_8
    clear m9 g9 hz9
    go_wp2_with fail
    refine (eqPieceS_same ys _ _ _ _ _ hyl G_9.out.is O_9.out).mono ?_
    rintro e v10 ⟨rfl, q10⟩
    have B_10 : Hid (Below w.heap.size w v10) := B_9.out.trans (q10.mono B_9.out.size)
    have X_10 : Hid (SlIs pcL 8 v10 a0 r0) := X_9.out.below q10
    have O_10 : Hid (SlIs pcL 8 v10 aw ys) := O_9.out.below q10
    have G_10 : Hid (SlOwn pcL 8 v4.heap.size v10 ag ys) := G_9.out.kept q10
    clear B_9
    clear X_9
    clear O_9
    clear G_9
    clear q10
    go_wp2_with fail
    refine (markPieceS_own _ ys _ _ 1 _ (by omega) (by omega) G_10.out).mono ?_
    rintro e v11 ⟨rfl, m11, q11⟩
    clear G_10
    have B_11 : Hid (Below w.heap.size w v11) := B_10.out.trans (q11.mono HZC.out)
    have X_11 : Hid (SlIs pcL 8 v11 a0 r0) := X_10.out.belowU q11 (HAV.out _ HZC.out)
    have O_11 : Hid (SlIs pcL 8 v11 aw ys) := O_10.out.belowU q11 (HU.out.imp (fun x => x) fun hh g o e => Nat.lt_trans (hh g o e) hlt4)
    clear B_10
    clear X_10
    clear O_10
    have M_11 : Hid (MkOwn 8 pieceM v4.heap.size v11 ag 1 ys.length) := m11
    clear q11 m11
    go_wp2_with fail
    refine (heldPieceS_own _ ys.length _ _ 1 _ (by omega) (by omega) M_11.out).mono ?_
    rintro e v12 ⟨rfl, q12⟩
    have B_12 : Hid (Below w.heap.size w v12) := B_11.out.trans (q12.mono B_11.out.size)
    have X_12 : Hid (SlIs pcL 8 v12 a0 r0) := X_11.out.below q12
    have O_12 : Hid (SlIs pcL 8 v12 aw ys) := O_11.out.below q12
    have M_12 : Hid (MkOwn 8 pieceM v4.heap.size v12 ag 1 ys.length) := M_11.out.kept q12
    clear B_11
    clear X_11
    clear O_11
    clear M_11
    clear q12
    go_wp2_with fail
    refine (toPieceS_any r0 a0 cap0 _ hlen X_12.out).mono ?_
    rintro e v13 ⟨rfl, q13, y13⟩
    have B_13 : Hid (Below w.heap.size w v13) := B_12.out.trans (q13.mono B_12.out.size)
    have X_13 : Hid (SlIs pcL 8 v13 a0 r0) := X_12.out.below q13
    have O_13 : Hid (SlIs pcL 8 v13 aw ys) := O_12.out.below q13
    have M_13 : Hid (MkOwn 8 pieceM v4.heap.size v13 ag 1 ys.length) := M_12.out.kept q13
    clear B_12
    clear X_12
    clear O_12
    clear M_12
    have L_13 : Hid (SlLaid pcL 8 v13 v12.heap.size r0 r0.length r0.length) := y13
    clear q13 y13
    go_wp2_with fail
    refine (implPieceTick_any r0 _ _ a1 _ hin L_13.out.is).mono ?_
    rintro e v14 ⟨ah, ch, rfl, hch, hw14, q14⟩
    clear L_13
    have B_14 : Hid (Below w.heap.size w v14) := B_13.out.trans (q14.mono B_13.out.size)
    have X_14 : Hid (SlIs pcL 8 v14 a0 r0) := X_13.out.below q14
    have O_14 : Hid (SlIs pcL 8 v14 aw ys) := O_13.out.below q14
    have M_14 : Hid (MkOwn 8 pieceM v4.heap.size v14 ag 1 ys.length) := M_13.out.kept q14
    clear B_13
    clear X_13
    clear O_13
    clear M_13
    have H_14 : Hid (SlIs pcL 8 v14 ah ys) := by have h := hw14.is; rw [HYS.out] at h; exact h
    rw [HYS.out]
    clear q14 hw14 hch
    go_wp2_with fail
    refine (eqPieceS_same ys _ _ _ _ _ hyl H_14.out O_14.out).mono ?_
    rintro e v15 ⟨rfl, q15⟩
    clear H_14
    have B_15 : Hid (Below w.heap.size w v15) := B_14.out.trans (q15.mono B_14.out.size)
    have X_15 : Hid (SlIs pcL 8 v15 a0 r0) := X_14.out.below q15
    have O_15 : Hid (SlIs pcL 8 v15 aw ys) := O_14.out.below q15
    have M_15 : Hid (MkOwn 8 pieceM v4.heap.size v15 ag 1 ys.length) := M_14.out.kept q15
    clear B_14
    clear X_14
    clear O_14
    clear M_14
    clear q15
    go_wp2_with fail
    refine (heldPieceS_own _ ys.length _ _ 1 _ (by omega) (by omega) M_15.out).mono ?_
    rintro e v16 ⟨rfl, q16⟩
    have B_16 : Hid (Below w.heap.size w v16) := B_15.out.trans (q16.mono B_15.out.size)
    have X_16 : Hid (SlIs pcL 8 v16 a0 r0) := X_15.out.below q16
    have O_16 : Hid (SlIs pcL 8 v16 aw ys) := O_15.out.below q16
    have M_16 : Hid (MkOwn 8 pieceM v4.heap.size v16 ag 1 ys.length) := M_15.out.kept q16
    clear B_15
    clear X_15
    clear O_15
    clear M_15
    clear q16
    go_wp2_with fail
    go_ret
    exact ⟨rfl, B_16.out⟩
  · have hsz' : szSl pieceN r0 1048576 < 0 := by omega
    go_enter Try.func3, Try.ntmps3
    go_wp2_with fail
    refine (szPieceS_at r0 a0 cap0 1048576 _ HW.out X_0.out (by omega) (by omega)).mono ?_
    generalize szSl pieceN r0 1048576 = sz at *
    rintro e v1 ⟨rfl, q1⟩
    go_wp2_with fail
    go_ret
    exact ⟨rfl, q1⟩

set_option maxRecDepth 100000 in
theorem lifted (os : Os) (started : os.Started) (H : Type) (enc : TypeId × Value → H) :
    ReturnsInHanded {} Try.checked os 3 .any (Rows.fnExactPieceTickSpec.pre6 enc Try.prog Try.f3 Rows.fnExactPieceTickRow.domain false) (Rows.fnExactPieceTickSpec.post enc Try.prog Try.f3 false true false false) := by
  refine returnsInHanded_of_change (C := Try.checked) own started (by kernel_rfl) Try.func3
    (ChangeSpec.witness6 (enc := enc) (C := Try.checked) false ⟨#[], #[.slice none 0 0, .int .i64 0], []⟩ 8 (by kernel_rfl) (by kernel_rfl) (by kernel_rfl) (by kernel_rfl)) ?_
  intro W base args ds gs before hval0 hW hcnd _
  have hval : ∀ (j : Nat) t v, Try.f3.params[j]? = some t → args[j]? = some v → Value.okWide Try.prog W .any base t v := hval0
  have hW' := hW
  obtain ⟨p, q, hA0, hV, rfl, hfz, hnd⟩ := hW
  have hA : DataW.TrodAll enc Try.prog W 0 (fun _ => true) true Try.f3.params.toList args.toList ds p := hA0
  rw [Try.params3] at hA hval
  obtain ⟨v0, vs0, d0, ds0, p0, q0, hargs, rfl, rfl, h0, r0⟩ := trodAll_cons hA
  obtain ⟨v1, vs1, d1, ds1, p1, q1, rfl, rfl, rfl, h1, r1⟩ := trodAll_cons r0
  obtain ⟨rfl, rfl, rfl⟩ := trodAll_nil r1
  obtain rfl : args = #[v0, v1] := by cases args; simp_all
  obtain ⟨rfl, rfl⟩ := trodVars_none hV
  obtain ⟨a0, len0, cap0, rfl⟩ := okWide_slice Try.underlying22 (hval 0 22 v0 rfl rfl)
  have k0 := h0
  have lt0 : ∀ x ∈ p0, x.block < W.heap.size := by obtain ⟨m, hm⟩ := k0; exact DataW.trod_lt m _ _ _ hm
  obtain ⟨rs0, rfl, w0, x0⟩ : ∃ rs : List Pc, rs.length = len0 ∧ PcsWf rs ∧ SlIs pcL 8 W a0 rs := by
    obtain ⟨fuel, hf⟩ := h0
    exact open_PieceS hf
  obtain ⟨a1, rfl, rfl, rfl, w1⟩ := open_int Try.underlying2 (hval 1 2 v1 rfl rfl) h1
  clear hA0 hval0
  refine (walk a0 cap0 rs0 a1 W w0 x0 w1).mono fun e W' ⟨he, hg⟩ => ?_
  subst he
  exact ⟨_, rfl, _, _, _, [], _, [], hW', (trodAll_cons_mk (shut_bool Try.underlying4 _) trodAll_mk0), (trodAll_cons_mk (Below.trod laidOut (by kernel_rfl) (of_decide_eq_true (by kernel_rfl)) k0 hg lt0) (trodAll_cons_mk (shut_int Try.underlying2 w1) trodAll_mk0)), rfl, hg.frame _, fun h => by cases h⟩

theorem over : Rows.fnExactPieceTickRow.holds Try.pinned (OpenSpec.ofChange Rows.fnExactPieceTickSpec) :=
  OpenClaim.holds_of_wide 3 Try.f3 rfl rfl rfl rfl rfl rfl rfl ⟨rfl, rfl, rfl, rfl, rfl⟩ rfl rfl rfl rfl rfl (by kernel_rfl) Try.func3 (by kernel_rfl)
    (of_decide_eq_true (by kernel_rfl)) (by unfold Func.isWrapper; first | (rw [if_pos (by decide +kernel)]; kernel_rfl) | (rw [if_neg (by decide +kernel)]; exact ⟨rfl, rfl⟩))
    (fun os started H enc _ => lifted os started H enc)

end Go.Proofs.Ytofhcplnnamcdak.fnExactPieceTick
namespace Go.Proofs.Ytofhcplnnamcdak
theorem fnExactPieceTick_holds : Rows.FnExactPieceTickSaid := fnExactPieceTick.over
#print axioms fnExactPieceTick_holds
end Go.Proofs.Ytofhcplnnamcdak
