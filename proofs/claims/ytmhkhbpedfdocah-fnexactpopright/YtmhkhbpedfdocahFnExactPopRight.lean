/- At every table the program's PopRight answers as the specification's PopRight: the law FnExactPopRight returns true, and writes nothing that was there. No condition. -/
import Derived.Test.YtmhkhbpedfdocahRows
import Derived.Test.YtmhkhbpedfdocahLawPopT
import Derived.Test.YtmhkhbpedfdocahIPopR
import Derived.Deep.RegionHeld
import Derived.WalkKit
import Derived.ProofKit
import Derived.OpenShut
import Derived.ShutString
import Derived.ChangeOld
import Derived.Below
import Derived.Lib.SmallJoins
namespace Go.Proofs.Ytmhkhbpedfdocah.fnExactPopRight
open Go.ChangeShapes Go.WideShapes Go.ChangeAt Go.RowKit Go.Joins
open Go.ChangeMaps (open_string shut_string)
set_option linter.unusedVariables false

theorem own : ownKnob Try.prog.godebug = none := by kernel_rfl
theorem laidOut : laidOutB Try.prog = true := by kernel_rfl

theorem walk (a0 b0 : Option Addr) (cap0 cbp0 : Nat) (n0 : List Pn) (l0 : List Int) (w : World) (w0 : n0.length ≤ maxLen ∧ PnsIn n0) (x0 : PnsIs w a0 n0) (y0 : l0.length ≤ maxLen ∧ IntsIn l0) (z0 : IntsIs w b0 l0) :
    Calls Try.prog 5 #[.agg #[.slice a0 n0.length cap0, .slice b0 l0.length cbp0]] w fun e w' => e = .returned (.bool true) ∧ Below w.heap.size w w' := by
  have H1 : Hid (PnsIs w a0 n0) := x0
  have H2 : Hid (IntsIs w b0 l0) := z0
  have HS : Hid (∀ W, Calls Try.prog 17 #[.agg #[.slice a0 n0.length cap0, .slice b0 l0.length cbp0], .int .i64 1048576] W fun e w' => e = .returned (.int .i64 (szPopV n0.length l0.length)) ∧ Below W.heap.size W w') := fun W => szPop_any n0.length l0.length cap0 cbp0 a0 b0 W w0.1 y0.1
  have hin : PnsIn n0 := w0.2
  have hil : IntsIn l0 := y0.2
  have GA : Hid (Below w.heap.size w (w.alloc (.cells #[.slice a0 n0.length cap0, .slice b0 l0.length cbp0] 38))) := (Below.refl _ _).alloc (Nat.le_refl _) _
  have KA : Hid (BoxP (w.alloc (.cells #[.slice a0 n0.length cap0, .slice b0 l0.length cbp0] 38)) w.heap.size (.slice a0 n0.length cap0) (.slice b0 l0.length cbp0)) := BoxP.new w _ _
  clear x0 z0 w0 y0
  by_cases hsz : 0 ≤ szPopV n0.length l0.length
  · obtain ⟨hl1, hl2⟩ := szPop_in hsz
    have HT : Hid (∀ W, PnsIs W a0 n0 → IntsIs W b0 l0 → Calls Try.prog 19 #[.agg #[.slice a0 n0.length cap0, .slice b0 l0.length cbp0]] W fun e w' => ∃ B C : Nat, e = .returned (.agg #[.slice (some ⟨B, 0, none⟩) n0.length n0.length, .slice (some ⟨C, 0, none⟩) l0.length l0.length]) ∧ Below W.heap.size W w' ∧ W.heap.size ≤ B ∧ W.heap.size ≤ C ∧ PnsLaid w' B n0 n0.length ∧ IntsLaid w' C l0 l0.length) := fun W hW hV => toPop_any n0 l0 a0 b0 cap0 cbp0 W hl1 hl2 hW hV
    have hsz' : ¬ szPopV n0.length l0.length < 0 := by omega
    clear hsz
    go_enter Try.func5, Try.ntmps5
    go_wp2_with fail
    refine (HS.out _).mono ?_
    generalize szPopV n0.length l0.length = sz at *
    rintro e v1 ⟨rfl, q1⟩
    have G1 : Hid (Below w.heap.size w v1) := GA.out.trans (q1.mono GA.out.size)
    have K1 : Hid (BoxP v1 w.heap.size (.slice a0 n0.length cap0) (.slice b0 l0.length cbp0)) := KA.out.kept q1
    obtain ⟨k0, k1⟩ := K1.out
    clear q1 GA KA
    go_wp2_with fail
    refine (HT.out _ (H1.out.below G1.out) (H2.out.below G1.out)).mono ?_
    rintro e v2 ⟨B2, C2, rfl, q2, bb2, cc2, y2, z2⟩
    have G2 : Hid (Below w.heap.size w v2) := G1.out.trans (q2.mono G1.out.size)
    have K2 : Hid (BoxP v2 w.heap.size (.slice a0 n0.length cap0) (.slice b0 l0.length cbp0)) := K1.out.kept q2
    have P2 : Hid (PnsIs v2 (some ⟨B2, 0, none⟩) n0) := .inr ⟨B2, 0, rfl, y2.blk, y2.at⟩
    have R2 : Hid (IntsIs v2 (some ⟨C2, 0, none⟩) l0) := .inr ⟨C2, 0, rfl, z2.blk, z2.at⟩
    clear q2 y2 z2 bb2 cc2 k0 k1 K1
    go_wp2_with fail
    refine (specPopRight_any n0 l0 _ _ _ _ _ hl1 hl2 hin hil P2.out R2.out).mono ?_
    generalize hok : popOk n0 l0 = ok
    have HI : Hid (∀ (B C : Nat) (W : World), PnsIs W (some ⟨B, 0, none⟩) n0 → IntsIs W (some ⟨C, 0, none⟩) l0 → Calls Try.prog 22 #[.agg #[.slice (some ⟨B, 0, none⟩) n0.length n0.length, .slice (some ⟨C, 0, none⟩) l0.length l0.length]] W fun e w' => e = .returned (.bool ok) ∧ Below W.heap.size W w') := fun B C W hp hq => by rw [← hok]; exact implPopRight_any n0 l0 _ _ _ _ W hl1 hl2 hin hil hp hq
    clear hok
    rintro e v3 ⟨rfl, q3⟩
    have G3 : Hid (Below w.heap.size w v3) := G2.out.trans (q3.mono G2.out.size)
    have K3 : Hid (BoxP v3 w.heap.size (.slice a0 n0.length cap0) (.slice b0 l0.length cbp0)) := K2.out.kept q3
    obtain ⟨k0, k1⟩ := K3.out
    clear q3 P2 R2 K2
    go_wp2_with fail
    refine (HT.out _ (H1.out.below G3.out) (H2.out.below G3.out)).mono ?_
    rintro e v4 ⟨B4, C4, rfl, q4, bb4, cc4, y4, z4⟩
    have GB : Hid (Below v4.heap.size v4 (v4.alloc (.cells #[.slice (some ⟨B4, 0, none⟩) n0.length n0.length, .slice (some ⟨C4, 0, none⟩) l0.length l0.length] 27))) := (Below.refl _ _).alloc (Nat.le_refl _) _
    have G4a : Hid (Below w.heap.size w v4) := G3.out.trans (q4.mono G3.out.size)
    have G4 : Hid (Below w.heap.size w (v4.alloc (.cells #[.slice (some ⟨B4, 0, none⟩) n0.length n0.length, .slice (some ⟨C4, 0, none⟩) l0.length l0.length] 27))) := G4a.out.trans (GB.out.mono G4a.out.size)
    have K4 : Hid (BoxP (v4.alloc (.cells #[.slice (some ⟨B4, 0, none⟩) n0.length n0.length, .slice (some ⟨C4, 0, none⟩) l0.length l0.length] 27)) w.heap.size (.slice a0 n0.length cap0) (.slice b0 l0.length cbp0)) := (K3.out.kept q4).kept GB.out
    have X4 : Hid (BoxP (v4.alloc (.cells #[.slice (some ⟨B4, 0, none⟩) n0.length n0.length, .slice (some ⟨C4, 0, none⟩) l0.length l0.length] 27)) v4.heap.size (.slice (some ⟨B4, 0, none⟩) n0.length n0.length) (.slice (some ⟨C4, 0, none⟩) l0.length l0.length)) := BoxP.new v4 _ _
    have Y4 : Hid (PnsLaid (v4.alloc (.cells #[.slice (some ⟨B4, 0, none⟩) n0.length n0.length, .slice (some ⟨C4, 0, none⟩) l0.length l0.length] 27)) B4 n0 n0.length) := y4.below y4.blk GB.out
    have Z4 : Hid (IntsLaid (v4.alloc (.cells #[.slice (some ⟨B4, 0, none⟩) n0.length n0.length, .slice (some ⟨C4, 0, none⟩) l0.length l0.length] 27)) C4 l0 l0.length) := z4.below z4.blk GB.out
    clear q4 y4 z4 bb4 cc4 k0 k1 K3 GB G4a
    go_wp2_with fail
    refine (HI.out _ _ _ (.inr ⟨B4, 0, rfl, Y4.out.blk, Y4.out.at⟩) (.inr ⟨C4, 0, rfl, Z4.out.blk, Z4.out.at⟩)).mono ?_
    rintro e v5 ⟨rfl, q5⟩
    have G5 : Hid (Below w.heap.size w v5) := G4.out.trans (q5.mono G4.out.size)
    have Y5 : Hid (PnsLaid v5 B4 n0 n0.length) := Y4.out.below Y4.out.blk q5
    have Z5 : Hid (IntsLaid v5 C4 l0 l0.length) := Z4.out.below Z4.out.blk q5
    have K5 : Hid (BoxP v5 w.heap.size (.slice a0 n0.length cap0) (.slice b0 l0.length cbp0)) := K4.out.kept q5
    have X5 : Hid (BoxP v5 v4.heap.size (.slice (some ⟨B4, 0, none⟩) n0.length n0.length) (.slice (some ⟨C4, 0, none⟩) l0.length l0.length)) := X4.out.kept q5
    obtain ⟨k0, k1⟩ := K5.out
    obtain ⟨xx0, xx1⟩ := X5.out
    generalize v4.heap.size = X at *
    clear q5 Y4 Z4 HI K4 X4 G4
    go_wp2_with fail
    go_region_held (fun w' => w'.cell? ⟨X, 0, none⟩ = some (.slice (some ⟨B4, 0, none⟩) n0.length n0.length) ∧ w'.cell? ⟨X, 1, none⟩ = some (.slice (some ⟨C4, 0, none⟩) l0.length l0.length) ∧ w'.cell? ⟨w.heap.size, 0, none⟩ = some (.slice a0 n0.length cap0) ∧ w'.cell? ⟨w.heap.size, 1, none⟩ = some (.slice b0 l0.length cbp0)) (go_keep) (first | (go_at_call 19; refine (HT.out _ (H1.out.below G5.out.drew) (H2.out.below G5.out.drew)).mono ?_; rintro e v6 ⟨B6, C6, rfl, q6, bb6, cc6, y6, z6⟩; have hk := boxes_kept (by assumption) q6; have G6 : Hid (Below w.heap.size w v6) := G5.out.drew.trans (q6.mono G5.out.drew.size); have YY : Hid (PnsLaid v6 B4 n0 n0.length) := (Y5.out.below Y5.out.blk (Below.refl _ _).drew).below Y5.out.blk q6; have ZZ : Hid (IntsLaid v6 C4 l0 l0.length) := (Z5.out.below Z5.out.blk (Below.refl _ _).drew).below Z5.out.blk q6; have Y6 : Hid (PnsLaid v6 B6 n0 n0.length) := y6; have Z6 : Hid (IntsLaid v6 C6 l0 l0.length) := z6; clear q6 y6 z6 bb6 cc6) | (go_at_call 12; refine (eqPop_same n0 l0 _ _ _ _ _ _ _ _ _ hl1 hl2 YY.out.blk Y6.out.blk ZZ.out.blk Z6.out.blk YY.out.at Y6.out.at ZZ.out.at Z6.out.at).mono ?_; rintro e v7 ⟨rfl, q7⟩; have hk7 := boxes_kept (by assumption) q7; have G7 : Hid (Below w.heap.size w v7) := G6.out.trans (q7.mono G6.out.size); clear q7))
    go_wp2_with fail
    go_ret
    exact ⟨rfl, G7.out⟩
  · have hsz' : szPopV n0.length l0.length < 0 := by omega
    go_enter Try.func5, Try.ntmps5
    go_wp2_with fail
    refine (HS.out _).mono ?_
    generalize szPopV n0.length l0.length = sz at *
    rintro e v1 ⟨rfl, q1⟩
    go_wp2_with fail
    go_ret
    exact ⟨rfl, GA.out.trans (q1.mono GA.out.size)⟩

set_option maxRecDepth 100000 in
theorem lifted (os : Os) (started : os.Started) (H : Type) (enc : TypeId × Value → H) :
    ReturnsInHanded {} Try.checked os 5 .any (Rows.fnExactPopRightSpec.pre6 enc Try.prog Try.f5 Rows.fnExactPopRightRow.domain false) (Rows.fnExactPopRightSpec.post enc Try.prog Try.f5 false true false false) := by
  refine returnsInHanded_of_change (C := Try.checked) own started (by kernel_rfl) Try.func5
    (ChangeSpec.witness6 (enc := enc) (C := Try.checked) false ⟨#[], #[.agg #[.slice none 0 0, .slice none 0 0]], []⟩ 8 (by kernel_rfl) (by kernel_rfl) (by kernel_rfl) (by kernel_rfl)) ?_
  intro W base args ds gs before hval0 hW hcnd _
  have hval : ∀ (j : Nat) t v, Try.f5.params[j]? = some t → args[j]? = some v → Value.okWide Try.prog W .any base t v := hval0
  have hW' := hW
  obtain ⟨p, q, hA0, hV, rfl, hfz, hnd⟩ := hW
  have hA : DataW.TrodAll enc Try.prog W 0 (fun _ => true) true Try.f5.params.toList args.toList ds p := hA0
  rw [Try.params5] at hA hval
  obtain ⟨v0, vs0, d0, ds0, p0, q0, hargs, rfl, rfl, h0, r0⟩ := trodAll_cons hA
  obtain ⟨rfl, rfl, rfl⟩ := trodAll_nil r0
  obtain rfl : args = #[v0] := by cases args; simp_all
  obtain ⟨rfl, rfl⟩ := trodVars_none hV
  have k0 := h0
  have lt0 : ∀ x ∈ p0, x.block < W.heap.size := by obtain ⟨m, hm⟩ := k0; exact DataW.trod_lt m _ _ _ hm
  obtain ⟨c0, e0, yy0, zz0, m0, rfl, rfl, rfl, hy0, hz0⟩ := open_agg2 Try.underlying38 (by kernel_rfl) (by kernel_rfl) (hval 0 38 v0 rfl rfl) h0
  obtain ⟨a0, len0, cap0, rfl⟩ : ∃ a len cap, c0 = .slice a len cap := trod_slice_form Try.underlying36 hy0
  obtain ⟨b0, lenb0, cbp0, rfl⟩ : ∃ a len cap, e0 = .slice a len cap := trod_slice_form Try.underlying25 hz0
  obtain ⟨n0, rfl, w0, x0⟩ := open_nodes hy0
  obtain ⟨l0, rfl, ww0, xx0⟩ := open_leaves hz0
  clear hA0 hval0
  refine (walk a0 b0 cap0 cbp0 n0 l0 W w0 x0 ww0 xx0).mono fun e W' ⟨he, hg⟩ => ?_
  subst he
  exact ⟨_, rfl, _, _, _, [], _, [], hW', (trodAll_cons_mk (shut_bool Try.underlying4 _) trodAll_mk0), (trodAll_cons_mk (Below.trod laidOut (by kernel_rfl) (of_decide_eq_true (by kernel_rfl)) k0 hg lt0) trodAll_mk0), rfl, hg.frame _, fun h => by cases h⟩

theorem over : Rows.fnExactPopRightRow.holds Try.pinned (OpenSpec.ofChange Rows.fnExactPopRightSpec) :=
  OpenClaim.holds_of_wide 5 Try.f5 rfl rfl rfl rfl rfl rfl rfl ⟨rfl, rfl, rfl, rfl, rfl⟩ rfl rfl rfl rfl rfl (by kernel_rfl) Try.func5 (by kernel_rfl)
    (of_decide_eq_true (by kernel_rfl)) (by unfold Func.isWrapper; first | (rw [if_pos (by decide +kernel)]; kernel_rfl) | (rw [if_neg (by decide +kernel)]; exact ⟨rfl, rfl⟩))
    (fun os started H enc _ => lifted os started H enc)

end Go.Proofs.Ytmhkhbpedfdocah.fnExactPopRight
namespace Go.Proofs.Ytmhkhbpedfdocah
theorem fnExactPopRight_holds : Rows.FnExactPopRightSaid := fnExactPopRight.over
#print axioms fnExactPopRight_holds
end Go.Proofs.Ytmhkhbpedfdocah
