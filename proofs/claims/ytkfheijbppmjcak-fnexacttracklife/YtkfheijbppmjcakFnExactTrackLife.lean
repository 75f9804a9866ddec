/- At every argument the program's TrackLife answers as the specification's: the law FnExactTrackLife returns true, and writes nothing that was there. No condition. -/
import Derived.Test.YtkfheijbppmjcakRows
import Derived.Test.YtkfheijbppmjcakSTrack
import Derived.Test.YtkfheijbppmjcakITrack
import Derived.WalkKit
import Derived.ProofKit
import Derived.OpenShut
import Derived.ShutString
import Derived.ChangeOld
import Derived.Below
import Derived.Lib.SmallJoins
namespace Go.Proofs.Ytkfheijbppmjcak.fnExactTrackLife
open Go.ChangeShapes Go.WideShapes Go.ChangeAt Go.RowKit Go.Joins
open Go.ChangeMaps (open_string shut_string)
set_option linter.unusedVariables false

theorem own : ownKnob Try.prog.godebug = none := by kernel_rfl
theorem laidOut : laidOutB Try.prog = true := by kernel_rfl

theorem walk (p0 : Lv) (a1 : Int) (a2 : Int) (w : World) (w0 : LvWf p0) (w1 : (Lit.int .i64 a1).wf = true) (w2 : (Lit.int .i64 a2).wf = true) :
    Calls Try.prog 6 #[lvC p0, .int .i64 a1, .int .i64 a2] w fun e w' => e = .returned (.bool true) ∧ Below w.heap.size w w' := by
  have HP : Hid (∀ W, Calls Try.prog 24 #[lvC p0, .int .i64 a1, .int .i64 a2] W fun e w' => e = .returned (.int .i64 (trackLifeV p0 a1 a2)) ∧ Below W.heap.size W w') := fun W => specLife_any p0 a1 a2 W
  have HI : Hid (∀ W, Calls Try.prog 25 #[lvC p0, .int .i64 a1, .int .i64 a2] W fun e w' => e = .returned (.int .i64 (trackLifeV p0 a1 a2)) ∧ Below W.heap.size W w') := fun W => implLife_any p0 a1 a2 W
  have HT : Hid (∀ W, Calls Try.prog 22 #[lvC p0] W fun e w' => e = .returned (lvC p0) ∧ Below W.heap.size W w') := fun W => toLives_any p0 W
  have GA : Hid (Below w.heap.size w (w.alloc (.cells #[.int .i64 p0.udp, .int .i64 p0.echo, .int .i64 p0.opening, .int .i64 p0.opn, .int .i64 p0.closing] 41))) := (Below.refl _ _).alloc (Nat.le_refl _) _
  have KA : Hid (BoxLives (w.alloc (.cells #[.int .i64 p0.udp, .int .i64 p0.echo, .int .i64 p0.opening, .int .i64 p0.opn, .int .i64 p0.closing] 41)) w.heap.size p0) := BoxLives.new w p0
  generalize trackLifeV p0 a1 a2 = ans at *
  clear w0 w1 w2
  unfold lvC at *
  go_enter Try.func6, Try.ntmps6
  go_wp2_with fail
  refine (HT.out _).mono ?_
  rintro e v1 ⟨rfl, q1⟩
  have G1 : Hid (Below w.heap.size w v1) := GA.out.trans (q1.mono GA.out.size)
  have K1 : Hid (BoxLives v1 w.heap.size p0) := KA.out.kept q1
  clear q1 GA KA
  go_wp2_with fail
  refine (HP.out _).mono ?_
  rintro e v2 ⟨rfl, q2⟩
  have G2 : Hid (Below w.heap.size w v2) := G1.out.trans (q2.mono G1.out.size)
  have K2 : Hid (BoxLives v2 w.heap.size p0) := K1.out.kept q2
  clear q2 G1 K1
  obtain ⟨k0, k1, k2, k3, k4⟩ := K2.out
  go_wp2_with fail
  refine (HT.out _).mono ?_
  rintro e v3 ⟨rfl, q3⟩
  have G3 : Hid (Below w.heap.size w v3) := G2.out.trans (q3.mono G2.out.size)
  have K3 : Hid (BoxLives v3 w.heap.size p0) := K2.out.kept q3
  clear q3 G2 K2
  clear k0 k1 k2 k3 k4
  go_wp2_with fail
  refine (HI.out _).mono ?_
  rintro e v4 ⟨rfl, q4⟩
  have G4 : Hid (Below w.heap.size w v4) := G3.out.trans (q4.mono G3.out.size)
  have K4 : Hid (BoxLives v4 w.heap.size p0) := K3.out.kept q4
  clear q4 G3 K3
  go_wp2_with fail
  go_ret
  exact ⟨rfl, G4.out⟩

set_option maxRecDepth 100000 in
theorem lifted (os : Os) (started : os.Started) (H : Type) (enc : TypeId × Value → H) :
    ReturnsInHanded {} Try.checked os 6 .any (Rows.fnExactTrackLifeSpec.pre6 enc Try.prog Try.f6 Rows.fnExactTrackLifeRow.domain false) (Rows.fnExactTrackLifeSpec.post enc Try.prog Try.f6 false true false false) := by
  refine returnsInHanded_of_change (C := Try.checked) own started (by kernel_rfl) Try.func6
    (ChangeSpec.witness6 (enc := enc) (C := Try.checked) false ⟨#[], #[.agg #[.int .i64 0, .int .i64 0, .int .i64 0, .int .i64 0, .int .i64 0], .int .i64 0, .int .i64 0], []⟩ 8 (by kernel_rfl) (by kernel_rfl) (by kernel_rfl) (by kernel_rfl)) ?_
  intro W base args ds gs before hval0 hW hcnd _
  have hval : ∀ (j : Nat) t v, Try.f6.params[j]? = some t → args[j]? = some v → Value.okWide Try.prog W .any base t v := hval0
  have hW' := hW
  obtain ⟨p, q, hA0, hV, rfl, hfz, hnd⟩ := hW
  have hA : DataW.TrodAll enc Try.prog W 0 (fun _ => true) true Try.f6.params.toList args.toList ds p := hA0
  rw [Try.params6] at hA hval
  obtain ⟨v0, vs0, d0, ds0, p0, q0, hargs, rfl, rfl, h0, r0⟩ := trodAll_cons hA
  obtain ⟨v1, vs1, d1, ds1, p1, q1, rfl, rfl, rfl, h1, r1⟩ := trodAll_cons r0
  obtain ⟨v2, vs2, d2, ds2, p2, q2, rfl, rfl, rfl, h2, r2⟩ := trodAll_cons r1
  obtain ⟨rfl, rfl, rfl⟩ := trodAll_nil r2
  obtain rfl : args = #[v0, v1, v2] := by cases args; simp_all
  obtain ⟨rfl, rfl⟩ := trodVars_none hV
  have k0 := h0
  have lt0 : ∀ x ∈ p0, x.block < W.heap.size := by obtain ⟨m, hm⟩ := k0; exact DataW.trod_lt m _ _ _ hm
  obtain ⟨a0, rfl, w0⟩ := open_Lives (hval 0 41 v0 rfl rfl) h0
  obtain ⟨a1, rfl, rfl, rfl, w1⟩ := open_int Try.underlying2 (hval 1 2 v1 rfl rfl) h1
  obtain ⟨a2, rfl, rfl, rfl, w2⟩ := open_int Try.underlying2 (hval 2 2 v2 rfl rfl) h2
  clear hA0 hval0
  refine (walk a0 a1 a2 W w0 w1 w2).mono fun e W' ⟨he, hg⟩ => ?_
  subst he
  exact ⟨_, rfl, _, _, _, [], _, [], hW', (trodAll_cons_mk (shut_bool Try.underlying4 _) trodAll_mk0), (trodAll_cons_mk (Below.trod laidOut (by kernel_rfl) (of_decide_eq_true (by kernel_rfl)) k0 hg lt0) (trodAll_cons_mk (shut_int Try.underlying2 w1) (trodAll_cons_mk (shut_int Try.underlying2 w2) trodAll_mk0))), rfl, hg.frame _, fun h => by cases h⟩

theorem over : Rows.fnExactTrackLifeRow.holds Try.pinned (OpenSpec.ofChange Rows.fnExactTrackLifeSpec) :=
  OpenClaim.holds_of_wide 6 Try.f6 rfl rfl rfl rfl rfl rfl rfl ⟨rfl, rfl, rfl, rfl, rfl⟩ rfl rfl rfl rfl rfl (by kernel_rfl) Try.func6 (by kernel_rfl)
    (of_decide_eq_true (by kernel_rfl)) (by unfold Func.isWrapper; first | (rw [if_pos (by decide +kernel)]; kernel_rfl) | (rw [if_neg (by decide +kernel)]; exact ⟨rfl, rfl⟩))
    (fun os started H enc _ => lifted os started H enc)

end Go.Proofs.Ytkfheijbppmjcak.fnExactTrackLife
namespace Go.Proofs.Ytkfheijbppmjcak
theorem fnExactTrackLife_holds : Rows.FnExactTrackLifeSaid := fnExactTrackLife.over
#print axioms fnExactTrackLife_holds
end Go.Proofs.Ytkfheijbppmjcak
