/- At every argument the program's TrackNext answers as the specification's TrackNext: the law FnExactTrackNext returns true, and writes nothing that was there. The program's table of states starts as the program's text lays it (the card ties it). No other condition. -/
import Derived.Test.YtkfheijbppmjcakDoorRows
import Derived.Test.YtkfheijbppmjcakDoorCards
import Derived.Test.YtkfheijbppmjcakDoorTie
import Derived.Test.YtkfheijbppmjcakDoorWrap
import Derived.Test.YtkfheijbppmjcakDoorSTrack
import Derived.Test.YtkfheijbppmjcakDoorITrack
import Derived.Test.YtkfheijbppmjcakDoorLaidP
import Derived.OpenVars
import Derived.WalkKit
import Derived.ProofKit
import Derived.OpenShut
import Derived.ShutString
import Derived.ChangeOld
import Derived.Below
import Derived.Lib.SmallJoins
import Derived.Lib.LaidTab
import Derived.Lay
import Derived.SevenTiedAt
namespace Go.Proofs.YtkfheijbppmjcakDoor.fnExactTrackNext
open Go.ChangeShapes Go.WideShapes Go.ChangeAt Go.RowKit Go.Joins
open Go.ChangeMaps (open_string shut_string)
set_option linter.unusedVariables false

theorem own : ownKnob Tryd.prog.godebug = none := by kernel_rfl
theorem laidOut : laidOutB Tryd.prog = true := by kernel_rfl

theorem of_laid {W : World} (h : laidMet Tryd.prog Rows.fnExactTrackNextRow.laid W) : TabB W := by
  have hp := fun i z hz => var_pairs (P := Tryd.prog) (zs := [(0, 0), (0, 3), (3, 0), (4, 5), (0, 6), (6, 0), (0, 0), (3, 3)]) (g := 0) (by kernel_rfl) (by kernel_rfl) Tryd.underlying28 Tryd.underlying27 rfl rfl rfl rfl Tryd.underlying2 (by kernel_rfl) (by kernel_rfl) h i z hz
  intro i hi
  match i, hi with
  | 0, _ => exact (hp 0 _ rfl).1
  | 1, _ => exact (hp 0 _ rfl).2
  | 2, _ => exact (hp 1 _ rfl).1
  | 3, _ => exact (hp 1 _ rfl).2
  | 4, _ => exact (hp 2 _ rfl).1
  | 5, _ => exact (hp 2 _ rfl).2
  | 6, _ => exact (hp 3 _ rfl).1
  | 7, _ => exact (hp 3 _ rfl).2
  | 8, _ => exact (hp 4 _ rfl).1
  | 9, _ => exact (hp 4 _ rfl).2
  | 10, _ => exact (hp 5 _ rfl).1
  | 11, _ => exact (hp 5 _ rfl).2
  | 12, _ => exact (hp 6 _ rfl).1
  | 13, _ => exact (hp 6 _ rfl).2
  | 14, _ => exact (hp 7 _ rfl).1
  | 15, _ => exact (hp 7 _ rfl).2
  | n + 16, h => exact absurd h (by omega)

theorem walk (a0 : Int) (a1 : Int) (a2 : Bool) (a3 : Int) (w : World) (w0 : (Lit.int .i64 a0).wf = true) (w1 : (Lit.int .i64 a1).wf = true) (w3 : (Lit.int .i64 a3).wf = true) (hE : TabB w) :
    Calls Tryd.prog 3 #[.int .i64 a0, .int .i64 a1, .bool a2, .int .i64 a3] w fun e w' => e = .returned (.bool true) ∧ Below w.heap.size w w' := by
  have HP : Hid (∀ W, Calls Tryd.prog 4 #[.int .i64 a0, .int .i64 a1, .bool a2, .int .i64 a3] W fun e w' => e = .returned (.int .i64 (trackNextV a0 a1 a2 a3)) ∧ w' = W) := fun W => specNext_any a0 a1 a2 a3 W
  have HI : Hid (Calls Tryd.prog 5 #[.int .i64 a0, .int .i64 a1, .bool a2, .int .i64 a3] w fun e w' => e = .returned (.int .i64 (trackNextV a0 a1 a2 a3)) ∧ Below w.heap.size w w') := implNext_any a0 a1 a2 a3 w hE
  generalize trackNextV a0 a1 a2 a3 = ans at *
  clear w0 w1 w3 hE
  go_enter Tryd.func3, Tryd.ntmps3
  go_wp2_with fail
  refine (HP.out _).mono ?_
  rintro e v1 ⟨rfl, rfl⟩
  go_wp2_with fail
  refine Calls.mono HI.out ?_
  rintro e v2 ⟨rfl, q2⟩
  have G2 : Hid (Below v1.heap.size v1 v2) := q2
  clear q2
  go_wp2_with fail
  go_ret
  exact ⟨rfl, G2.out⟩

set_option maxRecDepth 100000 in
theorem lifted (os : Os) (started : os.Started) (H : Type) (enc : TypeId × Value → H) :
    ReturnsInHanded {} Tryd.checked os 3 .any (fun w args => (Rows.fnExactTrackNextSpec.pre enc Tryd.prog Tryd.f3 [] false w args ∧ laidMetH Tryd.prog Rows.fnExactTrackNextRow.laid w) ∧ sizedMet enc Tryd.prog Tryd.f3 (OpenSpec.ofChange Rows.fnExactTrackNextSpec) false w args)
      (Rows.fnExactTrackNextSpec.post enc Tryd.prog Tryd.f3 false true false false) := by
  refine returns_and_shaped (C := Tryd.checked) (X := fun w _ => laidMetH Tryd.prog Rows.fnExactTrackNextRow.laid w) (fun _ _ _ hh h => h.of_heap hh) own started (by kernel_rfl) Tryd.func3
    (ChangeSpec.witness_shaped (enc := enc) (C := Tryd.checked) (os := os) (X := fun w _ => laidMetH Tryd.prog Rows.fnExactTrackNextRow.laid w) false (World.laidAll Tryd.prog os Rows.fnExactTrackNextRow.laid) #[.int .i64 0, .int .i64 0, .bool false, .int .i64 0] 8 (World.laidAll_os _ _ _)
      (World.shaped_of_ZipB (by kernel_rfl) (by kernel_rfl)) (by kernel_rfl) (by kernel_rfl) (by kernel_rfl)
      (by rw [MakeChecks.laidMetH_plain _ _ _ (by kernel_rfl)]; exact laidMet_laidAll _ (by kernel_rfl) (by kernel_rfl))) ?_
  intro W base args ds gs before hval0 hW hL0 hsh
  have hval : ∀ (j : Nat) t v, Tryd.f3.params[j]? = some t → args[j]? = some v → Value.okWide Tryd.prog W .any base t v := hval0
  have hW' := hW
  obtain ⟨p, q, hA0, hV, rfl, hfz, hnd⟩ := hW
  have hA : DataW.TrodAll enc Tryd.prog W 0 (fun _ => true) true Tryd.f3.params.toList args.toList ds p := hA0
  rw [Tryd.params3] at hA hval
  obtain ⟨v0, vs0, d0, ds0, p0, q0, hargs, rfl, rfl, h0, r0⟩ := trodAll_cons hA
  obtain ⟨v1, vs1, d1, ds1, p1, q1, rfl, rfl, rfl, h1, r1⟩ := trodAll_cons r0
  obtain ⟨v2, vs2, d2, ds2, p2, q2, rfl, rfl, rfl, h2, r2⟩ := trodAll_cons r1
  obtain ⟨v3, vs3, d3, ds3, p3, q3, rfl, rfl, rfl, h3, r3⟩ := trodAll_cons r2
  obtain ⟨rfl, rfl, rfl⟩ := trodAll_nil r3
  obtain rfl : args = #[v0, v1, v2, v3] := by cases args; simp_all
  obtain ⟨d9, rfl⟩ : ∃ d, gs = [d] := by
    obtain ⟨_, _, _, _, d, _, e, _⟩ := trodVars_one hV
    exact ⟨d, e⟩
  obtain ⟨a0, rfl, rfl, rfl, w0⟩ := open_int Tryd.underlying2 (hval 0 2 v0 rfl rfl) h0
  obtain ⟨a1, rfl, rfl, rfl, w1⟩ := open_int Tryd.underlying2 (hval 1 2 v1 rfl rfl) h1
  obtain ⟨a2, rfl, rfl, rfl⟩ := open_bool Tryd.underlying4 (hval 2 4 v2 rfl rfl) h2
  obtain ⟨a3, rfl, rfl, rfl, w3⟩ := open_int Tryd.underlying2 (hval 3 2 v3 rfl rfl) h3
  clear hA0 hval0
  have hL : laidMet Tryd.prog Rows.fnExactTrackNextRow.laid W := by rw [MakeChecks.laidMetH_plain _ _ _ (by kernel_rfl)] at hL0; exact hL0
  have hE : TabB W := of_laid hL
  refine (walk a0 a1 a2 a3 W w0 w1 w3 hE).mono fun e W' ⟨he, hg⟩ => ?_
  subst he
  exact ⟨_, rfl, _, _, _, [], _, _, hW', (trodAll_cons_mk (shut_bool Tryd.underlying4 _) trodAll_mk0), (trodAll_cons_mk (shut_int Tryd.underlying2 w0) (trodAll_cons_mk (shut_int Tryd.underlying2 w1) (trodAll_cons_mk (shut_bool Tryd.underlying4 _) (trodAll_cons_mk (shut_int Tryd.underlying2 w3) trodAll_mk0)))), Below.trodVars laidOut hg (by kernel_rfl) hV, hg.frame _, fun h => by cases h⟩

theorem over : Rows.fnExactTrackNextRow.holds Tryd.pinned (OpenSpec.ofChange Rows.fnExactTrackNextSpec) :=
  OpenClaim.holds_of_wide 3 Tryd.f3 rfl rfl rfl rfl rfl rfl rfl ⟨rfl, rfl, rfl, rfl, rfl⟩ rfl rfl rfl rfl rfl (by kernel_rfl) Tryd.func3 (by kernel_rfl)
    (of_decide_eq_true (by kernel_rfl)) (by unfold Func.isWrapper; first | (rw [if_pos (by decide +kernel)]; kernel_rfl) | (rw [if_neg (by decide +kernel)]; exact ⟨rfl, rfl⟩))
    (fun os started H enc _ => lifted os started H enc)

end Go.Proofs.YtkfheijbppmjcakDoor.fnExactTrackNext
namespace Go.Proofs.YtkfheijbppmjcakDoor
open Go
theorem fnExactTrackNext_holds : Rows.FnExactTrackNextCardSaid :=
  Claim7.holds_tied_plain_at .later [] [.wider] true (true, "a73219c7c84f790b8d6dfaad285de102e8265c8090a12d1e49e85047a31d1b59") false
    fnExactTrackNext.over (fun _ h => by cases h) (by kernel_rfl) (fun _ h => by cases h) fnExactTrackNext_row_tie rfl ⟨rfl, rfl⟩ (by kernel_rfl) rfl
    (fun f fn hf hfn => by
      obtain rfl : f = 3 := Option.some.inj ((show Tryd.prog.funcNamed Rows.fnExactTrackNextRow.func = some 3 by kernel_rfl).symm.trans hf) |>.symm
      obtain rfl : fn = Tryd.f3 := (Option.some.inj (Tryd.func3.symm.trans hfn)).symm
      exact ⟨by kernel_rfl, fun j t ht => by
        rw [Tryd.params3] at ht
        have hm : t ∈ [2, 2, 4, 2] := by simpa using Array.mem_of_getElem? ht
        have hall : ([2, 2, 4, 2].all fun u => !Tryd.prog.wantsStandIn u) = true := by kernel_rfl
        exact (show Tryd.prog.wantsStandIn t = false by simpa using List.all_eq_true.1 hall t hm)⟩)
    (by kernel_rfl)
#print axioms fnExactTrackNext_holds
end Go.Proofs.YtkfheijbppmjcakDoor
