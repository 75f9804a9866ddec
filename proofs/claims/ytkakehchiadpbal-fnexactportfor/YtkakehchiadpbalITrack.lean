/- ITrack: what the program's LivesRight, TrackNext, TrackLife answer. Printed by mkitrack.py. -/
import Derived.Test.YtkakehchiadpbalK4
import Derived.Test.YtkakehchiadpbalLawLives
import Derived.Test.YtkakehchiadpbalIV4A
namespace Go.Proofs.Ytkakehchiadpbal
open Go.RowKit Go.PlainAid
set_option linter.unusedVariables false
set_option linter.unusedSimpArgs false

theorem isLife_any (n : Int) (w : World) :
    Calls Try.prog 70 #[.int .i64 n] w fun e w' => e = .returned (.bool (isIn n 1 10000)) ∧ w' = w := by
  by_cases h1 : 1 ≤ n
  · by_cases h2 : n ≤ 10000
    · have HV : Hid (isIn n 1 10000 = true) := by unfold Hid isIn; simp [h1, h2]
      go_enter Try.func70, Try.ntmps70
      go_wp2_with fail
      go_ret
      exact ⟨ret_bool (by rw [HV.out]), rfl⟩
    · have HV : Hid (isIn n 1 10000 = false) := by unfold Hid isIn; simp [h2]
      go_enter Try.func70, Try.ntmps70
      go_wp2_with fail
      go_ret
      exact ⟨ret_bool (by rw [HV.out]), rfl⟩
  · have HV : Hid (isIn n 1 10000 = false) := by unfold Hid isIn; simp [h1]
    have h1' : n < 1 := by omega
    go_enter Try.func70, Try.ntmps70
    go_wp2_with fail
    go_ret
    exact ⟨ret_bool (by rw [HV.out]), rfl⟩
theorem isState_any (n : Int) (w : World) :
    Calls Try.prog 93 #[.int .i64 n] w fun e w' => e = .returned (.bool (isIn n 1 7)) ∧ w' = w := by
  by_cases h1 : 1 ≤ n
  · by_cases h2 : n ≤ 7
    · have HV : Hid (isIn n 1 7 = true) := by unfold Hid isIn; simp [h1, h2]
      go_enter Try.func93, Try.ntmps93
      go_wp2_with fail
      go_ret
      exact ⟨ret_bool (by rw [HV.out]), rfl⟩
    · have HV : Hid (isIn n 1 7 = false) := by unfold Hid isIn; simp [h2]
      go_enter Try.func93, Try.ntmps93
      go_wp2_with fail
      go_ret
      exact ⟨ret_bool (by rw [HV.out]), rfl⟩
  · have HV : Hid (isIn n 1 7 = false) := by unfold Hid isIn; simp [h1]
    have h1' : n < 1 := by omega
    go_enter Try.func93, Try.ntmps93
    go_wp2_with fail
    go_ret
    exact ⟨ret_bool (by rw [HV.out]), rfl⟩
theorem implStill_any (proto : Int) (w : World) :
    Calls Try.prog 94 #[.int .i64 proto] w fun e w' => e = .returned (.bool (stillP proto)) ∧ w' = w := by
  by_cases h1 : proto = 17
  · have HV : Hid (stillP proto = true) := by unfold Hid stillP; simp [h1]
    go_enter Try.func94, Try.ntmps94
    go_wp2_with fail
    go_ret
    exact ⟨ret_bool HV.out.symm, rfl⟩
  · by_cases h2 : proto = 1
    · have HV : Hid (stillP proto = true) := by unfold Hid stillP; simp [h2]
      go_enter Try.func94, Try.ntmps94
      go_wp2_with fail
      go_ret
      exact ⟨ret_bool HV.out.symm, rfl⟩
    · have HV : Hid (stillP proto = false) := by unfold Hid stillP; simp [h1, h2]
      go_enter Try.func94, Try.ntmps94
      go_wp2_with fail
      go_ret
      exact ⟨ret_bool (by rw [HV.out]; simp [h1, h2]), rfl⟩
set_option maxRecDepth 100000 in
set_option maxHeartbeats 1000000 in
theorem implLives_any (l : Lv) (w : World) :
    Calls Try.prog 37 #[lvC l] w fun e w' => e = .returned (.bool (livesOk l)) ∧ Below w.heap.size w w' := by
  have HC0 : Hid (∀ W, Calls Try.prog 70 #[.int .i64 l.udp] W fun e w' => e = .returned (.bool (isIn l.udp 1 10000)) ∧ w' = W) := fun W => isLife_any _ W
  have HC1 : Hid (∀ W, Calls Try.prog 70 #[.int .i64 l.echo] W fun e w' => e = .returned (.bool (isIn l.echo 1 10000)) ∧ w' = W) := fun W => isLife_any _ W
  have HC2 : Hid (∀ W, Calls Try.prog 70 #[.int .i64 l.opening] W fun e w' => e = .returned (.bool (isIn l.opening 1 10000)) ∧ w' = W) := fun W => isLife_any _ W
  have HC3 : Hid (∀ W, Calls Try.prog 70 #[.int .i64 l.opn] W fun e w' => e = .returned (.bool (isIn l.opn 1 10000)) ∧ w' = W) := fun W => isLife_any _ W
  have HC4 : Hid (∀ W, Calls Try.prog 70 #[.int .i64 l.closing] W fun e w' => e = .returned (.bool (isIn l.closing 1 10000)) ∧ w' = W) := fun W => isLife_any _ W
  have HV : Hid (livesOk l = (isIn l.udp 1 10000 && isIn l.echo 1 10000 && isIn l.opening 1 10000 && isIn l.opn 1 10000 && isIn l.closing 1 10000)) := rfl
  generalize livesOk l = ans at *
  generalize isIn l.udp 1 10000 = b0 at *
  generalize isIn l.echo 1 10000 = b1 at *
  generalize isIn l.opening 1 10000 = b2 at *
  generalize isIn l.opn 1 10000 = b3 at *
  generalize isIn l.closing 1 10000 = b4 at *
  have HZ : Hid (Below w.heap.size w (w.alloc (.cells #[.int .i64 l.udp, .int .i64 l.echo, .int .i64 l.opening, .int .i64 l.opn, .int .i64 l.closing] 29))) := (Below.refl _ _).alloc (Nat.le_refl _) _
  unfold lvC
  go_enter Try.func37, Try.ntmps37
  go_wp2_with fail
  cases b0 with
  | false =>
    refine (HC0.out _).mono ?_
    rintro e w0 ⟨rfl, rfl⟩
    go_wp2_with fail
    go_ret
    exact ⟨ret_bool (by rw [HV.out]; rfl), HZ.out⟩
  | true =>
    refine (HC0.out _).mono ?_
    rintro e w0 ⟨rfl, rfl⟩
    go_wp2_with fail
    cases b1 with
    | false =>
      refine (HC1.out _).mono ?_
      rintro e w1 ⟨rfl, rfl⟩
      go_wp2_with fail
      go_ret
      exact ⟨ret_bool (by rw [HV.out]; rfl), HZ.out⟩
    | true =>
      refine (HC1.out _).mono ?_
      rintro e w1 ⟨rfl, rfl⟩
      go_wp2_with fail
      cases b2 with
      | false =>
        refine (HC2.out _).mono ?_
        rintro e w2 ⟨rfl, rfl⟩
        go_wp2_with fail
        go_ret
        exact ⟨ret_bool (by rw [HV.out]; rfl), HZ.out⟩
      | true =>
        refine (HC2.out _).mono ?_
        rintro e w2 ⟨rfl, rfl⟩
        go_wp2_with fail
        cases b3 with
        | false =>
          refine (HC3.out _).mono ?_
          rintro e w3 ⟨rfl, rfl⟩
          go_wp2_with fail
          go_ret
          exact ⟨ret_bool (by rw [HV.out]; rfl), HZ.out⟩
        | true =>
          refine (HC3.out _).mono ?_
          rintro e w3 ⟨rfl, rfl⟩
          go_wp2_with fail
          cases b4 with
          | false =>
            refine (HC4.out _).mono ?_
            rintro e w4 ⟨rfl, rfl⟩
            go_wp2_with fail
            go_ret
            exact ⟨ret_bool (by rw [HV.out]; rfl), HZ.out⟩
          | true =>
            refine (HC4.out _).mono ?_
            rintro e w4 ⟨rfl, rfl⟩
            go_wp2_with fail
            go_ret
            exact ⟨ret_bool (by rw [HV.out]; rfl), HZ.out⟩
end Go.Proofs.Ytkakehchiadpbal
