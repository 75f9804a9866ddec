/- STrack: what the specification's LivesRight, l07Still, TrackNew, TrackNext, TrackLife answer. Printed by mkstrack.py. -/
import Derived.Test.YtkakehchiadpbalK4
import Derived.Test.YtkakehchiadpbalSV4
import Derived.Test.YtkakehchiadpbalLawLives
namespace Go.Proofs.Ytkakehchiadpbal
open Go.RowKit Go.PlainAid
set_option linter.unusedVariables false
set_option linter.unusedSimpArgs false

theorem flags_all : ((List.range 256).all fun n => decide ((bits .and .i64 (n : Int) 22 = 2) ↔ (flagB (n : Int) 2 = true ∧ flagB (n : Int) 4 = false ∧ flagB (n : Int) 16 = false))) = true := by kernel_rfl
theorem flags_22 {flags : Int} (h : isIn flags 0 255 = true) : (flagB flags 2 = true ∧ flagB flags 4 = false ∧ flagB flags 16 = false) = (bits .and .i64 flags 22 = 2) := by
  unfold isIn at h
  simp only [Bool.and_eq_true, decide_eq_true_eq] at h
  obtain ⟨n, rfl⟩ := Int.eq_ofNat_of_zero_le h.1
  have := List.all_eq_true.1 flags_all n (List.mem_range.2 (by omega))
  exact propext (decide_eq_true_eq.mp this).symm
theorem next_in (proto state : Int) (inside : Bool) (flags : Int) (hs : stillP proto = false) (hp : proto = 6) (hb : isIn state 1 7 = true) (hc : isIn flags 0 255 = true) : trackNextV proto state inside flags = (
    if flagB flags 4 = true then 7
    else if state = 1 then (if inside = false ∧ flagB flags 2 = true then 3 else 1)
    else if state = 2 then (if inside = true ∧ flagB flags 2 = true then 3 else 2)
    else if state = 3 then (if flagB flags 1 = true then (if inside = true then 4 else 5) else 3)
    else if state = 4 then (if inside = false ∧ flagB flags 1 = true then 6 else 4)
    else if state = 5 then (if inside = true ∧ flagB flags 1 = true then 6 else 5)
    else if state = 7 then 3 else state) := by
  unfold trackNextV; rw [if_neg (by rw [hs]; decide), if_pos ⟨hp, hb, hc⟩]
set_option maxRecDepth 100000 in
set_option maxHeartbeats 1000000 in
theorem specLives_any (l : Lv) (w : World) :
    Calls Try.prog 32 #[lvC l] w fun e w' => e = .returned (.bool (livesOk l)) ∧ Below w.heap.size w w' := by
  have HC0 : Hid (∀ W, Calls Try.prog 31 #[.int .i64 l.udp, .int .i64 1, .int .i64 10000] W fun e w' => e = .returned (.bool (isIn l.udp 1 10000)) ∧ w' = W) := fun W => specIs_any _ _ _ W
  have HC1 : Hid (∀ W, Calls Try.prog 31 #[.int .i64 l.echo, .int .i64 1, .int .i64 10000] W fun e w' => e = .returned (.bool (isIn l.echo 1 10000)) ∧ w' = W) := fun W => specIs_any _ _ _ W
  have HC2 : Hid (∀ W, Calls Try.prog 31 #[.int .i64 l.opening, .int .i64 1, .int .i64 10000] W fun e w' => e = .returned (.bool (isIn l.opening 1 10000)) ∧ w' = W) := fun W => specIs_any _ _ _ W
  have HC3 : Hid (∀ W, Calls Try.prog 31 #[.int .i64 l.opn, .int .i64 1, .int .i64 10000] W fun e w' => e = .returned (.bool (isIn l.opn 1 10000)) ∧ w' = W) := fun W => specIs_any _ _ _ W
  have HC4 : Hid (∀ W, Calls Try.prog 31 #[.int .i64 l.closing, .int .i64 1, .int .i64 10000] W fun e w' => e = .returned (.bool (isIn l.closing 1 10000)) ∧ w' = W) := fun W => specIs_any _ _ _ W
  have HV : Hid (livesOk l = (isIn l.udp 1 10000 && isIn l.echo 1 10000 && isIn l.opening 1 10000 && isIn l.opn 1 10000 && isIn l.closing 1 10000)) := rfl
  generalize livesOk l = ans at *
  generalize isIn l.udp 1 10000 = b0 at *
  generalize isIn l.echo 1 10000 = b1 at *
  generalize isIn l.opening 1 10000 = b2 at *
  generalize isIn l.opn 1 10000 = b3 at *
  generalize isIn l.closing 1 10000 = b4 at *
  have HZ : Hid (Below w.heap.size w (w.alloc (.cells #[.int .i64 l.udp, .int .i64 l.echo, .int .i64 l.opening, .int .i64 l.opn, .int .i64 l.closing] 29))) := (Below.refl _ _).alloc (Nat.le_refl _) _
  unfold lvC
  go_enter Try.func32, Try.ntmps32
  go_wp2_with fail
  cases b0 with
  | false =>
    refine (HC0.out _).mono ?_
    rintro e w0 ⟨rfl, rfl⟩
    go_wp2_with fail
    go_ret
    exact ⟨ret_bool (by rw [HV.out]; rfl), HZ.out⟩
  | true =>
    refine (HC0.out _).mono ?_
    rintro e w0 ⟨rfl, rfl⟩
    go_wp2_with fail
    cases b1 with
    | false =>
      refine (HC1.out _).mono ?_
      rintro e w1 ⟨rfl, rfl⟩
      go_wp2_with fail
      go_ret
      exact ⟨ret_bool (by rw [HV.out]; rfl), HZ.out⟩
    | true =>
      refine (HC1.out _).mono ?_
      rintro e w1 ⟨rfl, rfl⟩
      go_wp2_with fail
      cases b2 with
      | false =>
        refine (HC2.out _).mono ?_
        rintro e w2 ⟨rfl, rfl⟩
        go_wp2_with fail
        go_ret
        exact ⟨ret_bool (by rw [HV.out]; rfl), HZ.out⟩
      | true =>
        refine (HC2.out _).mono ?_
        rintro e w2 ⟨rfl, rfl⟩
        go_wp2_with fail
        cases b3 with
        | false =>
          refine (HC3.out _).mono ?_
          rintro e w3 ⟨rfl, rfl⟩
          go_wp2_with fail
          go_ret
          exact ⟨ret_bool (by rw [HV.out]; rfl), HZ.out⟩
        | true =>
          refine (HC3.out _).mono ?_
          rintro e w3 ⟨rfl, rfl⟩
          go_wp2_with fail
          cases b4 with
          | false =>
            refine (HC4.out _).mono ?_
            rintro e w4 ⟨rfl, rfl⟩
            go_wp2_with fail
            go_ret
            exact ⟨ret_bool (by rw [HV.out]; rfl), HZ.out⟩
          | true =>
            refine (HC4.out _).mono ?_
            rintro e w4 ⟨rfl, rfl⟩
            go_wp2_with fail
            go_ret
            exact ⟨ret_bool (by rw [HV.out]; rfl), HZ.out⟩
end Go.Proofs.Ytkakehchiadpbal
