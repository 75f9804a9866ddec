/- STrack: what the specification's LivesRight, l07Still, TrackNew, TrackNext, TrackLife answer. Printed by mkstrack.py. -/
import Derived.Test.YtkfheijbppmjcakDoorTrack
import Derived.Test.YtkfheijbppmjcakDoorSV4
import Derived.Test.YtkfheijbppmjcakDoorLawLives
namespace Go.Proofs.YtkfheijbppmjcakDoor
open Go.RowKit Go.PlainAid
set_option linter.unusedVariables false
set_option linter.unusedSimpArgs false

theorem flags_all : ((List.range 256).all fun n => decide ((bits .and .i64 (n : Int) 22 = 2) ↔ (flagB (n : Int) 2 = true ∧ flagB (n : Int) 4 = false ∧ flagB (n : Int) 16 = false))) = true := by kernel_rfl
theorem flags_22 {flags : Int} (h : isIn flags 0 255 = true) : (flagB flags 2 = true ∧ flagB flags 4 = false ∧ flagB flags 16 = false) = (bits .and .i64 flags 22 = 2) := by
  unfold isIn at h
  simp only [Bool.and_eq_true, decide_eq_true_eq] at h
  obtain ⟨n, rfl⟩ := Int.eq_ofNat_of_zero_le h.1
  have := List.all_eq_true.1 flags_all n (List.mem_range.2 (by omega))
  exact propext (decide_eq_true_eq.mp this).symm
theorem next_in (proto state : Int) (inside : Bool) (flags : Int) (hs : stillP proto = false) (hp : proto = 6) (hb : isIn state 1 7 = true) (hc : isIn flags 0 255 = true) : trackNextV proto state inside flags = (
    if flagB flags 4 = true then 7
    else if state = 1 then (if inside = false ∧ flagB flags 2 = true then 3 else 1)
    else if state = 2 then (if inside = true ∧ flagB flags 2 = true then 3 else 2)
    else if state = 3 then (if flagB flags 1 = true then (if inside = true then 4 else 5) else 3)
    else if state = 4 then (if inside = false ∧ flagB flags 1 = true then 6 else 4)
    else if state = 5 then (if inside = true ∧ flagB flags 1 = true then 6 else 5)
    else if state = 7 then 3 else state) := by
  unfold trackNextV; rw [if_neg (by rw [hs]; decide), if_pos ⟨hp, hb, hc⟩]
theorem specStill_any (proto : Int) (w : World) :
    Calls Tryd.prog 6 #[.int .i64 proto] w fun e w' => e = .returned (.bool (stillP proto)) ∧ w' = w := by
  by_cases h1 : proto = 17
  · have HV : Hid (stillP proto = true) := by unfold Hid stillP; simp [h1]
    go_enter Tryd.func6, Tryd.ntmps6
    go_wp2_with fail
    go_ret
    exact ⟨ret_bool HV.out.symm, rfl⟩
  · by_cases h2 : proto = 1
    · have HV : Hid (stillP proto = true) := by unfold Hid stillP; simp [h2]
      go_enter Tryd.func6, Tryd.ntmps6
      go_wp2_with fail
      go_ret
      exact ⟨ret_bool HV.out.symm, rfl⟩
    · have HV : Hid (stillP proto = false) := by unfold Hid stillP; simp [h1, h2]
      go_enter Tryd.func6, Tryd.ntmps6
      go_wp2_with fail
      go_ret
      exact ⟨ret_bool (by rw [HV.out]; simp [h1, h2]), rfl⟩
set_option maxRecDepth 100000 in
set_option maxHeartbeats 1000000 in
theorem specNext_any (proto state : Int) (inside : Bool) (flags : Int) (w : World) :
    Calls Tryd.prog 4 #[.int .i64 proto, .int .i64 state, .bool inside, .int .i64 flags] w fun e w' => e = .returned (.int .i64 (trackNextV proto state inside flags)) ∧ w' = w := by
  have HA : Hid (∀ W, Calls Tryd.prog 6 #[.int .i64 proto] W fun e w' => e = .returned (.bool (stillP proto)) ∧ w' = W) := fun W => specStill_any _ W
  have HB : Hid (∀ W, Calls Tryd.prog 7 #[.int .i64 state, .int .i64 1, .int .i64 7] W fun e w' => e = .returned (.bool (isIn state 1 7)) ∧ w' = W) := fun W => specIs_any _ _ _ W
  have HC : Hid (∀ W, Calls Tryd.prog 8 #[.int .i64 flags] W fun e w' => e = .returned (.bool (isIn flags 0 255)) ∧ w' = W) := fun W => specByte_any _ W
  have HV : Hid (trackNextV proto state inside flags = trackNextV proto state inside flags) := rfl
  cases hs : stillP proto with
  | true =>
    have HX : Hid (trackNextV proto state inside flags = 3) := by unfold Hid trackNextV; rw [if_pos hs]
    rw [hs] at HA
    clear hs
    go_enter Tryd.func4, Tryd.ntmps4
    go_wp2_with fail
    refine (HA.out _).mono ?_
    rintro e w1 ⟨rfl, rfl⟩
    go_wp2_with fail
    go_ret
    exact ⟨ret_int HX.out.symm, rfl⟩
  | false =>
    rw [hs] at HA
    have HS : Hid (stillP proto = false) := hs
    clear hs
    by_cases hp : proto = 6
    · subst hp
      cases hb : isIn state 1 7 with
      | false =>
        have HX : Hid (trackNextV 6 state inside flags = 0) := by unfold Hid trackNextV; rw [if_neg (by rw [HS.out]; decide), if_neg (by rw [hb]; simp)]
        rw [hb] at HB
        clear hb
        go_enter Tryd.func4, Tryd.ntmps4
        go_wp2_with fail
        refine (HA.out _).mono ?_
        rintro e w1 ⟨rfl, rfl⟩
        go_wp2_with fail
        refine (HB.out _).mono ?_
        rintro e w1 ⟨rfl, rfl⟩
        go_wp2_with fail
        go_ret
        exact ⟨ret_int HX.out.symm, rfl⟩
      | true =>
        cases hc : isIn flags 0 255 with
        | false =>
          have HX : Hid (trackNextV 6 state inside flags = 0) := by unfold Hid trackNextV; rw [if_neg (by rw [HS.out]; decide), if_neg (by rw [hc]; simp)]
          rw [hb] at HB
          rw [hc] at HC
          clear hb hc
          go_enter Tryd.func4, Tryd.ntmps4
          go_wp2_with fail
          refine (HA.out _).mono ?_
          rintro e w1 ⟨rfl, rfl⟩
          go_wp2_with fail
          refine (HB.out _).mono ?_
          rintro e w1 ⟨rfl, rfl⟩
          go_wp2_with fail
          refine (HC.out _).mono ?_
          rintro e w1 ⟨rfl, rfl⟩
          go_wp2_with fail
          go_ret
          exact ⟨ret_int HX.out.symm, rfl⟩
        | true =>
          have HX : Hid _ := next_in 6 state inside flags HS.out rfl hb hc
          rw [hb] at HB
          rw [hc] at HC
          have hr : state = 1 ∨ state = 2 ∨ state = 3 ∨ state = 4 ∨ state = 5 ∨ state = 6 ∨ state = 7 := by
            unfold isIn at hb; simp only [Bool.and_eq_true, decide_eq_true_eq] at hb; omega
          clear hb hc
          go_enter Tryd.func4, Tryd.ntmps4
          go_wp2_with fail
          refine (HA.out _).mono ?_
          rintro e w1 ⟨rfl, rfl⟩
          go_wp2_with fail
          refine (HB.out _).mono ?_
          rintro e w1 ⟨rfl, rfl⟩
          go_wp2_with fail
          refine (HC.out _).mono ?_
          rintro e w1 ⟨rfl, rfl⟩
          clear HA HB HC
          go_upto_region 5 with fail
          by_cases h4 : bits .and .i64 flags 4 = 0
          · have n4 : flagB flags 4 = false := by unfold flagB; simp [h4]
            rw [n4, if_neg (by decide)] at HX
            clear n4
            have e1 : flagB flags 1 = decide (¬ bits .and .i64 flags 1 = 0) := rfl
            have e2 : flagB flags 2 = decide (¬ bits .and .i64 flags 2 = 0) := rfl
            rw [e1, e2] at HX
            clear e1 e2
            rcases hr with rfl | rfl | rfl | rfl | rfl | rfl | rfl <;> by_cases h1 : bits .and .i64 flags 1 = 0 <;> by_cases h2 : bits .and .i64 flags 2 = 0 <;> cases inside
            all_goals
              simp [h1, h2] at HX
              go_wp2_with fail
              go_ret
              exact ⟨ret_int HX.out.symm, rfl⟩
          · have HY : Hid (trackNextV 6 state inside flags = 7) := by unfold Hid; rw [HX.out, if_pos (by unfold flagB; exact decide_eq_true h4)]
            go_wp2_with fail
            go_ret
            exact ⟨ret_int HY.out.symm, rfl⟩
    · have HX : Hid (trackNextV proto state inside flags = 0) := by unfold Hid trackNextV; rw [if_neg (by rw [HS.out]; decide), if_neg (fun h => hp h.1)]
      go_enter Tryd.func4, Tryd.ntmps4
      go_wp2_with fail
      refine (HA.out _).mono ?_
      rintro e w1 ⟨rfl, rfl⟩
      go_wp2_with fail
      go_ret
      exact ⟨ret_int HX.out.symm, rfl⟩
end Go.Proofs.YtkfheijbppmjcakDoor
