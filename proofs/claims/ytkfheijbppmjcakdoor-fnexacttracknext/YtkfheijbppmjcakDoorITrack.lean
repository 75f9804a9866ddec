/- ITrack: what the program's LivesRight, TrackNext, TrackLife answer. Printed by mkitrack.py. -/
import Derived.Test.YtkfheijbppmjcakDoorTrack
import Derived.Test.YtkfheijbppmjcakDoorLawLives
import Derived.Test.YtkfheijbppmjcakDoorIV4A
namespace Go.Proofs.YtkfheijbppmjcakDoor
open Go.RowKit Go.PlainAid
set_option linter.unusedVariables false
set_option linter.unusedSimpArgs false

theorem isState_any (n : Int) (w : World) :
    Calls Tryd.prog 10 #[.int .i64 n] w fun e w' => e = .returned (.bool (isIn n 1 7)) ∧ w' = w := by
  by_cases h1 : 1 ≤ n
  · by_cases h2 : n ≤ 7
    · have HV : Hid (isIn n 1 7 = true) := by unfold Hid isIn; simp [h1, h2]
      go_enter Tryd.func10, Tryd.ntmps10
      go_wp2_with fail
      go_ret
      exact ⟨ret_bool (by rw [HV.out]), rfl⟩
    · have HV : Hid (isIn n 1 7 = false) := by unfold Hid isIn; simp [h2]
      go_enter Tryd.func10, Tryd.ntmps10
      go_wp2_with fail
      go_ret
      exact ⟨ret_bool (by rw [HV.out]), rfl⟩
  · have HV : Hid (isIn n 1 7 = false) := by unfold Hid isIn; simp [h1]
    have h1' : n < 1 := by omega
    go_enter Tryd.func10, Tryd.ntmps10
    go_wp2_with fail
    go_ret
    exact ⟨ret_bool (by rw [HV.out]), rfl⟩
theorem implStill_any (proto : Int) (w : World) :
    Calls Tryd.prog 9 #[.int .i64 proto] w fun e w' => e = .returned (.bool (stillP proto)) ∧ w' = w := by
  by_cases h1 : proto = 17
  · have HV : Hid (stillP proto = true) := by unfold Hid stillP; simp [h1]
    go_enter Tryd.func9, Tryd.ntmps9
    go_wp2_with fail
    go_ret
    exact ⟨ret_bool HV.out.symm, rfl⟩
  · by_cases h2 : proto = 1
    · have HV : Hid (stillP proto = true) := by unfold Hid stillP; simp [h2]
      go_enter Tryd.func9, Tryd.ntmps9
      go_wp2_with fail
      go_ret
      exact ⟨ret_bool HV.out.symm, rfl⟩
    · have HV : Hid (stillP proto = false) := by unfold Hid stillP; simp [h1, h2]
      go_enter Tryd.func9, Tryd.ntmps9
      go_wp2_with fail
      go_ret
      exact ⟨ret_bool (by rw [HV.out]; simp [h1, h2]), rfl⟩
/-- Whether flags have the one that a state goes on by. -/
def waitV (state flags : Int) : Bool := if state = 1 ∨ state = 2 then flagB flags 2 else if state = 3 ∨ state = 4 ∨ state = 5 then flagB flags 1 else true
set_option maxRecDepth 100000 in
set_option maxHeartbeats 1000000 in
theorem waits_any (state flags : Int) (w : World) (hr : state = 1 ∨ state = 2 ∨ state = 3 ∨ state = 4 ∨ state = 5 ∨ state = 6 ∨ state = 7) :
    Calls Tryd.prog 13 #[.int .i64 state, .int .i64 flags] w fun e w' => e = .returned (.bool (waitV state flags)) ∧ w' = w := by
  obtain ⟨ans, hans⟩ : ∃ x, x = waitV state flags := ⟨_, rfl⟩
  rw [← hans]
  have HX : Hid (ans = waitV state flags) := hans
  clear hans
  have e1 : flagB flags 1 = decide (¬ bits .and .i64 flags 1 = 0) := rfl
  have e2 : flagB flags 2 = decide (¬ bits .and .i64 flags 2 = 0) := rfl
  unfold waitV at HX
  rw [e1, e2] at HX
  clear e1 e2
  rcases hr with rfl | rfl | rfl | rfl | rfl | rfl | rfl <;> by_cases h1 : bits .and .i64 flags 1 = 0 <;> by_cases h2 : bits .and .i64 flags 2 = 0
  all_goals
    simp [h1, h2] at HX
    go_enter Tryd.func13, Tryd.ntmps13
    go_wp2_with fail
    go_ret
    exact ⟨ret_bool (by first | exact HX.out.symm | (rw [HX.out]; simp [h1, h2])), rfl⟩
set_option maxRecDepth 100000 in
theorem from_any (a b : Int) (inside : Bool) (w : World) :
    Calls Tryd.prog 12 #[.agg #[.int .i64 a, .int .i64 b], .bool inside] w fun e w' => e = .returned (.int .i64 (if inside = true then a else b)) ∧ Below w.heap.size w w' := by
  have HZ : Hid (Below w.heap.size w (w.alloc (.cells #[.int .i64 a, .int .i64 b] 27))) := (Below.refl _ _).alloc (Nat.le_refl _) _
  cases inside
  all_goals
    go_enter Tryd.func12, Tryd.ntmps12
    go_wp2_with fail
    go_ret
    exact ⟨ret_int (by simp), HZ.out⟩
/-- What the table of the states holds. -/
def TabB (w : World) : Prop := ∀ i : Nat, i < 16 → w.cell? ⟨0, i, none⟩ = some (.int .i64 ([0, 0, 0, 3, 3, 0, 4, 5, 0, 6, 6, 0, 0, 0, 3, 3].getD i 0))
theorem TabB.below {w W : World} (h : TabB w) (hb : Below w.heap.size w W) : TabB W := fun i hi => ((bcell hb).1 _ _ (World.block_lt_of_cell? w _ (h i hi))).trans (h i hi)
theorem next_six (state : Int) (inside : Bool) (flags : Int) (hb : isIn state 1 7 = true) (hc : isIn flags 0 255 = true) : trackNextV 6 state inside flags = (
    if flagB flags 4 = true then 7
    else if state = 1 then (if inside = false ∧ flagB flags 2 = true then 3 else 1)
    else if state = 2 then (if inside = true ∧ flagB flags 2 = true then 3 else 2)
    else if state = 3 then (if flagB flags 1 = true then (if inside = true then 4 else 5) else 3)
    else if state = 4 then (if inside = false ∧ flagB flags 1 = true then 6 else 4)
    else if state = 5 then (if inside = true ∧ flagB flags 1 = true then 6 else 5)
    else if state = 7 then 3 else state) := by
  unfold trackNextV; rw [if_neg (by decide), if_pos ⟨rfl, hb, hc⟩]
set_option maxRecDepth 100000 in
set_option maxHeartbeats 2000000 in
theorem implNext_any (proto state : Int) (inside : Bool) (flags : Int) (w : World) (hT : TabB w) :
    Calls Tryd.prog 5 #[.int .i64 proto, .int .i64 state, .bool inside, .int .i64 flags] w fun e w' => e = .returned (.int .i64 (trackNextV proto state inside flags)) ∧ Below w.heap.size w w' := by
  have HA : Hid (∀ W, Calls Tryd.prog 9 #[.int .i64 proto] W fun e w' => e = .returned (.bool (stillP proto)) ∧ w' = W) := fun W => implStill_any _ W
  have HB : Hid (∀ W, Calls Tryd.prog 10 #[.int .i64 state] W fun e w' => e = .returned (.bool (isIn state 1 7)) ∧ w' = W) := fun W => isState_any _ W
  have HC : Hid (∀ W, Calls Tryd.prog 11 #[.int .i64 flags] W fun e w' => e = .returned (.bool (isIn flags 0 255)) ∧ w' = W) := fun W => implByte_any _ W
  cases hs : stillP proto with
  | true =>
    have HX : Hid (trackNextV proto state inside flags = 3) := by unfold Hid trackNextV; rw [if_pos hs]
    rw [hs] at HA
    clear hs hT
    go_enter Tryd.func5, Tryd.ntmps5
    go_wp2_with fail
    refine (HA.out _).mono ?_
    rintro e w1 ⟨rfl, rfl⟩
    go_wp2_with fail
    go_ret
    exact ⟨ret_int HX.out.symm, Below.refl _ _⟩
  | false =>
    rw [hs] at HA
    have HS : Hid (stillP proto = false) := hs
    clear hs
    by_cases hp : proto = 6
    · subst hp
      cases hb : isIn state 1 7 with
      | false =>
        have HX : Hid (trackNextV 6 state inside flags = 0) := by unfold Hid trackNextV; rw [if_neg (by rw [HS.out]; decide), if_neg (by rw [hb]; simp)]
        rw [hb] at HB
        clear hb hT
        go_enter Tryd.func5, Tryd.ntmps5
        go_wp2_with fail
        refine (HA.out _).mono ?_
        rintro e w1 ⟨rfl, rfl⟩
        go_wp2_with fail
        refine (HB.out _).mono ?_
        rintro e w1 ⟨rfl, rfl⟩
        go_wp2_with fail
        go_ret
        exact ⟨ret_int HX.out.symm, Below.refl _ _⟩
      | true =>
        cases hc : isIn flags 0 255 with
        | false =>
          have HX : Hid (trackNextV 6 state inside flags = 0) := by unfold Hid trackNextV; rw [if_neg (by rw [HS.out]; decide), if_neg (by rw [hc]; simp)]
          rw [hb] at HB
          rw [hc] at HC
          clear hb hc hT
          go_enter Tryd.func5, Tryd.ntmps5
          go_wp2_with fail
          refine (HA.out _).mono ?_
          rintro e w1 ⟨rfl, rfl⟩
          go_wp2_with fail
          refine (HB.out _).mono ?_
          rintro e w1 ⟨rfl, rfl⟩
          go_wp2_with fail
          refine (HC.out _).mono ?_
          rintro e w1 ⟨rfl, rfl⟩
          go_wp2_with fail
          go_ret
          exact ⟨ret_int HX.out.symm, Below.refl _ _⟩
        | true =>
          have HX : Hid _ := next_six state inside flags hb hc
          rw [hb] at HB
          rw [hc] at HC
          have hr : state = 1 ∨ state = 2 ∨ state = 3 ∨ state = 4 ∨ state = 5 ∨ state = 6 ∨ state = 7 := by
            unfold isIn at hb; simp only [Bool.and_eq_true, decide_eq_true_eq] at hb; omega
          have HW : Hid (∀ W, Calls Tryd.prog 13 #[.int .i64 state, .int .i64 flags] W fun e w' => e = .returned (.bool (waitV state flags)) ∧ w' = W) := fun W => waits_any state flags W hr
          have HF : Hid (∀ a b W, Calls Tryd.prog 12 #[.agg #[.int .i64 a, .int .i64 b], .bool inside] W fun e w' => e = .returned (.int .i64 (if inside = true then a else b)) ∧ Below W.heap.size W w') := fun a b W => from_any a b inside W
          clear hb hc
          have k0 := hT 0 (by decide)
          have k1 := hT 1 (by decide)
          have k2 := hT 2 (by decide)
          have k3 := hT 3 (by decide)
          have k4 := hT 4 (by decide)
          have k5 := hT 5 (by decide)
          have k6 := hT 6 (by decide)
          have k7 := hT 7 (by decide)
          have k8 := hT 8 (by decide)
          have k9 := hT 9 (by decide)
          have k10 := hT 10 (by decide)
          have k11 := hT 11 (by decide)
          have k12 := hT 12 (by decide)
          have k13 := hT 13 (by decide)
          have k14 := hT 14 (by decide)
          have k15 := hT 15 (by decide)
          simp only [List.getD_cons_zero, List.getD_cons_succ] at k0 k1 k2 k3 k4 k5 k6 k7 k8 k9 k10 k11 k12 k13 k14 k15
          clear hT
          go_enter Tryd.func5, Tryd.ntmps5
          go_wp2_with fail
          refine (HA.out _).mono ?_
          rintro e w1 ⟨rfl, rfl⟩
          go_wp2_with fail
          refine (HB.out _).mono ?_
          rintro e w1 ⟨rfl, rfl⟩
          go_wp2_with fail
          refine (HC.out _).mono ?_
          rintro e w1 ⟨rfl, rfl⟩
          clear HA HB HC
          go_upto_region 5 with fail
          by_cases h4 : bits .and .i64 flags 4 = 0
          · have n4 : flagB flags 4 = false := by unfold flagB; simp [h4]
            rw [n4, if_neg (by decide)] at HX
            clear n4
            have e1 : flagB flags 1 = decide (¬ bits .and .i64 flags 1 = 0) := rfl
            have e2 : flagB flags 2 = decide (¬ bits .and .i64 flags 2 = 0) := rfl
            unfold waitV at HW
            rw [e1, e2] at HX HW
            clear e1 e2
            rcases hr with rfl | rfl | rfl | rfl | rfl | rfl | rfl <;> by_cases h1 : bits .and .i64 flags 1 = 0 <;> by_cases h2 : bits .and .i64 flags 2 = 0 <;> cases inside
            all_goals
              simp [h1, h2] at HX
              simp [h1, h2] at HW
              simp at HF
              go_wp2_with fail
              refine (HF.out _ _ _).mono ?_
              rintro e w2 ⟨rfl, q2⟩
              have G2 : Hid (Below w1.heap.size w1 w2) := q2
              clear q2
              go_wp2_with (go_at_call 13; refine (HW.out _).mono ?_; rintro e w3 ⟨rfl, rfl⟩)
              go_ret
              exact ⟨ret_int HX.out.symm, G2.out⟩
          · have HY : Hid (trackNextV 6 state inside flags = 7) := by unfold Hid; rw [HX.out, if_pos (by unfold flagB; exact decide_eq_true h4)]
            go_wp2_with fail
            go_ret
            exact ⟨ret_int HY.out.symm, Below.refl _ _⟩
    · have HX : Hid (trackNextV proto state inside flags = 0) := by unfold Hid trackNextV; rw [if_neg (by rw [HS.out]; decide), if_neg (fun h => hp h.1)]
      clear hT
      go_enter Tryd.func5, Tryd.ntmps5
      go_wp2_with fail
      refine (HA.out _).mono ?_
      rintro e w1 ⟨rfl, rfl⟩
      go_wp2_with fail
      go_ret
      exact ⟨ret_int HX.out.symm, Below.refl _ _⟩
end Go.Proofs.YtkfheijbppmjcakDoor
