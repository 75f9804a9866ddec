/- IV4A, ITrack, in one text. -/
import Derived.Test.YtilnnihongokealGreatDoorMerged7
import Derived.Test.YtilnnihongokealGreatDoorMerged3
import Derived.Deep.DeepCutAuto
import Derived.Test.YtilnnihongokealGreatDoorMerged4

/- IV4A: what the program's isByte and pieceRight answer. -/
namespace Go.Proofs.YtilnnihongokealGreatDoor
open Go.RowKit Go.PlainAid
set_option linter.unusedVariables false
set_option linter.unusedSimpArgs false

theorem implByte_any (n : Int) (w : World) :
  Calls Tryz.prog 78 #[.int .i64 n] w fun e w' => e = .returned (.bool (isIn n 0 255)) ∧ w' = w := by
 by_cases h1 : 0 ≤ n
 ·by_cases h2 : n ≤ 255
  ·have HV : Hid (isIn n 0 255 = true) := by unfold Hid isIn; simp [h1, h2]
   go_enter Tryz.func78, Tryz.ntmps78
   go_wp2_with fail
   go_ret
   exact ⟨ret_bool (by rw [HV.out]), rfl⟩
  ·have HV : Hid (isIn n 0 255 = false) := by unfold Hid isIn; simp [h2]
   go_enter Tryz.func78, Tryz.ntmps78
   go_wp2_with fail
   go_ret
   exact ⟨ret_bool (by rw [HV.out]), rfl⟩
 ·have HV : Hid (isIn n 0 255 = false) := by unfold Hid isIn; simp [h1]
  have h1' : n < 0 := by omega
  go_enter Tryz.func78, Tryz.ntmps78
  go_wp2_with fail
  go_ret
  exact ⟨ret_bool (by rw [HV.out]), rfl⟩

end Go.Proofs.YtilnnihongokealGreatDoor

/- ITrack: what the program's LivesRight, TrackNext, TrackLife answer. Printed by mkitrack.py. -/
namespace Go.Proofs.YtilnnihongokealGreatDoor
open Go.RowKit Go.PlainAid
set_option linter.unusedVariables false
set_option linter.unusedSimpArgs false

theorem isLife_any (n : Int) (w : World) :
  Calls Tryz.prog 112 #[.int .i64 n] w fun e w' => e = .returned (.bool (isIn n 1 10000)) ∧ w' = w := by
 by_cases h1 : 1 ≤ n
 ·by_cases h2 : n ≤ 10000
  ·have HV : Hid (isIn n 1 10000 = true) := by unfold Hid isIn; simp [h1, h2]
   go_enter Tryz.func112, Tryz.ntmps112
   go_wp2_with fail
   go_ret
   exact ⟨ret_bool (by rw [HV.out]), rfl⟩
  ·have HV : Hid (isIn n 1 10000 = false) := by unfold Hid isIn; simp [h2]
   go_enter Tryz.func112, Tryz.ntmps112
   go_wp2_with fail
   go_ret
   exact ⟨ret_bool (by rw [HV.out]), rfl⟩
 ·have HV : Hid (isIn n 1 10000 = false) := by unfold Hid isIn; simp [h1]
  have h1' : n < 1 := by omega
  go_enter Tryz.func112, Tryz.ntmps112
  go_wp2_with fail
  go_ret
  exact ⟨ret_bool (by rw [HV.out]), rfl⟩
theorem isState_any (n : Int) (w : World) :
  Calls Tryz.prog 86 #[.int .i64 n] w fun e w' => e = .returned (.bool (isIn n 1 7)) ∧ w' = w := by
 by_cases h1 : 1 ≤ n
 ·by_cases h2 : n ≤ 7
  ·have HV : Hid (isIn n 1 7 = true) := by unfold Hid isIn; simp [h1, h2]
   go_enter Tryz.func86, Tryz.ntmps86
   go_wp2_with fail
   go_ret
   exact ⟨ret_bool (by rw [HV.out]), rfl⟩
  ·have HV : Hid (isIn n 1 7 = false) := by unfold Hid isIn; simp [h2]
   go_enter Tryz.func86, Tryz.ntmps86
   go_wp2_with fail
   go_ret
   exact ⟨ret_bool (by rw [HV.out]), rfl⟩
 ·have HV : Hid (isIn n 1 7 = false) := by unfold Hid isIn; simp [h1]
  have h1' : n < 1 := by omega
  go_enter Tryz.func86, Tryz.ntmps86
  go_wp2_with fail
  go_ret
  exact ⟨ret_bool (by rw [HV.out]), rfl⟩
theorem implStill_any (proto : Int) (w : World) :
  Calls Tryz.prog 85 #[.int .i64 proto] w fun e w' => e = .returned (.bool (stillP proto)) ∧ w' = w := by
 by_cases h1 : proto = 17
 ·have HV : Hid (stillP proto = true) := by unfold Hid stillP; simp [h1]
  go_enter Tryz.func85, Tryz.ntmps85
  go_wp2_with fail
  go_ret
  exact ⟨ret_bool HV.out.symm, rfl⟩
 ·by_cases h2 : proto = 1
  ·have HV : Hid (stillP proto = true) := by unfold Hid stillP; simp [h2]
   go_enter Tryz.func85, Tryz.ntmps85
   go_wp2_with fail
   go_ret
   exact ⟨ret_bool HV.out.symm, rfl⟩
  ·have HV : Hid (stillP proto = false) := by unfold Hid stillP; simp [h1, h2]
   go_enter Tryz.func85, Tryz.ntmps85
   go_wp2_with fail
   go_ret
   exact ⟨ret_bool (by rw [HV.out]; simp [h1, h2]), rfl⟩
set_option maxRecDepth 100000 in
set_option maxHeartbeats 1000000 in
theorem implLives_any (l : Lv) (w : World) :
  Calls Tryz.prog 89 #[lvC l] w fun e w' => e = .returned (.bool (livesOk l)) ∧ Below w.heap.size w w' := by
 have HC0 : Hid (∀ W, Calls Tryz.prog 112 #[.int .i64 l.udp] W fun e w' => e = .returned (.bool (isIn l.udp 1 10000)) ∧ w' = W) := fun W => isLife_any _ W
 have HC1 : Hid (∀ W, Calls Tryz.prog 112 #[.int .i64 l.echo] W fun e w' => e = .returned (.bool (isIn l.echo 1 10000)) ∧ w' = W) := fun W => isLife_any _ W
 have HC2 : Hid (∀ W, Calls Tryz.prog 112 #[.int .i64 l.opening] W fun e w' => e = .returned (.bool (isIn l.opening 1 10000)) ∧ w' = W) := fun W => isLife_any _ W
 have HC3 : Hid (∀ W, Calls Tryz.prog 112 #[.int .i64 l.opn] W fun e w' => e = .returned (.bool (isIn l.opn 1 10000)) ∧ w' = W) := fun W => isLife_any _ W
 have HC4 : Hid (∀ W, Calls Tryz.prog 112 #[.int .i64 l.closing] W fun e w' => e = .returned (.bool (isIn l.closing 1 10000)) ∧ w' = W) := fun W => isLife_any _ W
 have HV : Hid (livesOk l = (isIn l.udp 1 10000 && isIn l.echo 1 10000 && isIn l.opening 1 10000 && isIn l.opn 1 10000 && isIn l.closing 1 10000)) := rfl
 generalize livesOk l = ans at *
 generalize isIn l.udp 1 10000 = b0 at *
 generalize isIn l.echo 1 10000 = b1 at *
 generalize isIn l.opening 1 10000 = b2 at *
 generalize isIn l.opn 1 10000 = b3 at *
 generalize isIn l.closing 1 10000 = b4 at *
 have HZ : Hid (Below w.heap.size w (w.alloc (.cells #[.int .i64 l.udp, .int .i64 l.echo, .int .i64 l.opening, .int .i64 l.opn, .int .i64 l.closing] 45))) := (Below.refl _ _).alloc (Nat.le_refl _) _
 unfold lvC
 go_enter Tryz.func89, Tryz.ntmps89
 go_wp2_with fail
 cases b0 with
 | false =>
  refine (HC0.out _).mono ?_
  rintro e w0 ⟨rfl, rfl⟩
  go_wp2_with fail
  go_ret
  exact ⟨ret_bool (by rw [HV.out]; rfl), HZ.out⟩
 | true =>
  refine (HC0.out _).mono ?_
  rintro e w0 ⟨rfl, rfl⟩
  go_wp2_with fail
  cases b1 with
  | false =>
   refine (HC1.out _).mono ?_
   rintro e w1 ⟨rfl, rfl⟩
   go_wp2_with fail
   go_ret
   exact ⟨ret_bool (by rw [HV.out]; rfl), HZ.out⟩
  | true =>
   refine (HC1.out _).mono ?_
   rintro e w1 ⟨rfl, rfl⟩
   go_wp2_with fail
   cases b2 with
   | false =>
    refine (HC2.out _).mono ?_
    rintro e w2 ⟨rfl, rfl⟩
    go_wp2_with fail
    go_ret
    exact ⟨ret_bool (by rw [HV.out]; rfl), HZ.out⟩
   | true =>
    refine (HC2.out _).mono ?_
    rintro e w2 ⟨rfl, rfl⟩
    go_wp2_with fail
    cases b3 with
    | false =>
     refine (HC3.out _).mono ?_
     rintro e w3 ⟨rfl, rfl⟩
     go_wp2_with fail
     go_ret
     exact ⟨ret_bool (by rw [HV.out]; rfl), HZ.out⟩
    | true =>
     refine (HC3.out _).mono ?_
     rintro e w3 ⟨rfl, rfl⟩
     go_wp2_with fail
     cases b4 with
     | false =>
      refine (HC4.out _).mono ?_
      rintro e w4 ⟨rfl, rfl⟩
      go_wp2_with fail
      go_ret
      exact ⟨ret_bool (by rw [HV.out]; rfl), HZ.out⟩
     | true =>
      refine (HC4.out _).mono ?_
      rintro e w4 ⟨rfl, rfl⟩
      go_wp2_with fail
      go_ret
      exact ⟨ret_bool (by rw [HV.out]; rfl), HZ.out⟩
set_option maxRecDepth 100000 in
set_option maxHeartbeats 1000000 in
theorem connLife_any (l : Lv) (state : Int) (w : World) :
  Calls Tryz.prog 90 #[lvC l, .int .i64 state] w fun e w' => e = .returned (.int .i64 (if state = 1 ∨ state = 2 then l.opening else if state = 3 ∨ state = 4 ∨ state = 5 then l.opn else if state = 6 ∨ state = 7 then l.closing else 0)) ∧ Below w.heap.size w w' := by
 have HZ : Hid (Below w.heap.size w (w.alloc (.cells #[.int .i64 l.udp, .int .i64 l.echo, .int .i64 l.opening, .int .i64 l.opn, .int .i64 l.closing] 45))) := (Below.refl _ _).alloc (Nat.le_refl _) _
 obtain ⟨ans, hans⟩ : ∃ x, x = (if state = 1 ∨ state = 2 then l.opening else if state = 3 ∨ state = 4 ∨ state = 5 then l.opn else if state = 6 ∨ state = 7 then l.closing else 0) := ⟨_, rfl⟩
 rw [← hans]
 have HX : Hid (ans = _) := hans
 clear hans
 unfold lvC
 by_cases s1 : state = 1
 ·subst s1; simp at HX; go_enter Tryz.func90, Tryz.ntmps90; go_wp2_with fail; go_ret; exact ⟨ret_int HX.out.symm, HZ.out⟩
 by_cases s2 : state = 2
 ·subst s2; simp at HX; go_enter Tryz.func90, Tryz.ntmps90; go_wp2_with fail; go_ret; exact ⟨ret_int HX.out.symm, HZ.out⟩
 by_cases s3 : state = 3
 ·subst s3; simp at HX; go_enter Tryz.func90, Tryz.ntmps90; go_wp2_with fail; go_ret; exact ⟨ret_int HX.out.symm, HZ.out⟩
 by_cases s4 : state = 4
 ·subst s4; simp at HX; go_enter Tryz.func90, Tryz.ntmps90; go_wp2_with fail; go_ret; exact ⟨ret_int HX.out.symm, HZ.out⟩
 by_cases s5 : state = 5
 ·subst s5; simp at HX; go_enter Tryz.func90, Tryz.ntmps90; go_wp2_with fail; go_ret; exact ⟨ret_int HX.out.symm, HZ.out⟩
 by_cases s6 : state = 6
 ·subst s6; simp at HX; go_enter Tryz.func90, Tryz.ntmps90; go_wp2_with fail; go_ret; exact ⟨ret_int HX.out.symm, HZ.out⟩
 by_cases s7 : state = 7
 ·subst s7; simp at HX; go_enter Tryz.func90, Tryz.ntmps90; go_wp2_with fail; go_ret; exact ⟨ret_int HX.out.symm, HZ.out⟩
 simp [s1, s2, s3, s4, s5, s6, s7] at HX
 go_enter Tryz.func90, Tryz.ntmps90
 go_wp2_with fail
 go_ret
 exact ⟨ret_int HX.out.symm, HZ.out⟩
set_option maxRecDepth 100000 in
set_option maxHeartbeats 1000000 in
theorem implLife_any (l : Lv) (proto state : Int) (w : World) :
  Calls Tryz.prog 38 #[lvC l, .int .i64 proto, .int .i64 state] w fun e w' => e = .returned (.int .i64 (trackLifeV l proto state)) ∧ Below w.heap.size w w' := by
 have HL : Hid (∀ W, Calls Tryz.prog 89 #[lvC l] W fun e w' => e = .returned (.bool (livesOk l)) ∧ Below W.heap.size W w') := fun W => implLives_any l W
 have HN : Hid (∀ W, Calls Tryz.prog 90 #[lvC l, .int .i64 state] W fun e w' => e = .returned (.int .i64 (if state = 1 ∨ state = 2 then l.opening else if state = 3 ∨ state = 4 ∨ state = 5 then l.opn else if state = 6 ∨ state = 7 then l.closing else 0)) ∧ Below W.heap.size W w') := fun W => connLife_any l state W
 have HK : Hid (BoxLives (w.alloc (.cells #[.int .i64 l.udp, .int .i64 l.echo, .int .i64 l.opening, .int .i64 l.opn, .int .i64 l.closing] 45)) w.heap.size l) := BoxLives.new w l
 have HZ : Hid (Below w.heap.size w (w.alloc (.cells #[.int .i64 l.udp, .int .i64 l.echo, .int .i64 l.opening, .int .i64 l.opn, .int .i64 l.closing] 45))) := (Below.refl _ _).alloc (Nat.le_refl _) _
 unfold lvC at HL HN ⊢
 cases hl : livesOk l with
 | false =>
  have HX : Hid (trackLifeV l proto state = 0) := by unfold Hid trackLifeV; rw [if_pos hl]
  rw [hl] at HL
  clear hl
  go_enter Tryz.func38, Tryz.ntmps38
  go_wp2_with fail
  refine (HL.out _).mono ?_
  rintro e w1 ⟨rfl, q1⟩
  have G1 : Hid (Below w.heap.size w w1) := HZ.out.trans (q1.mono HZ.out.size)
  clear q1
  go_wp2_with fail
  go_ret
  exact ⟨ret_int HX.out.symm, G1.out⟩
 | true =>
  generalize hcl : (if state = 1 ∨ state = 2 then l.opening else if state = 3 ∨ state = 4 ∨ state = 5 then l.opn else if state = 6 ∨ state = 7 then l.closing else 0) = cl at HN
  have HX : Hid (trackLifeV l proto state = if proto = 17 then l.udp else if proto = 1 then l.echo else if proto = 6 then cl else 0) := by unfold Hid trackLifeV; rw [if_neg (by rw [hl]; decide), hcl]
  rw [hl] at HL
  clear hl hcl
  go_enter Tryz.func38, Tryz.ntmps38
  go_wp2_with fail
  refine (HL.out _).mono ?_
  rintro e w1 ⟨rfl, q1⟩
  have G1 : Hid (Below w.heap.size w w1) := HZ.out.trans (q1.mono HZ.out.size)
  obtain ⟨k0, k1, k2, k3, k4⟩ := HK.out.kept q1
  clear q1 HZ HK HL
  by_cases p0 : proto = 17
  ·subst p0
   rw [if_pos rfl] at HX
   go_wp2_with fail
   go_ret
   exact ⟨ret_int HX.out.symm, G1.out⟩
  ·by_cases p1 : proto = 1
   ·subst p1
    rw [if_neg (by decide), if_pos rfl] at HX
    go_wp2_with fail
    go_ret
    exact ⟨ret_int HX.out.symm, G1.out⟩
   ·rw [if_neg p0, if_neg p1] at HX
    by_cases p6 : proto = 6
    ·subst p6
     rw [if_pos rfl] at HX
     clear p0 p1
     go_wp2_with fail
     refine (HN.out _).mono ?_
     rintro e w2 ⟨rfl, q2⟩
     have G2 : Hid (Below w.heap.size w w2) := G1.out.trans (q2.mono G1.out.size)
     clear q2
     go_wp2_with fail
     go_ret
     exact ⟨ret_int HX.out.symm, G2.out⟩
    ·rw [if_neg p6] at HX
     go_wp2_with fail
     go_ret
     exact ⟨ret_int HX.out.symm, G1.out⟩
/-- Whether flags have the one that a state goes on by. -/
def waitV (state flags : Int) : Bool := if state = 1 ∨ state = 2 then flagB flags 2 else if state = 3 ∨ state = 4 ∨ state = 5 then flagB flags 1 else true
set_option maxRecDepth 100000 in
set_option maxHeartbeats 1000000 in
theorem waits_any (state flags : Int) (w : World) (hr : state = 1 ∨ state = 2 ∨ state = 3 ∨ state = 4 ∨ state = 5 ∨ state = 6 ∨ state = 7) :
  Calls Tryz.prog 88 #[.int .i64 state, .int .i64 flags] w fun e w' => e = .returned (.bool (waitV state flags)) ∧ w' = w := by
 obtain ⟨ans, hans⟩ : ∃ x, x = waitV state flags := ⟨_, rfl⟩
 rw [← hans]
 have HX : Hid (ans = waitV state flags) := hans
 clear hans
 have e1 : flagB flags 1 = decide (¬ bits .and .i64 flags 1 = 0) := rfl
 have e2 : flagB flags 2 = decide (¬ bits .and .i64 flags 2 = 0) := rfl
 unfold waitV at HX
 rw [e1, e2] at HX
 clear e1 e2
 rcases hr with rfl | rfl | rfl | rfl | rfl | rfl | rfl <;> by_cases h1 : bits .and .i64 flags 1 = 0 <;> by_cases h2 : bits .and .i64 flags 2 = 0
 all_goals
  simp [h1, h2] at HX
  go_enter Tryz.func88, Tryz.ntmps88
  go_wp2_with fail
  go_ret
  exact ⟨ret_bool (by first | exact HX.out.symm | (rw [HX.out]; simp [h1, h2])), rfl⟩
set_option maxRecDepth 100000 in
theorem from_any (a b : Int) (inside : Bool) (w : World) :
  Calls Tryz.prog 87 #[.agg #[.int .i64 a, .int .i64 b], .bool inside] w fun e w' => e = .returned (.int .i64 (if inside = true then a else b)) ∧ Below w.heap.size w w' := by
 have HZ : Hid (Below w.heap.size w (w.alloc (.cells #[.int .i64 a, .int .i64 b] 121))) := (Below.refl _ _).alloc (Nat.le_refl _) _
 cases inside
 all_goals
  go_enter Tryz.func87, Tryz.ntmps87
  go_wp2_with fail
  go_ret
  exact ⟨ret_int (by simp), HZ.out⟩
/-- What the table of the states holds. -/
def TabB (w : World) : Prop := ∀ i : Nat, i < 16 → w.cell? ⟨0, i, none⟩ = some (.int .i64 ([0, 0, 0, 3, 3, 0, 4, 5, 0, 6, 6, 0, 0, 0, 3, 3].getD i 0))
theorem TabB.below {w W : World} (h : TabB w) (hb : Below w.heap.size w W) : TabB W := fun i hi => ((bcell hb).1 _ _ (World.block_lt_of_cell? w _ (h i hi))).trans (h i hi)
theorem next_six (state : Int) (inside : Bool) (flags : Int) (hb : isIn state 1 7 = true) (hc : isIn flags 0 255 = true) : trackNextV 6 state inside flags = (
  if flagB flags 4 = true then 7
  else if state = 1 then (if inside = false ∧ flagB flags 2 = true then 3 else 1)
  else if state = 2 then (if inside = true ∧ flagB flags 2 = true then 3 else 2)
  else if state = 3 then (if flagB flags 1 = true then (if inside = true then 4 else 5) else 3)
  else if state = 4 then (if inside = false ∧ flagB flags 1 = true then 6 else 4)
  else if state = 5 then (if inside = true ∧ flagB flags 1 = true then 6 else 5)
  else if state = 7 then 3 else state) := by
 unfold trackNextV; rw [if_neg (by decide), if_pos ⟨rfl, hb, hc⟩]
set_option maxRecDepth 100000 in
set_option maxHeartbeats 2000000 in
theorem implNext_any (proto state : Int) (inside : Bool) (flags : Int) (w : World) (hT : TabB w) :
  Calls Tryz.prog 37 #[.int .i64 proto, .int .i64 state, .bool inside, .int .i64 flags] w fun e w' => e = .returned (.int .i64 (trackNextV proto state inside flags)) ∧ Below w.heap.size w w' := by
 have HA : Hid (∀ W, Calls Tryz.prog 85 #[.int .i64 proto] W fun e w' => e = .returned (.bool (stillP proto)) ∧ w' = W) := fun W => implStill_any _ W
 have HB : Hid (∀ W, Calls Tryz.prog 86 #[.int .i64 state] W fun e w' => e = .returned (.bool (isIn state 1 7)) ∧ w' = W) := fun W => isState_any _ W
 have HC : Hid (∀ W, Calls Tryz.prog 78 #[.int .i64 flags] W fun e w' => e = .returned (.bool (isIn flags 0 255)) ∧ w' = W) := fun W => implByte_any _ W
 cases hs : stillP proto with
 | true =>
  have HX : Hid (trackNextV proto state inside flags = 3) := by unfold Hid trackNextV; rw [if_pos hs]
  rw [hs] at HA
  clear hs hT
  go_enter Tryz.func37, Tryz.ntmps37
  go_wp2_with fail
  refine (HA.out _).mono ?_
  rintro e w1 ⟨rfl, rfl⟩
  go_wp2_with fail
  go_ret
  exact ⟨ret_int HX.out.symm, Below.refl _ _⟩
 | false =>
  rw [hs] at HA
  have HS : Hid (stillP proto = false) := hs
  clear hs
  by_cases hp : proto = 6
  ·subst hp
   cases hb : isIn state 1 7 with
   | false =>
    have HX : Hid (trackNextV 6 state inside flags = 0) := by unfold Hid trackNextV; rw [if_neg (by rw [HS.out]; decide), if_neg (by rw [hb]; simp)]
    rw [hb] at HB
    clear hb hT
    go_enter Tryz.func37, Tryz.ntmps37
    go_wp2_with fail
    refine (HA.out _).mono ?_
    rintro e w1 ⟨rfl, rfl⟩
    go_wp2_with fail
    refine (HB.out _).mono ?_
    rintro e w1 ⟨rfl, rfl⟩
    go_wp2_with fail
    go_ret
    exact ⟨ret_int HX.out.symm, Below.refl _ _⟩
   | true =>
    cases hc : isIn flags 0 255 with
    | false =>
     have HX : Hid (trackNextV 6 state inside flags = 0) := by unfold Hid trackNextV; rw [if_neg (by rw [HS.out]; decide), if_neg (by rw [hc]; simp)]
     rw [hb] at HB
     rw [hc] at HC
     clear hb hc hT
     go_enter Tryz.func37, Tryz.ntmps37
     go_wp2_with fail
     refine (HA.out _).mono ?_
     rintro e w1 ⟨rfl, rfl⟩
     go_wp2_with fail
     refine (HB.out _).mono ?_
     rintro e w1 ⟨rfl, rfl⟩
     go_wp2_with fail
     refine (HC.out _).mono ?_
     rintro e w1 ⟨rfl, rfl⟩
     go_wp2_with fail
     go_ret
     exact ⟨ret_int HX.out.symm, Below.refl _ _⟩
    | true =>
     have HX : Hid _ := next_six state inside flags hb hc
     rw [hb] at HB
     rw [hc] at HC
     have hr : state = 1 ∨ state = 2 ∨ state = 3 ∨ state = 4 ∨ state = 5 ∨ state = 6 ∨ state = 7 := by
      unfold isIn at hb; simp only [Bool.and_eq_true, decide_eq_true_eq] at hb; omega
     have HW : Hid (∀ W, Calls Tryz.prog 88 #[.int .i64 state, .int .i64 flags] W fun e w' => e = .returned (.bool (waitV state flags)) ∧ w' = W) := fun W => waits_any state flags W hr
     have HF : Hid (∀ a b W, Calls Tryz.prog 87 #[.agg #[.int .i64 a, .int .i64 b], .bool inside] W fun e w' => e = .returned (.int .i64 (if inside = true then a else b)) ∧ Below W.heap.size W w') := fun a b W => from_any a b inside W
     clear hb hc
     have k0 := hT 0 (by decide)
     have k1 := hT 1 (by decide)
     have k2 := hT 2 (by decide)
     have k3 := hT 3 (by decide)
     have k4 := hT 4 (by decide)
     have k5 := hT 5 (by decide)
     have k6 := hT 6 (by decide)
     have k7 := hT 7 (by decide)
     have k8 := hT 8 (by decide)
     have k9 := hT 9 (by decide)
     have k10 := hT 10 (by decide)
     have k11 := hT 11 (by decide)
     have k12 := hT 12 (by decide)
     have k13 := hT 13 (by decide)
     have k14 := hT 14 (by decide)
     have k15 := hT 15 (by decide)
     simp only [List.getD_cons_zero, List.getD_cons_succ] at k0 k1 k2 k3 k4 k5 k6 k7 k8 k9 k10 k11 k12 k13 k14 k15
     clear hT
     go_enter Tryz.func37, Tryz.ntmps37
     go_wp2_with fail
     refine (HA.out _).mono ?_
     rintro e w1 ⟨rfl, rfl⟩
     go_wp2_with fail
     refine (HB.out _).mono ?_
     rintro e w1 ⟨rfl, rfl⟩
     go_wp2_with fail
     refine (HC.out _).mono ?_
     rintro e w1 ⟨rfl, rfl⟩
     clear HA HB HC
     go_upto_region 5 with fail
     by_cases h4 : bits .and .i64 flags 4 = 0
     ·have n4 : flagB flags 4 = false := by unfold flagB; simp [h4]
      rw [n4, if_neg (by decide)] at HX
      clear n4
      have e1 : flagB flags 1 = decide (¬ bits .and .i64 flags 1 = 0) := rfl
      have e2 : flagB flags 2 = decide (¬ bits .and .i64 flags 2 = 0) := rfl
      unfold waitV at HW
      rw [e1, e2] at HX HW
      clear e1 e2
      rcases hr with rfl | rfl | rfl | rfl | rfl | rfl | rfl <;> by_cases h1 : bits .and .i64 flags 1 = 0 <;> by_cases h2 : bits .and .i64 flags 2 = 0 <;> cases inside
      all_goals
       simp [h1, h2] at HX
       simp [h1, h2] at HW
       simp at HF
       go_wp2_with fail
       refine (HF.out _ _ _).mono ?_
       rintro e w2 ⟨rfl, q2⟩
       have G2 : Hid (Below w1.heap.size w1 w2) := q2
       clear q2
       go_wp2_with (go_at_call 88; refine (HW.out _).mono ?_; rintro e w3 ⟨rfl, rfl⟩)
       go_ret
       exact ⟨ret_int HX.out.symm, G2.out⟩
     ·have HY : Hid (trackNextV 6 state inside flags = 7) := by unfold Hid; rw [HX.out, if_pos (by unfold flagB; exact decide_eq_true h4)]
      go_wp2_with fail
      go_ret
      exact ⟨ret_int HY.out.symm, Below.refl _ _⟩
  ·have HX : Hid (trackNextV proto state inside flags = 0) := by unfold Hid trackNextV; rw [if_neg (by rw [HS.out]; decide), if_neg (fun h => hp h.1)]
   clear hT
   go_enter Tryz.func37, Tryz.ntmps37
   go_wp2_with fail
   refine (HA.out _).mono ?_
   rintro e w1 ⟨rfl, rfl⟩
   go_wp2_with fail
   go_ret
   exact ⟨ret_int HX.out.symm, Below.refl _ _⟩
end Go.Proofs.YtilnnihongokealGreatDoor
