/- ITrack: what the program's LivesRight, TrackNext, TrackLife answer. Printed by mkitrack.py. -/
import Derived.Test.YtkfheijbppmjcakTrack
import Derived.Test.YtkfheijbppmjcakLawLives
import Derived.Test.YtkfheijbppmjcakIV4A
namespace Go.Proofs.Ytkfheijbppmjcak
open Go.RowKit Go.PlainAid
set_option linter.unusedVariables false
set_option linter.unusedSimpArgs false

theorem isLife_any (n : Int) (w : World) :
    Calls Try.prog 45 #[.int .i64 n] w fun e w' => e = .returned (.bool (isIn n 1 10000)) ∧ w' = w := by
  by_cases h1 : 1 ≤ n
  · by_cases h2 : n ≤ 10000
    · have HV : Hid (isIn n 1 10000 = true) := by unfold Hid isIn; simp [h1, h2]
      go_enter Try.func45, Try.ntmps45
      go_wp2_with fail
      go_ret
      exact ⟨ret_bool (by rw [HV.out]), rfl⟩
    · have HV : Hid (isIn n 1 10000 = false) := by unfold Hid isIn; simp [h2]
      go_enter Try.func45, Try.ntmps45
      go_wp2_with fail
      go_ret
      exact ⟨ret_bool (by rw [HV.out]), rfl⟩
  · have HV : Hid (isIn n 1 10000 = false) := by unfold Hid isIn; simp [h1]
    have h1' : n < 1 := by omega
    go_enter Try.func45, Try.ntmps45
    go_wp2_with fail
    go_ret
    exact ⟨ret_bool (by rw [HV.out]), rfl⟩
set_option maxRecDepth 100000 in
set_option maxHeartbeats 1000000 in
theorem implLives_any (l : Lv) (w : World) :
    Calls Try.prog 23 #[lvC l] w fun e w' => e = .returned (.bool (livesOk l)) ∧ Below w.heap.size w w' := by
  have HC0 : Hid (∀ W, Calls Try.prog 45 #[.int .i64 l.udp] W fun e w' => e = .returned (.bool (isIn l.udp 1 10000)) ∧ w' = W) := fun W => isLife_any _ W
  have HC1 : Hid (∀ W, Calls Try.prog 45 #[.int .i64 l.echo] W fun e w' => e = .returned (.bool (isIn l.echo 1 10000)) ∧ w' = W) := fun W => isLife_any _ W
  have HC2 : Hid (∀ W, Calls Try.prog 45 #[.int .i64 l.opening] W fun e w' => e = .returned (.bool (isIn l.opening 1 10000)) ∧ w' = W) := fun W => isLife_any _ W
  have HC3 : Hid (∀ W, Calls Try.prog 45 #[.int .i64 l.opn] W fun e w' => e = .returned (.bool (isIn l.opn 1 10000)) ∧ w' = W) := fun W => isLife_any _ W
  have HC4 : Hid (∀ W, Calls Try.prog 45 #[.int .i64 l.closing] W fun e w' => e = .returned (.bool (isIn l.closing 1 10000)) ∧ w' = W) := fun W => isLife_any _ W
  have HV : Hid (livesOk l = (isIn l.udp 1 10000 && isIn l.echo 1 10000 && isIn l.opening 1 10000 && isIn l.opn 1 10000 && isIn l.closing 1 10000)) := rfl
  generalize livesOk l = ans at *
  generalize isIn l.udp 1 10000 = b0 at *
  generalize isIn l.echo 1 10000 = b1 at *
  generalize isIn l.opening 1 10000 = b2 at *
  generalize isIn l.opn 1 10000 = b3 at *
  generalize isIn l.closing 1 10000 = b4 at *
  have HZ : Hid (Below w.heap.size w (w.alloc (.cells #[.int .i64 l.udp, .int .i64 l.echo, .int .i64 l.opening, .int .i64 l.opn, .int .i64 l.closing] 43))) := (Below.refl _ _).alloc (Nat.le_refl _) _
  unfold lvC
  go_enter Try.func23, Try.ntmps23
  go_wp2_with fail
  cases b0 with
  | false =>
    refine (HC0.out _).mono ?_
    rintro e w0 ⟨rfl, rfl⟩
    go_wp2_with fail
    go_ret
    exact ⟨ret_bool (by rw [HV.out]; rfl), HZ.out⟩
  | true =>
    refine (HC0.out _).mono ?_
    rintro e w0 ⟨rfl, rfl⟩
    go_wp2_with fail
    cases b1 with
    | false =>
      refine (HC1.out _).mono ?_
      rintro e w1 ⟨rfl, rfl⟩
      go_wp2_with fail
      go_ret
      exact ⟨ret_bool (by rw [HV.out]; rfl), HZ.out⟩
    | true =>
      refine (HC1.out _).mono ?_
      rintro e w1 ⟨rfl, rfl⟩
      go_wp2_with fail
      cases b2 with
      | false =>
        refine (HC2.out _).mono ?_
        rintro e w2 ⟨rfl, rfl⟩
        go_wp2_with fail
        go_ret
        exact ⟨ret_bool (by rw [HV.out]; rfl), HZ.out⟩
      | true =>
        refine (HC2.out _).mono ?_
        rintro e w2 ⟨rfl, rfl⟩
        go_wp2_with fail
        cases b3 with
        | false =>
          refine (HC3.out _).mono ?_
          rintro e w3 ⟨rfl, rfl⟩
          go_wp2_with fail
          go_ret
          exact ⟨ret_bool (by rw [HV.out]; rfl), HZ.out⟩
        | true =>
          refine (HC3.out _).mono ?_
          rintro e w3 ⟨rfl, rfl⟩
          go_wp2_with fail
          cases b4 with
          | false =>
            refine (HC4.out _).mono ?_
            rintro e w4 ⟨rfl, rfl⟩
            go_wp2_with fail
            go_ret
            exact ⟨ret_bool (by rw [HV.out]; rfl), HZ.out⟩
          | true =>
            refine (HC4.out _).mono ?_
            rintro e w4 ⟨rfl, rfl⟩
            go_wp2_with fail
            go_ret
            exact ⟨ret_bool (by rw [HV.out]; rfl), HZ.out⟩
set_option maxRecDepth 100000 in
set_option maxHeartbeats 1000000 in
theorem connLife_any (l : Lv) (state : Int) (w : World) :
    Calls Try.prog 46 #[lvC l, .int .i64 state] w fun e w' => e = .returned (.int .i64 (if state = 1 ∨ state = 2 then l.opening else if state = 3 ∨ state = 4 ∨ state = 5 then l.opn else if state = 6 ∨ state = 7 then l.closing else 0)) ∧ Below w.heap.size w w' := by
  have HZ : Hid (Below w.heap.size w (w.alloc (.cells #[.int .i64 l.udp, .int .i64 l.echo, .int .i64 l.opening, .int .i64 l.opn, .int .i64 l.closing] 43))) := (Below.refl _ _).alloc (Nat.le_refl _) _
  obtain ⟨ans, hans⟩ : ∃ x, x = (if state = 1 ∨ state = 2 then l.opening else if state = 3 ∨ state = 4 ∨ state = 5 then l.opn else if state = 6 ∨ state = 7 then l.closing else 0) := ⟨_, rfl⟩
  rw [← hans]
  have HX : Hid (ans = _) := hans
  clear hans
  unfold lvC
  by_cases s1 : state = 1
  · subst s1; simp at HX; go_enter Try.func46, Try.ntmps46; go_wp2_with fail; go_ret; exact ⟨ret_int HX.out.symm, HZ.out⟩
  by_cases s2 : state = 2
  · subst s2; simp at HX; go_enter Try.func46, Try.ntmps46; go_wp2_with fail; go_ret; exact ⟨ret_int HX.out.symm, HZ.out⟩
  by_cases s3 : state = 3
  · subst s3; simp at HX; go_enter Try.func46, Try.ntmps46; go_wp2_with fail; go_ret; exact ⟨ret_int HX.out.symm, HZ.out⟩
  by_cases s4 : state = 4
  · subst s4; simp at HX; go_enter Try.func46, Try.ntmps46; go_wp2_with fail; go_ret; exact ⟨ret_int HX.out.symm, HZ.out⟩
  by_cases s5 : state = 5
  · subst s5; simp at HX; go_enter Try.func46, Try.ntmps46; go_wp2_with fail; go_ret; exact ⟨ret_int HX.out.symm, HZ.out⟩
  by_cases s6 : state = 6
  · subst s6; simp at HX; go_enter Try.func46, Try.ntmps46; go_wp2_with fail; go_ret; exact ⟨ret_int HX.out.symm, HZ.out⟩
  by_cases s7 : state = 7
  · subst s7; simp at HX; go_enter Try.func46, Try.ntmps46; go_wp2_with fail; go_ret; exact ⟨ret_int HX.out.symm, HZ.out⟩
  simp [s1, s2, s3, s4, s5, s6, s7] at HX
  go_enter Try.func46, Try.ntmps46
  go_wp2_with fail
  go_ret
  exact ⟨ret_int HX.out.symm, HZ.out⟩
set_option maxRecDepth 100000 in
set_option maxHeartbeats 1000000 in
theorem implLife_any (l : Lv) (proto state : Int) (w : World) :
    Calls Try.prog 25 #[lvC l, .int .i64 proto, .int .i64 state] w fun e w' => e = .returned (.int .i64 (trackLifeV l proto state)) ∧ Below w.heap.size w w' := by
  have HL : Hid (∀ W, Calls Try.prog 23 #[lvC l] W fun e w' => e = .returned (.bool (livesOk l)) ∧ Below W.heap.size W w') := fun W => implLives_any l W
  have HN : Hid (∀ W, Calls Try.prog 46 #[lvC l, .int .i64 state] W fun e w' => e = .returned (.int .i64 (if state = 1 ∨ state = 2 then l.opening else if state = 3 ∨ state = 4 ∨ state = 5 then l.opn else if state = 6 ∨ state = 7 then l.closing else 0)) ∧ Below W.heap.size W w') := fun W => connLife_any l state W
  have HK : Hid (BoxLives (w.alloc (.cells #[.int .i64 l.udp, .int .i64 l.echo, .int .i64 l.opening, .int .i64 l.opn, .int .i64 l.closing] 43)) w.heap.size l) := BoxLives.new w l
  have HZ : Hid (Below w.heap.size w (w.alloc (.cells #[.int .i64 l.udp, .int .i64 l.echo, .int .i64 l.opening, .int .i64 l.opn, .int .i64 l.closing] 43))) := (Below.refl _ _).alloc (Nat.le_refl _) _
  unfold lvC at HL HN ⊢
  cases hl : livesOk l with
  | false =>
    have HX : Hid (trackLifeV l proto state = 0) := by unfold Hid trackLifeV; rw [if_pos hl]
    rw [hl] at HL
    clear hl
    go_enter Try.func25, Try.ntmps25
    go_wp2_with fail
    refine (HL.out _).mono ?_
    rintro e w1 ⟨rfl, q1⟩
    have G1 : Hid (Below w.heap.size w w1) := HZ.out.trans (q1.mono HZ.out.size)
    clear q1
    go_wp2_with fail
    go_ret
    exact ⟨ret_int HX.out.symm, G1.out⟩
  | true =>
    generalize hcl : (if state = 1 ∨ state = 2 then l.opening else if state = 3 ∨ state = 4 ∨ state = 5 then l.opn else if state = 6 ∨ state = 7 then l.closing else 0) = cl at HN
    have HX : Hid (trackLifeV l proto state = if proto = 17 then l.udp else if proto = 1 then l.echo else if proto = 6 then cl else 0) := by unfold Hid trackLifeV; rw [if_neg (by rw [hl]; decide), hcl]
    rw [hl] at HL
    clear hl hcl
    go_enter Try.func25, Try.ntmps25
    go_wp2_with fail
    refine (HL.out _).mono ?_
    rintro e w1 ⟨rfl, q1⟩
    have G1 : Hid (Below w.heap.size w w1) := HZ.out.trans (q1.mono HZ.out.size)
    obtain ⟨k0, k1, k2, k3, k4⟩ := HK.out.kept q1
    clear q1 HZ HK HL
    by_cases p0 : proto = 17
    · subst p0
      rw [if_pos rfl] at HX
      go_wp2_with fail
      go_ret
      exact ⟨ret_int HX.out.symm, G1.out⟩
    · by_cases p1 : proto = 1
      · subst p1
        rw [if_neg (by decide), if_pos rfl] at HX
        go_wp2_with fail
        go_ret
        exact ⟨ret_int HX.out.symm, G1.out⟩
      · rw [if_neg p0, if_neg p1] at HX
        by_cases p6 : proto = 6
        · subst p6
          rw [if_pos rfl] at HX
          clear p0 p1
          go_wp2_with fail
          refine (HN.out _).mono ?_
          rintro e w2 ⟨rfl, q2⟩
          have G2 : Hid (Below w.heap.size w w2) := G1.out.trans (q2.mono G1.out.size)
          clear q2
          go_wp2_with fail
          go_ret
          exact ⟨ret_int HX.out.symm, G2.out⟩
        · rw [if_neg p6] at HX
          go_wp2_with fail
          go_ret
          exact ⟨ret_int HX.out.symm, G1.out⟩
end Go.Proofs.Ytkfheijbppmjcak
