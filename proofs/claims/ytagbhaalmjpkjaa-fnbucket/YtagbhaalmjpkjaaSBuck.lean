/- SBuck: what the specification's l06Time, BucketRight answer. Printed by mkbuck.py. -/
import Derived.Test.YtagbhaalmjpkjaaSV4
import Derived.Test.YtagbhaalmjpkjaaLawBucket
import Derived.Test.YtagbhaalmjpkjaaBoxes
namespace Go.Proofs.Ytagbhaalmjpkjaa
open Go.RowKit Go.PlainAid
set_option linter.unusedVariables false
set_option linter.unusedSimpArgs false

theorem specBkTime_any (n : Int) (w : World) :
    Calls Try.prog 27 #[.int .i64 n] w fun e w' => e = .returned (.bool (bkTime n)) ∧ w' = w := by
  by_cases h1 : 0 ≤ n
  · by_cases h2 : n ≤ 1000000000
    · have HV : Hid (bkTime n = true) := by unfold Hid bkTime isIn; simp [h1, h2]
      go_enter Try.func27, Try.ntmps27
      go_wp2_with fail
      go_ret
      exact ⟨ret_bool (by rw [HV.out]), rfl⟩
    · have HV : Hid (bkTime n = false) := by unfold Hid bkTime isIn; simp [h2]
      go_enter Try.func27, Try.ntmps27
      go_wp2_with fail
      go_ret
      exact ⟨ret_bool (by rw [HV.out]), rfl⟩
  · have HV : Hid (bkTime n = false) := by unfold Hid bkTime isIn; simp [h1]
    have h1' : n < 0 := by omega
    go_enter Try.func27, Try.ntmps27
    go_wp2_with fail
    go_ret
    exact ⟨ret_bool (by rw [HV.out]), rfl⟩
set_option maxRecDepth 100000 in
set_option maxHeartbeats 1000000 in
theorem specBucketRight_any (b : Bk) (w : World) :
    Calls Try.prog 9 #[bkC b] w fun e w' => e = .returned (.bool (bucketOk b)) ∧ Below w.heap.size w w' := by
  have HC0 : Hid (∀ W, Calls Try.prog 29 #[.int .i64 b.most, .int .i64 1, .int .i64 100] W fun e w' => e = .returned (.bool (isIn b.most 1 100)) ∧ w' = W) := fun W => specIs_any _ _ _ W
  have HC1 : Hid (∀ W, Calls Try.prog 29 #[.int .i64 b.left, .int .i64 0, .int .i64 b.most] W fun e w' => e = .returned (.bool (isIn b.left 0 b.most)) ∧ w' = W) := fun W => specIs_any _ _ _ W
  have HC2 : Hid (∀ W, Calls Try.prog 29 #[.int .i64 b.each, .int .i64 1, .int .i64 1000] W fun e w' => e = .returned (.bool (isIn b.each 1 1000)) ∧ w' = W) := fun W => specIs_any _ _ _ W
  have HC3 : Hid (∀ W, Calls Try.prog 27 #[.int .i64 b.since] W fun e w' => e = .returned (.bool (bkTime b.since)) ∧ w' = W) := fun W => specBkTime_any _ W
  have HV : Hid (bucketOk b = (isIn b.most 1 100 && isIn b.left 0 b.most && isIn b.each 1 1000 && bkTime b.since)) := rfl
  generalize bucketOk b = ans at *
  generalize isIn b.most 1 100 = b0 at *
  generalize isIn b.left 0 b.most = b1 at *
  generalize isIn b.each 1 1000 = b2 at *
  generalize bkTime b.since = b3 at *
  have HZ : Hid (Below w.heap.size w (w.alloc (.cells #[.int .i64 b.left, .int .i64 b.most, .int .i64 b.each, .int .i64 b.since] 24))) := (Below.refl _ _).alloc (Nat.le_refl _) _
  unfold bkC
  go_enter Try.func9, Try.ntmps9
  go_wp2_with fail
  cases b0 with
  | false =>
    refine (HC0.out _).mono ?_
    rintro e w0 ⟨rfl, rfl⟩
    go_wp2_with fail
    go_ret
    exact ⟨ret_bool (by rw [HV.out]; rfl), HZ.out⟩
  | true =>
    refine (HC0.out _).mono ?_
    rintro e w0 ⟨rfl, rfl⟩
    go_wp2_with fail
    cases b1 with
    | false =>
      refine (HC1.out _).mono ?_
      rintro e w1 ⟨rfl, rfl⟩
      go_wp2_with fail
      go_ret
      exact ⟨ret_bool (by rw [HV.out]; rfl), HZ.out⟩
    | true =>
      refine (HC1.out _).mono ?_
      rintro e w1 ⟨rfl, rfl⟩
      go_wp2_with fail
      cases b2 with
      | false =>
        refine (HC2.out _).mono ?_
        rintro e w2 ⟨rfl, rfl⟩
        go_wp2_with fail
        go_ret
        exact ⟨ret_bool (by rw [HV.out]; rfl), HZ.out⟩
      | true =>
        refine (HC2.out _).mono ?_
        rintro e w2 ⟨rfl, rfl⟩
        go_wp2_with fail
        cases b3 with
        | false =>
          refine (HC3.out _).mono ?_
          rintro e w3 ⟨rfl, rfl⟩
          go_wp2_with fail
          go_ret
          exact ⟨ret_bool (by rw [HV.out]; rfl), HZ.out⟩
        | true =>
          refine (HC3.out _).mono ?_
          rintro e w3 ⟨rfl, rfl⟩
          go_wp2_with fail
          go_ret
          exact ⟨ret_bool (by rw [HV.out]; rfl), HZ.out⟩
set_option maxRecDepth 100000 in
set_option maxHeartbeats 2000000 in
theorem specBucketTake_any (b : Bk) (now : Int) (w : World) :
    Calls Try.prog 7 #[bkC b, .int .i64 now] w fun e w' => e = .returned (bkO (takeB b now) (takeK b now)) ∧ Below w.heap.size w w' := by
  have HR : Hid (∀ W, Calls Try.prog 9 #[bkC b] W fun e w' => e = .returned (.bool (bucketOk b)) ∧ Below W.heap.size W w') := fun W => specBucketRight_any b W
  have HC : Hid (∀ W, Calls Try.prog 27 #[.int .i64 now] W fun e w' => e = .returned (.bool (bkTime now)) ∧ w' = W) := fun W => specBkTime_any _ W
  have HN : Hid ((bucketOk b = false ∨ bkTime now = false ∨ now < b.since) → takeB b now = b ∧ takeK b now = false) := fun h => take_no h
  have HY : Hid (bucketOk b = true → bkTime now = true → ¬ now < b.since → TakeY b now (takeB b now) (takeK b now)) := fun h1 h2 h3 => take_yes h1 h2 h3
  generalize takeB b now = tb at *
  generalize takeK b now = tk at *
  generalize bucketOk b = ok at *
  generalize bkTime now = tn at *
  obtain ⟨left, most, each, since⟩ := b
  unfold bkC at *
  dsimp only at *
  have e0 : HoldsL ((w.alloc (.cells #[.int .i64 left, .int .i64 most, .int .i64 each, .int .i64 since] 24)).alloc (.cells #[.int .i64 0, .int .i64 0, .int .i64 0, .int .i64 0, .bool false] 28)) (w.heap.size) [.int .i64 left, .int .i64 most, .int .i64 each, .int .i64 since] := by
    have h := HoldsL.new w [.int .i64 left, .int .i64 most, .int .i64 each, .int .i64 since] 24
    try simp only [World.size_alloc] at h
    exact (h.alloc _)
  have e1 : HoldsL ((w.alloc (.cells #[.int .i64 left, .int .i64 most, .int .i64 each, .int .i64 since] 24)).alloc (.cells #[.int .i64 0, .int .i64 0, .int .i64 0, .int .i64 0, .bool false] 28)) (w.heap.size + 1) [.int .i64 0, .int .i64 0, .int .i64 0, .int .i64 0, .bool false] := by
    have h := HoldsL.new (w.alloc (.cells #[.int .i64 left, .int .i64 most, .int .i64 each, .int .i64 since] 24)) [.int .i64 0, .int .i64 0, .int .i64 0, .int .i64 0, .bool false] 28
    try simp only [World.size_alloc] at h
    exact h
  have HS0 : Hid (Bxs w [(w.heap.size, [.int .i64 left, .int .i64 most, .int .i64 each, .int .i64 since]), (w.heap.size + 1, [.int .i64 0, .int .i64 0, .int .i64 0, .int .i64 0, .bool false])] ((w.alloc (.cells #[.int .i64 left, .int .i64 most, .int .i64 each, .int .i64 since] 24)).alloc (.cells #[.int .i64 0, .int .i64 0, .int .i64 0, .int .i64 0, .bool false] 28))) := by
    refine ⟨fun e he => ?_, (((Below.refl _ _).alloc (by (try simp only [World.size_alloc]); omega) _).alloc (by (try simp only [World.size_alloc]); omega) _), fun e he => ?_⟩
    · simp only [List.mem_cons, List.not_mem_nil, or_false] at he
      rcases he with rfl | rfl
      · exact e0
      · exact e1
    · simp only [List.mem_cons, List.not_mem_nil, or_false] at he
      rcases he with rfl | rfl <;> simp
  clear e0 e1
  have hlr : w.heap.size ≤ w.heap.size + 1 := by omega
  have hun : undef = Value.tuple #[] := rfl
  go_enter Try.func7, Try.ntmps7
  go_upto_region 1 with fail
  generalize ((w.alloc (.cells #[.int .i64 left, .int .i64 most, .int .i64 each, .int .i64 since] 24)).alloc (.cells #[.int .i64 0, .int .i64 0, .int .i64 0, .int .i64 0, .bool false] 28)) = W0 at *
  have HHk : HoldsL W0 (w.heap.size) [.int .i64 left, .int .i64 most, .int .i64 each, .int .i64 since] := HS0.out.k _ (.head _)
  have k0 : W0.cell? ⟨w.heap.size, 0, none⟩ = some (.int .i64 left) := HHk.cell rfl
  have k1 : W0.cell? ⟨w.heap.size, 1, none⟩ = some (.int .i64 most) := HHk.cell rfl
  have k2 : W0.cell? ⟨w.heap.size, 2, none⟩ = some (.int .i64 each) := HHk.cell rfl
  have k3 : W0.cell? ⟨w.heap.size, 3, none⟩ = some (.int .i64 since) := HHk.cell rfl
  clear HHk
  go_wp2_with fail
  refine (HR.out _).mono ?_
  rintro e W1 ⟨rfl, q1⟩
  have HS1 : Hid (Bxs w [(w.heap.size, [.int .i64 left, .int .i64 most, .int .i64 each, .int .i64 since]), (w.heap.size + 1, [.int .i64 0, .int .i64 0, .int .i64 0, .int .i64 0, .bool false])] W1) := HS0.out.kept q1
  clear q1 HS0 HR k0 k1 k2 k3
  cases ok with
  | false =>
    obtain ⟨x1, x2⟩ := HN.out (.inl (by first | rfl | trivial))
    have X1 : Hid _ := x1
    have X2 : Hid _ := x2
    clear x1 x2 HN HY
    have HHk : HoldsL W1 (w.heap.size) [.int .i64 left, .int .i64 most, .int .i64 each, .int .i64 since] := HS1.out.k _ (.head _)
    have k0 : W1.cell? ⟨w.heap.size, 0, none⟩ = some (.int .i64 left) := HHk.cell rfl
    have k1 : W1.cell? ⟨w.heap.size, 1, none⟩ = some (.int .i64 most) := HHk.cell rfl
    have k2 : W1.cell? ⟨w.heap.size, 2, none⟩ = some (.int .i64 each) := HHk.cell rfl
    have k3 : W1.cell? ⟨w.heap.size, 3, none⟩ = some (.int .i64 since) := HHk.cell rfl
    clear HHk
    have HHz : HoldsL W1 (w.heap.size + 1) [.int .i64 0, .int .i64 0, .int .i64 0, .int .i64 0, .bool false] := HS1.out.k _ (.tail _ (.head _))
    have z0 : W1.cell? ⟨w.heap.size + 1, 0, none⟩ = some (.int .i64 0) := HHz.cell rfl
    have z1 : W1.cell? ⟨w.heap.size + 1, 1, none⟩ = some (.int .i64 0) := HHz.cell rfl
    have z2 : W1.cell? ⟨w.heap.size + 1, 2, none⟩ = some (.int .i64 0) := HHz.cell rfl
    have z3 : W1.cell? ⟨w.heap.size + 1, 3, none⟩ = some (.int .i64 0) := HHz.cell rfl
    have z4 : W1.cell? ⟨w.heap.size + 1, 4, none⟩ = some (.bool false) := HHz.cell rfl
    have zf0 : W1.frozen? ⟨w.heap.size + 1, 0, none⟩ = false := HHz.free (j := 0) (by simp)
    have zf1 : W1.frozen? ⟨w.heap.size + 1, 1, none⟩ = false := HHz.free (j := 1) (by simp)
    have zf2 : W1.frozen? ⟨w.heap.size + 1, 2, none⟩ = false := HHz.free (j := 2) (by simp)
    have zf3 : W1.frozen? ⟨w.heap.size + 1, 3, none⟩ = false := HHz.free (j := 3) (by simp)
    have zf4 : W1.frozen? ⟨w.heap.size + 1, 4, none⟩ = false := HHz.free (j := 4) (by simp)
    have HRR : Hid (HoldsL (((((W1.setCell ⟨w.heap.size + 1, 0, none⟩ (.int .i64 left)).setCell ⟨w.heap.size + 1, 1, none⟩ (.int .i64 most)).setCell ⟨w.heap.size + 1, 2, none⟩ (.int .i64 each)).setCell ⟨w.heap.size + 1, 3, none⟩ (.int .i64 since)).setCell ⟨w.heap.size + 1, 4, none⟩ (.bool false)) (w.heap.size + 1) [.int .i64 left, .int .i64 most, .int .i64 each, .int .i64 since, .bool false]) := (((((HHz.set 0 (.int .i64 left)).set 1 (.int .i64 most)).set 2 (.int .i64 each)).set 3 (.int .i64 since)).set 4 (.bool false))
    have RB : Hid (Below w.heap.size w (((((W1.setCell ⟨w.heap.size + 1, 0, none⟩ (.int .i64 left)).setCell ⟨w.heap.size + 1, 1, none⟩ (.int .i64 most)).setCell ⟨w.heap.size + 1, 2, none⟩ (.int .i64 each)).setCell ⟨w.heap.size + 1, 3, none⟩ (.int .i64 since)).setCell ⟨w.heap.size + 1, 4, none⟩ (.bool false))) := (((((HS1.out.b.setCell (p := ⟨w.heap.size + 1, 0, none⟩) hlr (.int .i64 left)).setCell (p := ⟨w.heap.size + 1, 1, none⟩) hlr (.int .i64 most)).setCell (p := ⟨w.heap.size + 1, 2, none⟩) hlr (.int .i64 each)).setCell (p := ⟨w.heap.size + 1, 3, none⟩) hlr (.int .i64 since)).setCell (p := ⟨w.heap.size + 1, 4, none⟩) hlr (.bool false))
    clear HHz
    go_wp2_with fail
    exact bodyPost_ret (results_mid Try.results7 _ _ (w.heap.size + 1) [.int .i64 left, .int .i64 most, .int .i64 each, .int .i64 since, .bool false] _ rfl HRR.out Try.underlying28 rfl (show (Try.prog.info? 28).map (·.size) = some 5 by kernel_rfl)) rfl (And.intro (by rw [X1.out, X2.out]; rfl) RB.out)
  | true =>
  go_wp2_with fail
  refine (HC.out _).mono ?_
  rintro e W1 ⟨rfl, rfl⟩
  cases tn with
  | false =>
    obtain ⟨x1, x2⟩ := HN.out (.inr (.inl (by first | rfl | trivial)))
    have X1 : Hid _ := x1
    have X2 : Hid _ := x2
    clear x1 x2 HN HY
    have HHk : HoldsL W1 (w.heap.size) [.int .i64 left, .int .i64 most, .int .i64 each, .int .i64 since] := HS1.out.k _ (.head _)
    have k0 : W1.cell? ⟨w.heap.size, 0, none⟩ = some (.int .i64 left) := HHk.cell rfl
    have k1 : W1.cell? ⟨w.heap.size, 1, none⟩ = some (.int .i64 most) := HHk.cell rfl
    have k2 : W1.cell? ⟨w.heap.size, 2, none⟩ = some (.int .i64 each) := HHk.cell rfl
    have k3 : W1.cell? ⟨w.heap.size, 3, none⟩ = some (.int .i64 since) := HHk.cell rfl
    clear HHk
    have HHz : HoldsL W1 (w.heap.size + 1) [.int .i64 0, .int .i64 0, .int .i64 0, .int .i64 0, .bool false] := HS1.out.k _ (.tail _ (.head _))
    have z0 : W1.cell? ⟨w.heap.size + 1, 0, none⟩ = some (.int .i64 0) := HHz.cell rfl
    have z1 : W1.cell? ⟨w.heap.size + 1, 1, none⟩ = some (.int .i64 0) := HHz.cell rfl
    have z2 : W1.cell? ⟨w.heap.size + 1, 2, none⟩ = some (.int .i64 0) := HHz.cell rfl
    have z3 : W1.cell? ⟨w.heap.size + 1, 3, none⟩ = some (.int .i64 0) := HHz.cell rfl
    have z4 : W1.cell? ⟨w.heap.size + 1, 4, none⟩ = some (.bool false) := HHz.cell rfl
    have zf0 : W1.frozen? ⟨w.heap.size + 1, 0, none⟩ = false := HHz.free (j := 0) (by simp)
    have zf1 : W1.frozen? ⟨w.heap.size + 1, 1, none⟩ = false := HHz.free (j := 1) (by simp)
    have zf2 : W1.frozen? ⟨w.heap.size + 1, 2, none⟩ = false := HHz.free (j := 2) (by simp)
    have zf3 : W1.frozen? ⟨w.heap.size + 1, 3, none⟩ = false := HHz.free (j := 3) (by simp)
    have zf4 : W1.frozen? ⟨w.heap.size + 1, 4, none⟩ = false := HHz.free (j := 4) (by simp)
    have HRR : Hid (HoldsL (((((W1.setCell ⟨w.heap.size + 1, 0, none⟩ (.int .i64 left)).setCell ⟨w.heap.size + 1, 1, none⟩ (.int .i64 most)).setCell ⟨w.heap.size + 1, 2, none⟩ (.int .i64 each)).setCell ⟨w.heap.size + 1, 3, none⟩ (.int .i64 since)).setCell ⟨w.heap.size + 1, 4, none⟩ (.bool false)) (w.heap.size + 1) [.int .i64 left, .int .i64 most, .int .i64 each, .int .i64 since, .bool false]) := (((((HHz.set 0 (.int .i64 left)).set 1 (.int .i64 most)).set 2 (.int .i64 each)).set 3 (.int .i64 since)).set 4 (.bool false))
    have RB : Hid (Below w.heap.size w (((((W1.setCell ⟨w.heap.size + 1, 0, none⟩ (.int .i64 left)).setCell ⟨w.heap.size + 1, 1, none⟩ (.int .i64 most)).setCell ⟨w.heap.size + 1, 2, none⟩ (.int .i64 each)).setCell ⟨w.heap.size + 1, 3, none⟩ (.int .i64 since)).setCell ⟨w.heap.size + 1, 4, none⟩ (.bool false))) := (((((HS1.out.b.setCell (p := ⟨w.heap.size + 1, 0, none⟩) hlr (.int .i64 left)).setCell (p := ⟨w.heap.size + 1, 1, none⟩) hlr (.int .i64 most)).setCell (p := ⟨w.heap.size + 1, 2, none⟩) hlr (.int .i64 each)).setCell (p := ⟨w.heap.size + 1, 3, none⟩) hlr (.int .i64 since)).setCell (p := ⟨w.heap.size + 1, 4, none⟩) hlr (.bool false))
    clear HHz
    go_wp2_with fail
    exact bodyPost_ret (results_mid Try.results7 _ _ (w.heap.size + 1) [.int .i64 left, .int .i64 most, .int .i64 each, .int .i64 since, .bool false] _ rfl HRR.out Try.underlying28 rfl (show (Try.prog.info? 28).map (·.size) = some 5 by kernel_rfl)) rfl (And.intro (by rw [X1.out, X2.out]; rfl) RB.out)
  | true =>
  have HHk : HoldsL W1 (w.heap.size) [.int .i64 left, .int .i64 most, .int .i64 each, .int .i64 since] := HS1.out.k _ (.head _)
  have k0 : W1.cell? ⟨w.heap.size, 0, none⟩ = some (.int .i64 left) := HHk.cell rfl
  have k1 : W1.cell? ⟨w.heap.size, 1, none⟩ = some (.int .i64 most) := HHk.cell rfl
  have k2 : W1.cell? ⟨w.heap.size, 2, none⟩ = some (.int .i64 each) := HHk.cell rfl
  have k3 : W1.cell? ⟨w.heap.size, 3, none⟩ = some (.int .i64 since) := HHk.cell rfl
  clear HHk
  by_cases c1 : now < since
  case pos =>
    clear k0 k1 k2 k3
    obtain ⟨x1, x2⟩ := HN.out (.inr (.inr c1))
    have X1 : Hid _ := x1
    have X2 : Hid _ := x2
    clear x1 x2 HN HY
    have HHk : HoldsL W1 (w.heap.size) [.int .i64 left, .int .i64 most, .int .i64 each, .int .i64 since] := HS1.out.k _ (.head _)
    have k0 : W1.cell? ⟨w.heap.size, 0, none⟩ = some (.int .i64 left) := HHk.cell rfl
    have k1 : W1.cell? ⟨w.heap.size, 1, none⟩ = some (.int .i64 most) := HHk.cell rfl
    have k2 : W1.cell? ⟨w.heap.size, 2, none⟩ = some (.int .i64 each) := HHk.cell rfl
    have k3 : W1.cell? ⟨w.heap.size, 3, none⟩ = some (.int .i64 since) := HHk.cell rfl
    clear HHk
    have HHz : HoldsL W1 (w.heap.size + 1) [.int .i64 0, .int .i64 0, .int .i64 0, .int .i64 0, .bool false] := HS1.out.k _ (.tail _ (.head _))
    have z0 : W1.cell? ⟨w.heap.size + 1, 0, none⟩ = some (.int .i64 0) := HHz.cell rfl
    have z1 : W1.cell? ⟨w.heap.size + 1, 1, none⟩ = some (.int .i64 0) := HHz.cell rfl
    have z2 : W1.cell? ⟨w.heap.size + 1, 2, none⟩ = some (.int .i64 0) := HHz.cell rfl
    have z3 : W1.cell? ⟨w.heap.size + 1, 3, none⟩ = some (.int .i64 0) := HHz.cell rfl
    have z4 : W1.cell? ⟨w.heap.size + 1, 4, none⟩ = some (.bool false) := HHz.cell rfl
    have zf0 : W1.frozen? ⟨w.heap.size + 1, 0, none⟩ = false := HHz.free (j := 0) (by simp)
    have zf1 : W1.frozen? ⟨w.heap.size + 1, 1, none⟩ = false := HHz.free (j := 1) (by simp)
    have zf2 : W1.frozen? ⟨w.heap.size + 1, 2, none⟩ = false := HHz.free (j := 2) (by simp)
    have zf3 : W1.frozen? ⟨w.heap.size + 1, 3, none⟩ = false := HHz.free (j := 3) (by simp)
    have zf4 : W1.frozen? ⟨w.heap.size + 1, 4, none⟩ = false := HHz.free (j := 4) (by simp)
    have HRR : Hid (HoldsL (((((W1.setCell ⟨w.heap.size + 1, 0, none⟩ (.int .i64 left)).setCell ⟨w.heap.size + 1, 1, none⟩ (.int .i64 most)).setCell ⟨w.heap.size + 1, 2, none⟩ (.int .i64 each)).setCell ⟨w.heap.size + 1, 3, none⟩ (.int .i64 since)).setCell ⟨w.heap.size + 1, 4, none⟩ (.bool false)) (w.heap.size + 1) [.int .i64 left, .int .i64 most, .int .i64 each, .int .i64 since, .bool false]) := (((((HHz.set 0 (.int .i64 left)).set 1 (.int .i64 most)).set 2 (.int .i64 each)).set 3 (.int .i64 since)).set 4 (.bool false))
    have RB : Hid (Below w.heap.size w (((((W1.setCell ⟨w.heap.size + 1, 0, none⟩ (.int .i64 left)).setCell ⟨w.heap.size + 1, 1, none⟩ (.int .i64 most)).setCell ⟨w.heap.size + 1, 2, none⟩ (.int .i64 each)).setCell ⟨w.heap.size + 1, 3, none⟩ (.int .i64 since)).setCell ⟨w.heap.size + 1, 4, none⟩ (.bool false))) := (((((HS1.out.b.setCell (p := ⟨w.heap.size + 1, 0, none⟩) hlr (.int .i64 left)).setCell (p := ⟨w.heap.size + 1, 1, none⟩) hlr (.int .i64 most)).setCell (p := ⟨w.heap.size + 1, 2, none⟩) hlr (.int .i64 each)).setCell (p := ⟨w.heap.size + 1, 3, none⟩) hlr (.int .i64 since)).setCell (p := ⟨w.heap.size + 1, 4, none⟩) hlr (.bool false))
    clear HHz
    go_wp2_with fail
    exact bodyPost_ret (results_mid Try.results7 _ _ (w.heap.size + 1) [.int .i64 left, .int .i64 most, .int .i64 each, .int .i64 since, .bool false] _ rfl HRR.out Try.underlying28 rfl (show (Try.prog.info? 28).map (·.size) = some 5 by kernel_rfl)) rfl (And.intro (by rw [X1.out, X2.out]; rfl) RB.out)
  clear k0 k1 k2 k3
  obtain ⟨cm, pr, hq, hp, b0, b1, b2, b3, hres⟩ := HY.out (by first | rfl | trivial) (by first | rfl | trivial) (by omega)
  dsimp only at *
  have HRS : Hid _ := hres
  clear hres HY HN HC
  have w1 : IntKind.i64.wrap (now - since) = now - since := by rw [IntKind.wrap_i64]; omega
  have w2 : IntKind.i64.wrap (since + pr) = since + pr := by rw [IntKind.wrap_i64]; omega
  have w3 : IntKind.i64.wrap (left + cm) = left + cm := by rw [IntKind.wrap_i64]; omega
  have w4 : IntKind.i64.wrap pr = pr := by rw [IntKind.wrap_i64]; omega
  have w5 : ¬ each = 0 := by omega
  have w6 : IntKind.i64.wrap cm = cm := by rw [IntKind.wrap_i64]; omega
  by_cases c2 : most < left + cm
  case pos =>
    have d2 : decide (most < left + cm) = true := by simp; omega
    have HHk : HoldsL W1 (w.heap.size) [.int .i64 left, .int .i64 most, .int .i64 each, .int .i64 since] := HS1.out.k _ (.head _)
    have k0 : W1.cell? ⟨w.heap.size, 0, none⟩ = some (.int .i64 left) := HHk.cell rfl
    have k1 : W1.cell? ⟨w.heap.size, 1, none⟩ = some (.int .i64 most) := HHk.cell rfl
    have k2 : W1.cell? ⟨w.heap.size, 2, none⟩ = some (.int .i64 each) := HHk.cell rfl
    have k3 : W1.cell? ⟨w.heap.size, 3, none⟩ = some (.int .i64 since) := HHk.cell rfl
    have kf0 : W1.frozen? ⟨w.heap.size, 0, none⟩ = false := HHk.free (j := 0) (by simp)
    have kf1 : W1.frozen? ⟨w.heap.size, 1, none⟩ = false := HHk.free (j := 1) (by simp)
    have kf2 : W1.frozen? ⟨w.heap.size, 2, none⟩ = false := HHk.free (j := 2) (by simp)
    have kf3 : W1.frozen? ⟨w.heap.size, 3, none⟩ = false := HHk.free (j := 3) (by simp)
    have HHz : HoldsL W1 (w.heap.size + 1) [.int .i64 0, .int .i64 0, .int .i64 0, .int .i64 0, .bool false] := HS1.out.k _ (.tail _ (.head _))
    have z0 : W1.cell? ⟨w.heap.size + 1, 0, none⟩ = some (.int .i64 0) := HHz.cell rfl
    have z1 : W1.cell? ⟨w.heap.size + 1, 1, none⟩ = some (.int .i64 0) := HHz.cell rfl
    have z2 : W1.cell? ⟨w.heap.size + 1, 2, none⟩ = some (.int .i64 0) := HHz.cell rfl
    have z3 : W1.cell? ⟨w.heap.size + 1, 3, none⟩ = some (.int .i64 0) := HHz.cell rfl
    have z4 : W1.cell? ⟨w.heap.size + 1, 4, none⟩ = some (.bool false) := HHz.cell rfl
    have zf0 : W1.frozen? ⟨w.heap.size + 1, 0, none⟩ = false := HHz.free (j := 0) (by simp)
    have zf1 : W1.frozen? ⟨w.heap.size + 1, 1, none⟩ = false := HHz.free (j := 1) (by simp)
    have zf2 : W1.frozen? ⟨w.heap.size + 1, 2, none⟩ = false := HHz.free (j := 2) (by simp)
    have zf3 : W1.frozen? ⟨w.heap.size + 1, 3, none⟩ = false := HHz.free (j := 3) (by simp)
    have zf4 : W1.frozen? ⟨w.heap.size + 1, 4, none⟩ = false := HHz.free (j := 4) (by simp)
    have HS2 : Hid (Bxs w [(w.heap.size, [.int .i64 (most), .int .i64 most, .int .i64 each, .int .i64 (since + pr)]), (w.heap.size + 1, [.int .i64 0, .int .i64 0, .int .i64 0, .int .i64 0, .bool false])] ((W1.setCell ⟨w.heap.size, 3, none⟩ (.int .i64 (since + pr))).setCell ⟨w.heap.size, 0, none⟩ (.int .i64 (most)))) := ⟨fun e he => by
      simp only [List.mem_cons, List.not_mem_nil, or_false] at he
      rcases he with rfl | rfl
      · exact ((HHk.set 3 (.int .i64 (since + pr))).set 0 (.int .i64 (most)))
      · exact ((HHz.setOther (by omega) (j := 3) (.int .i64 (since + pr))).setOther (by omega) (j := 0) (.int .i64 (most))), ((HS1.out.b.setCell (p := ⟨w.heap.size, 3, none⟩) (Nat.le_refl _) (.int .i64 (since + pr))).setCell (p := ⟨w.heap.size, 0, none⟩) (Nat.le_refl _) (.int .i64 (most))), fun e he => by
      simp only [List.mem_cons, List.not_mem_nil, or_false] at he
      rcases he with rfl | rfl <;> simp⟩
    clear HHk HHz HS1 z0 zf0 z1 zf1 z2 zf2 z3 zf3 z4 zf4
    have HMN : Hid (∀ W, Calls Try.prog 28 #[.int .i64 most, .int .i64 (left + cm)] W fun e w' => e = .returned (.int .i64 (most)) ∧ w' = W) := fun W => by
      go_enter Try.func28, Try.ntmps28
      go_wp2_with fail
      go_ret
      exact ⟨rfl, rfl⟩
    go_wp2_with fail
    refine (HMN.out _).mono ?_
    rintro e W4 ⟨rfl, rfl⟩
    go_upto_region 6 with fail
    generalize ((W1.setCell ⟨w.heap.size, 3, none⟩ (.int .i64 (since + pr))).setCell ⟨w.heap.size, 0, none⟩ (.int .i64 (most))) = W2 at *
    clear k0 kf0 k1 kf1 k2 kf2 k3 kf3
    have w7 : IntKind.i64.wrap (most - 1) = most - 1 := by rw [IntKind.wrap_i64]; omega
    have d7 : ((most) == 0) = false := by simp; omega
    have HX : Hid _ := HRS.out.1 c2
    clear HRS
    have HHk : HoldsL W2 (w.heap.size) [.int .i64 (most), .int .i64 most, .int .i64 each, .int .i64 (since + pr)] := HS2.out.k _ (.head _)
    have k0 : W2.cell? ⟨w.heap.size, 0, none⟩ = some (.int .i64 (most)) := HHk.cell rfl
    have k1 : W2.cell? ⟨w.heap.size, 1, none⟩ = some (.int .i64 most) := HHk.cell rfl
    have k2 : W2.cell? ⟨w.heap.size, 2, none⟩ = some (.int .i64 each) := HHk.cell rfl
    have k3 : W2.cell? ⟨w.heap.size, 3, none⟩ = some (.int .i64 (since + pr)) := HHk.cell rfl
    have kf0 : W2.frozen? ⟨w.heap.size, 0, none⟩ = false := HHk.free (j := 0) (by simp)
    have kf1 : W2.frozen? ⟨w.heap.size, 1, none⟩ = false := HHk.free (j := 1) (by simp)
    have kf2 : W2.frozen? ⟨w.heap.size, 2, none⟩ = false := HHk.free (j := 2) (by simp)
    have kf3 : W2.frozen? ⟨w.heap.size, 3, none⟩ = false := HHk.free (j := 3) (by simp)
    have HHz : HoldsL W2 (w.heap.size + 1) [.int .i64 0, .int .i64 0, .int .i64 0, .int .i64 0, .bool false] := HS2.out.k _ (.tail _ (.head _))
    have z0 : W2.cell? ⟨w.heap.size + 1, 0, none⟩ = some (.int .i64 0) := HHz.cell rfl
    have z1 : W2.cell? ⟨w.heap.size + 1, 1, none⟩ = some (.int .i64 0) := HHz.cell rfl
    have z2 : W2.cell? ⟨w.heap.size + 1, 2, none⟩ = some (.int .i64 0) := HHz.cell rfl
    have z3 : W2.cell? ⟨w.heap.size + 1, 3, none⟩ = some (.int .i64 0) := HHz.cell rfl
    have z4 : W2.cell? ⟨w.heap.size + 1, 4, none⟩ = some (.bool false) := HHz.cell rfl
    have zf0 : W2.frozen? ⟨w.heap.size + 1, 0, none⟩ = false := HHz.free (j := 0) (by simp)
    have zf1 : W2.frozen? ⟨w.heap.size + 1, 1, none⟩ = false := HHz.free (j := 1) (by simp)
    have zf2 : W2.frozen? ⟨w.heap.size + 1, 2, none⟩ = false := HHz.free (j := 2) (by simp)
    have zf3 : W2.frozen? ⟨w.heap.size + 1, 3, none⟩ = false := HHz.free (j := 3) (by simp)
    have zf4 : W2.frozen? ⟨w.heap.size + 1, 4, none⟩ = false := HHz.free (j := 4) (by simp)
    have HRR : Hid (HoldsL ((((((W2.setCell ⟨w.heap.size, 0, none⟩ (.int .i64 (most - 1))).setCell ⟨w.heap.size + 1, 0, none⟩ (.int .i64 (most - 1))).setCell ⟨w.heap.size + 1, 1, none⟩ (.int .i64 most)).setCell ⟨w.heap.size + 1, 2, none⟩ (.int .i64 each)).setCell ⟨w.heap.size + 1, 3, none⟩ (.int .i64 (since + pr))).setCell ⟨w.heap.size + 1, 4, none⟩ (.bool true)) (w.heap.size + 1) [.int .i64 (most - 1), .int .i64 most, .int .i64 each, .int .i64 (since + pr), .bool true]) := ((((((HHz.setOther (by omega) (j := 0) (.int .i64 (most - 1))).set 0 (.int .i64 (most - 1))).set 1 (.int .i64 most)).set 2 (.int .i64 each)).set 3 (.int .i64 (since + pr))).set 4 (.bool true))
    have RB : Hid (Below w.heap.size w ((((((W2.setCell ⟨w.heap.size, 0, none⟩ (.int .i64 (most - 1))).setCell ⟨w.heap.size + 1, 0, none⟩ (.int .i64 (most - 1))).setCell ⟨w.heap.size + 1, 1, none⟩ (.int .i64 most)).setCell ⟨w.heap.size + 1, 2, none⟩ (.int .i64 each)).setCell ⟨w.heap.size + 1, 3, none⟩ (.int .i64 (since + pr))).setCell ⟨w.heap.size + 1, 4, none⟩ (.bool true))) := ((((((HS2.out.b.setCell (p := ⟨w.heap.size, 0, none⟩) (Nat.le_refl _) (.int .i64 (most - 1))).setCell (p := ⟨w.heap.size + 1, 0, none⟩) hlr (.int .i64 (most - 1))).setCell (p := ⟨w.heap.size + 1, 1, none⟩) hlr (.int .i64 most)).setCell (p := ⟨w.heap.size + 1, 2, none⟩) hlr (.int .i64 each)).setCell (p := ⟨w.heap.size + 1, 3, none⟩) hlr (.int .i64 (since + pr))).setCell (p := ⟨w.heap.size + 1, 4, none⟩) hlr (.bool true))
    clear HHk HHz HS2 hq hp w1 w2 w3 w4 w5 w6 b1 b2
    go_wp2_with fail
    exact bodyPost_ret (results_mid Try.results7 _ _ (w.heap.size + 1) [.int .i64 (most - 1), .int .i64 most, .int .i64 each, .int .i64 (since + pr), .bool true] _ rfl HRR.out Try.underlying28 rfl (show (Try.prog.info? 28).map (·.size) = some 5 by kernel_rfl)) rfl (And.intro (by rw [HX.out.1, HX.out.2]; rfl) RB.out)
  have d2 : decide (most < left + cm) = false := by simp; omega
  have HHk : HoldsL W1 (w.heap.size) [.int .i64 left, .int .i64 most, .int .i64 each, .int .i64 since] := HS1.out.k _ (.head _)
  have k0 : W1.cell? ⟨w.heap.size, 0, none⟩ = some (.int .i64 left) := HHk.cell rfl
  have k1 : W1.cell? ⟨w.heap.size, 1, none⟩ = some (.int .i64 most) := HHk.cell rfl
  have k2 : W1.cell? ⟨w.heap.size, 2, none⟩ = some (.int .i64 each) := HHk.cell rfl
  have k3 : W1.cell? ⟨w.heap.size, 3, none⟩ = some (.int .i64 since) := HHk.cell rfl
  have kf0 : W1.frozen? ⟨w.heap.size, 0, none⟩ = false := HHk.free (j := 0) (by simp)
  have kf1 : W1.frozen? ⟨w.heap.size, 1, none⟩ = false := HHk.free (j := 1) (by simp)
  have kf2 : W1.frozen? ⟨w.heap.size, 2, none⟩ = false := HHk.free (j := 2) (by simp)
  have kf3 : W1.frozen? ⟨w.heap.size, 3, none⟩ = false := HHk.free (j := 3) (by simp)
  have HHz : HoldsL W1 (w.heap.size + 1) [.int .i64 0, .int .i64 0, .int .i64 0, .int .i64 0, .bool false] := HS1.out.k _ (.tail _ (.head _))
  have z0 : W1.cell? ⟨w.heap.size + 1, 0, none⟩ = some (.int .i64 0) := HHz.cell rfl
  have z1 : W1.cell? ⟨w.heap.size + 1, 1, none⟩ = some (.int .i64 0) := HHz.cell rfl
  have z2 : W1.cell? ⟨w.heap.size + 1, 2, none⟩ = some (.int .i64 0) := HHz.cell rfl
  have z3 : W1.cell? ⟨w.heap.size + 1, 3, none⟩ = some (.int .i64 0) := HHz.cell rfl
  have z4 : W1.cell? ⟨w.heap.size + 1, 4, none⟩ = some (.bool false) := HHz.cell rfl
  have zf0 : W1.frozen? ⟨w.heap.size + 1, 0, none⟩ = false := HHz.free (j := 0) (by simp)
  have zf1 : W1.frozen? ⟨w.heap.size + 1, 1, none⟩ = false := HHz.free (j := 1) (by simp)
  have zf2 : W1.frozen? ⟨w.heap.size + 1, 2, none⟩ = false := HHz.free (j := 2) (by simp)
  have zf3 : W1.frozen? ⟨w.heap.size + 1, 3, none⟩ = false := HHz.free (j := 3) (by simp)
  have zf4 : W1.frozen? ⟨w.heap.size + 1, 4, none⟩ = false := HHz.free (j := 4) (by simp)
  have HS2 : Hid (Bxs w [(w.heap.size, [.int .i64 (left + cm), .int .i64 most, .int .i64 each, .int .i64 (since + pr)]), (w.heap.size + 1, [.int .i64 0, .int .i64 0, .int .i64 0, .int .i64 0, .bool false])] ((W1.setCell ⟨w.heap.size, 3, none⟩ (.int .i64 (since + pr))).setCell ⟨w.heap.size, 0, none⟩ (.int .i64 (left + cm)))) := ⟨fun e he => by
    simp only [List.mem_cons, List.not_mem_nil, or_false] at he
    rcases he with rfl | rfl
    · exact ((HHk.set 3 (.int .i64 (since + pr))).set 0 (.int .i64 (left + cm)))
    · exact ((HHz.setOther (by omega) (j := 3) (.int .i64 (since + pr))).setOther (by omega) (j := 0) (.int .i64 (left + cm))), ((HS1.out.b.setCell (p := ⟨w.heap.size, 3, none⟩) (Nat.le_refl _) (.int .i64 (since + pr))).setCell (p := ⟨w.heap.size, 0, none⟩) (Nat.le_refl _) (.int .i64 (left + cm))), fun e he => by
    simp only [List.mem_cons, List.not_mem_nil, or_false] at he
    rcases he with rfl | rfl <;> simp⟩
  clear HHk HHz HS1 z0 zf0 z1 zf1 z2 zf2 z3 zf3 z4 zf4
  have HMN : Hid (∀ W, Calls Try.prog 28 #[.int .i64 most, .int .i64 (left + cm)] W fun e w' => e = .returned (.int .i64 (left + cm)) ∧ w' = W) := fun W => by
    go_enter Try.func28, Try.ntmps28
    go_wp2_with fail
    go_ret
    exact ⟨rfl, rfl⟩
  go_wp2_with fail
  refine (HMN.out _).mono ?_
  rintro e W4 ⟨rfl, rfl⟩
  go_upto_region 6 with fail
  generalize ((W1.setCell ⟨w.heap.size, 3, none⟩ (.int .i64 (since + pr))).setCell ⟨w.heap.size, 0, none⟩ (.int .i64 (left + cm))) = W2 at *
  clear k0 kf0 k1 kf1 k2 kf2 k3 kf3
  by_cases c3 : left + cm = 0
  case pos =>
    have d7 : ((left + cm) == 0) = true := by simp; omega
    have HX : Hid _ := HRS.out.2.1 (by omega) c3
    clear HRS
    have C3 : Hid _ := c3
    clear c3
    have HHk : HoldsL W2 (w.heap.size) [.int .i64 (left + cm), .int .i64 most, .int .i64 each, .int .i64 (since + pr)] := HS2.out.k _ (.head _)
    have k0 : W2.cell? ⟨w.heap.size, 0, none⟩ = some (.int .i64 (left + cm)) := HHk.cell rfl
    have k1 : W2.cell? ⟨w.heap.size, 1, none⟩ = some (.int .i64 most) := HHk.cell rfl
    have k2 : W2.cell? ⟨w.heap.size, 2, none⟩ = some (.int .i64 each) := HHk.cell rfl
    have k3 : W2.cell? ⟨w.heap.size, 3, none⟩ = some (.int .i64 (since + pr)) := HHk.cell rfl
    have kf0 : W2.frozen? ⟨w.heap.size, 0, none⟩ = false := HHk.free (j := 0) (by simp)
    have kf1 : W2.frozen? ⟨w.heap.size, 1, none⟩ = false := HHk.free (j := 1) (by simp)
    have kf2 : W2.frozen? ⟨w.heap.size, 2, none⟩ = false := HHk.free (j := 2) (by simp)
    have kf3 : W2.frozen? ⟨w.heap.size, 3, none⟩ = false := HHk.free (j := 3) (by simp)
    have HHz : HoldsL W2 (w.heap.size + 1) [.int .i64 0, .int .i64 0, .int .i64 0, .int .i64 0, .bool false] := HS2.out.k _ (.tail _ (.head _))
    have z0 : W2.cell? ⟨w.heap.size + 1, 0, none⟩ = some (.int .i64 0) := HHz.cell rfl
    have z1 : W2.cell? ⟨w.heap.size + 1, 1, none⟩ = some (.int .i64 0) := HHz.cell rfl
    have z2 : W2.cell? ⟨w.heap.size + 1, 2, none⟩ = some (.int .i64 0) := HHz.cell rfl
    have z3 : W2.cell? ⟨w.heap.size + 1, 3, none⟩ = some (.int .i64 0) := HHz.cell rfl
    have z4 : W2.cell? ⟨w.heap.size + 1, 4, none⟩ = some (.bool false) := HHz.cell rfl
    have zf0 : W2.frozen? ⟨w.heap.size + 1, 0, none⟩ = false := HHz.free (j := 0) (by simp)
    have zf1 : W2.frozen? ⟨w.heap.size + 1, 1, none⟩ = false := HHz.free (j := 1) (by simp)
    have zf2 : W2.frozen? ⟨w.heap.size + 1, 2, none⟩ = false := HHz.free (j := 2) (by simp)
    have zf3 : W2.frozen? ⟨w.heap.size + 1, 3, none⟩ = false := HHz.free (j := 3) (by simp)
    have zf4 : W2.frozen? ⟨w.heap.size + 1, 4, none⟩ = false := HHz.free (j := 4) (by simp)
    have HRR : Hid (HoldsL (((((W2.setCell ⟨w.heap.size + 1, 0, none⟩ (.int .i64 (left + cm))).setCell ⟨w.heap.size + 1, 1, none⟩ (.int .i64 most)).setCell ⟨w.heap.size + 1, 2, none⟩ (.int .i64 each)).setCell ⟨w.heap.size + 1, 3, none⟩ (.int .i64 (since + pr))).setCell ⟨w.heap.size + 1, 4, none⟩ (.bool false)) (w.heap.size + 1) [.int .i64 (left + cm), .int .i64 most, .int .i64 each, .int .i64 (since + pr), .bool false]) := (((((HHz.set 0 (.int .i64 (left + cm))).set 1 (.int .i64 most)).set 2 (.int .i64 each)).set 3 (.int .i64 (since + pr))).set 4 (.bool false))
    have RB : Hid (Below w.heap.size w (((((W2.setCell ⟨w.heap.size + 1, 0, none⟩ (.int .i64 (left + cm))).setCell ⟨w.heap.size + 1, 1, none⟩ (.int .i64 most)).setCell ⟨w.heap.size + 1, 2, none⟩ (.int .i64 each)).setCell ⟨w.heap.size + 1, 3, none⟩ (.int .i64 (since + pr))).setCell ⟨w.heap.size + 1, 4, none⟩ (.bool false))) := (((((HS2.out.b.setCell (p := ⟨w.heap.size + 1, 0, none⟩) hlr (.int .i64 (left + cm))).setCell (p := ⟨w.heap.size + 1, 1, none⟩) hlr (.int .i64 most)).setCell (p := ⟨w.heap.size + 1, 2, none⟩) hlr (.int .i64 each)).setCell (p := ⟨w.heap.size + 1, 3, none⟩) hlr (.int .i64 (since + pr))).setCell (p := ⟨w.heap.size + 1, 4, none⟩) hlr (.bool false))
    clear HHk HHz HS2 hq hp w1 w2 w3 w4 w5 w6 b1 b2
    go_wp2_with fail
    exact bodyPost_ret (results_mid Try.results7 _ _ (w.heap.size + 1) [.int .i64 (left + cm), .int .i64 most, .int .i64 each, .int .i64 (since + pr), .bool false] _ rfl HRR.out Try.underlying28 rfl (show (Try.prog.info? 28).map (·.size) = some 5 by kernel_rfl)) rfl (And.intro (by rw [HX.out.1, HX.out.2]; rfl) RB.out)
  have w7 : IntKind.i64.wrap (left + cm - 1) = left + cm - 1 := by rw [IntKind.wrap_i64]; omega
  have d7 : ((left + cm) == 0) = false := by simp; omega
  have HX : Hid _ := HRS.out.2.2 (by omega) c3
  clear HRS
  have C3 : Hid _ := c3
  clear c3
  have HHk : HoldsL W2 (w.heap.size) [.int .i64 (left + cm), .int .i64 most, .int .i64 each, .int .i64 (since + pr)] := HS2.out.k _ (.head _)
  have k0 : W2.cell? ⟨w.heap.size, 0, none⟩ = some (.int .i64 (left + cm)) := HHk.cell rfl
  have k1 : W2.cell? ⟨w.heap.size, 1, none⟩ = some (.int .i64 most) := HHk.cell rfl
  have k2 : W2.cell? ⟨w.heap.size, 2, none⟩ = some (.int .i64 each) := HHk.cell rfl
  have k3 : W2.cell? ⟨w.heap.size, 3, none⟩ = some (.int .i64 (since + pr)) := HHk.cell rfl
  have kf0 : W2.frozen? ⟨w.heap.size, 0, none⟩ = false := HHk.free (j := 0) (by simp)
  have kf1 : W2.frozen? ⟨w.heap.size, 1, none⟩ = false := HHk.free (j := 1) (by simp)
  have kf2 : W2.frozen? ⟨w.heap.size, 2, none⟩ = false := HHk.free (j := 2) (by simp)
  have kf3 : W2.frozen? ⟨w.heap.size, 3, none⟩ = false := HHk.free (j := 3) (by simp)
  have HHz : HoldsL W2 (w.heap.size + 1) [.int .i64 0, .int .i64 0, .int .i64 0, .int .i64 0, .bool false] := HS2.out.k _ (.tail _ (.head _))
  have z0 : W2.cell? ⟨w.heap.size + 1, 0, none⟩ = some (.int .i64 0) := HHz.cell rfl
  have z1 : W2.cell? ⟨w.heap.size + 1, 1, none⟩ = some (.int .i64 0) := HHz.cell rfl
  have z2 : W2.cell? ⟨w.heap.size + 1, 2, none⟩ = some (.int .i64 0) := HHz.cell rfl
  have z3 : W2.cell? ⟨w.heap.size + 1, 3, none⟩ = some (.int .i64 0) := HHz.cell rfl
  have z4 : W2.cell? ⟨w.heap.size + 1, 4, none⟩ = some (.bool false) := HHz.cell rfl
  have zf0 : W2.frozen? ⟨w.heap.size + 1, 0, none⟩ = false := HHz.free (j := 0) (by simp)
  have zf1 : W2.frozen? ⟨w.heap.size + 1, 1, none⟩ = false := HHz.free (j := 1) (by simp)
  have zf2 : W2.frozen? ⟨w.heap.size + 1, 2, none⟩ = false := HHz.free (j := 2) (by simp)
  have zf3 : W2.frozen? ⟨w.heap.size + 1, 3, none⟩ = false := HHz.free (j := 3) (by simp)
  have zf4 : W2.frozen? ⟨w.heap.size + 1, 4, none⟩ = false := HHz.free (j := 4) (by simp)
  have HRR : Hid (HoldsL ((((((W2.setCell ⟨w.heap.size, 0, none⟩ (.int .i64 (left + cm - 1))).setCell ⟨w.heap.size + 1, 0, none⟩ (.int .i64 (left + cm - 1))).setCell ⟨w.heap.size + 1, 1, none⟩ (.int .i64 most)).setCell ⟨w.heap.size + 1, 2, none⟩ (.int .i64 each)).setCell ⟨w.heap.size + 1, 3, none⟩ (.int .i64 (since + pr))).setCell ⟨w.heap.size + 1, 4, none⟩ (.bool true)) (w.heap.size + 1) [.int .i64 (left + cm - 1), .int .i64 most, .int .i64 each, .int .i64 (since + pr), .bool true]) := ((((((HHz.setOther (by omega) (j := 0) (.int .i64 (left + cm - 1))).set 0 (.int .i64 (left + cm - 1))).set 1 (.int .i64 most)).set 2 (.int .i64 each)).set 3 (.int .i64 (since + pr))).set 4 (.bool true))
  have RB : Hid (Below w.heap.size w ((((((W2.setCell ⟨w.heap.size, 0, none⟩ (.int .i64 (left + cm - 1))).setCell ⟨w.heap.size + 1, 0, none⟩ (.int .i64 (left + cm - 1))).setCell ⟨w.heap.size + 1, 1, none⟩ (.int .i64 most)).setCell ⟨w.heap.size + 1, 2, none⟩ (.int .i64 each)).setCell ⟨w.heap.size + 1, 3, none⟩ (.int .i64 (since + pr))).setCell ⟨w.heap.size + 1, 4, none⟩ (.bool true))) := ((((((HS2.out.b.setCell (p := ⟨w.heap.size, 0, none⟩) (Nat.le_refl _) (.int .i64 (left + cm - 1))).setCell (p := ⟨w.heap.size + 1, 0, none⟩) hlr (.int .i64 (left + cm - 1))).setCell (p := ⟨w.heap.size + 1, 1, none⟩) hlr (.int .i64 most)).setCell (p := ⟨w.heap.size + 1, 2, none⟩) hlr (.int .i64 each)).setCell (p := ⟨w.heap.size + 1, 3, none⟩) hlr (.int .i64 (since + pr))).setCell (p := ⟨w.heap.size + 1, 4, none⟩) hlr (.bool true))
  clear HHk HHz HS2 hq hp w1 w2 w3 w4 w5 w6 b1 b2
  go_wp2_with fail
  exact bodyPost_ret (results_mid Try.results7 _ _ (w.heap.size + 1) [.int .i64 (left + cm - 1), .int .i64 most, .int .i64 each, .int .i64 (since + pr), .bool true] _ rfl HRR.out Try.underlying28 rfl (show (Try.prog.info? 28).map (·.size) = some 5 by kernel_rfl)) rfl (And.intro (by rw [HX.out.1, HX.out.2]; rfl) RB.out)

end Go.Proofs.Ytagbhaalmjpkjaa
