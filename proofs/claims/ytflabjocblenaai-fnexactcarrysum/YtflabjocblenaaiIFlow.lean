/- IFlow: what the program's TcpFlags, addrsPair, isCarried, isEcho and FlowRight answer. -/
import Derived.Test.YtflabjocblenaaiCarry
import Derived.Test.YtflabjocblenaaiBase
import Derived.Test.YtflabjocblenaaiABit
import Derived.Test.YtflabjocblenaaiTwo
import Derived.Test.YtflabjocblenaaiLawFlow
import Derived.BigQuiet
import Derived.Deep.DeepCutAuto
namespace Go.Proofs.Ytflabjocblenaai
open Go.RowKit Go.PlainAid
set_option linter.unusedVariables false
set_option linter.unusedSimpArgs false

theorem implLong_any (t : ByteArray) (w : World) :
    Calls Try.prog 35 #[.string t] w fun e w' => e = .returned (.bool (decide (20000 < t.size))) ∧ w' = w := by
  by_cases h : 20000 < t.size
  · have d : decide ((20000 : Int) < (t.size : Int)) = true := by simp; omega
    rw [decide_eq_true h]
    go_enter Try.func35, Try.ntmps35
    go_wp2_with fail
    go_ret
    exact ⟨rfl, rfl⟩
  · have d : decide ((20000 : Int) < (t.size : Int)) = false := by simp; omega
    rw [decide_eq_false h]
    go_enter Try.func35, Try.ntmps35
    go_wp2_with fail
    go_ret
    exact ⟨rfl, rfl⟩


theorem implPair_any (s d : ByteArray) (w : World) (hs : s.size ≤ maxLen) (hd : d.size ≤ maxLen) :
    Calls Try.prog 43 #[.string s, .string d] w fun e w' => e = .returned (.bool (pairOk s d)) ∧ w' = w := by
  have HA : Hid (∀ W, Calls Try.prog 61 #[.string s] W fun e w' => e = .returned (.bool (addrOk s)) ∧ w' = W) := fun W => implAddrRight_any s W
  unfold maxLen at hs hd
  unfold pairOk
  generalize addrOk s = b at *
  by_cases h : s.size = d.size
  · have dh : ((s.size : Int) == (d.size : Int)) = true := by simp; omega
    rw [decide_eq_true h]
    clear h
    cases b
    all_goals go_enter Try.func43, Try.ntmps43
    all_goals go_wp2_with fail
    all_goals refine (HA.out _).mono ?_
    all_goals rintro e w2 ⟨rfl, rfl⟩
    all_goals go_wp2_with fail
    all_goals go_ret
    all_goals exact ⟨rfl, rfl⟩
  · have dh : ((s.size : Int) == (d.size : Int)) = false := by simp; omega
    rw [decide_eq_false h]
    cases b
    all_goals go_enter Try.func43, Try.ntmps43
    all_goals go_wp2_with fail
    all_goals refine (HA.out _).mono ?_
    all_goals rintro e w2 ⟨rfl, rfl⟩
    all_goals go_wp2_with fail
    all_goals go_ret
    all_goals exact ⟨rfl, rfl⟩

theorem implEcho_any (p : Int) (w : World) :
    Calls Try.prog 46 #[.int .i64 p] w fun e w' => e = .returned (.bool (echoP p)) ∧ w' = w := by
  by_cases h1 : p = 1
  · have d1 : (p == 1) = true := by simp [h1]
    have HV : Hid (echoP p = true) := by unfold Hid echoP; simp [h1]
    clear h1
    go_enter Try.func46, Try.ntmps46
    go_wp2_with fail
    go_ret
    exact ⟨ret_bool HV.out.symm, rfl⟩
  · have d1 : (p == 1) = false := by simp [h1]
    have HV : Hid (echoP p = (p == 58)) := by
      unfold Hid echoP
      rw [decide_eq_false h1, Bool.false_or]
      rfl
    go_enter Try.func46, Try.ntmps46
    go_wp2_with fail
    go_ret
    exact ⟨ret_bool HV.out.symm, rfl⟩

theorem implCarried_any (p : Int) (s : ByteArray) (w : World) (hs : s.size ≤ maxLen) :
    Calls Try.prog 44 #[.int .i64 p, .string s] w fun e w' => e = .returned (.bool (protoOk p s.size)) ∧ w' = w := by
  unfold maxLen at hs
  by_cases h6 : p = 6
  · have HV : Hid (protoOk p s.size = true) := by unfold Hid protoOk; simp [h6]
    have d6 : (p == 6) = true := by simp [h6]
    clear h6
    go_enter Try.func44, Try.ntmps44
    go_wp2_with fail
    go_ret
    exact ⟨ret_bool HV.out.symm, rfl⟩
  have d6 : (p == 6) = false := by simp [h6]
  by_cases h17 : p = 17
  · have HV : Hid (protoOk p s.size = true) := by unfold Hid protoOk; simp [h17]
    have d17 : (p == 17) = true := by simp [h17]
    clear h6 h17
    go_enter Try.func44, Try.ntmps44
    go_wp2_with fail
    go_ret
    exact ⟨ret_bool HV.out.symm, rfl⟩
  have d17 : (p == 17) = false := by simp [h17]
  by_cases h1 : p = 1
  · have HV : Hid (protoOk p s.size = ((s.size : Int) == 4)) := by
      unfold Hid protoOk
      have h4 : ((s.size : Int) == 4) = decide (s.size = 4) := by rw [Bool.eq_iff_iff]; simp; omega
      rw [h4]; simp [h1]
    have d1 : (p == 1) = true := by simp [h1]
    clear h6 h17 h1
    go_enter Try.func44, Try.ntmps44
    go_wp2_with fail
    go_ret
    exact ⟨ret_bool HV.out.symm, rfl⟩
  have d1 : (p == 1) = false := by simp [h1]
  by_cases h58 : p = 58
  · have HV : Hid (protoOk p s.size = ((s.size : Int) == 16)) := by
      unfold Hid protoOk
      have h4 : ((s.size : Int) == 16) = decide (s.size = 16) := by rw [Bool.eq_iff_iff]; simp; omega
      rw [h4]; simp [h58]
    have d58 : (p == 58) = true := by simp [h58]
    clear h6 h17 h1 h58
    go_enter Try.func44, Try.ntmps44
    go_wp2_with fail
    go_ret
    exact ⟨ret_bool HV.out.symm, rfl⟩
  have d58 : (p == 58) = false := by simp [h58]
  have HV : Hid (protoOk p s.size = false) := by unfold Hid protoOk; simp [h6, h17, h1, h58]
  clear h6 h17 h1 h58
  go_enter Try.func44, Try.ntmps44
  go_wp2_with fail
  go_ret
  exact ⟨ret_bool HV.out.symm, rfl⟩

set_option maxRecDepth 100000 in
set_option maxHeartbeats 2000000 in
theorem implFlowRight_any (f : Fl) (w : World) (h1 : f.src.size ≤ 1048576) (h2 : f.dst.size ≤ 1048576) :
    Calls Try.prog 21 #[fwC f] w fun e w' => e = .returned (.bool (flowOk f)) ∧ Below w.heap.size w w' := by
  have HB1 : Hid (∀ W, Calls Try.prog 43 #[.string f.src, .string f.dst] W fun e w' => e = .returned (.bool (pairOk f.src f.dst)) ∧ w' = W) := fun W => implPair_any _ _ W (by unfold maxLen; omega) (by unfold maxLen; omega)
  have HB2 : Hid (∀ W, Calls Try.prog 44 #[.int .i64 f.proto, .string f.src] W fun e w' => e = .returned (.bool (protoOk f.proto f.src.size)) ∧ w' = W) := fun W => implCarried_any _ _ W (by unfold maxLen; omega)
  have HB3 : Hid (∀ W, Calls Try.prog 45 #[.int .i64 f.sp] W fun e w' => e = .returned (.bool (isW f.sp)) ∧ w' = W) := fun W => implWordIs_any _ W
  have HB4 : Hid (∀ W, Calls Try.prog 45 #[.int .i64 f.dp] W fun e w' => e = .returned (.bool (isW f.dp)) ∧ w' = W) := fun W => implWordIs_any _ W
  have HB5 : Hid (∀ W, Calls Try.prog 46 #[.int .i64 f.proto] W fun e w' => e = .returned (.bool (echoP f.proto)) ∧ w' = W) := fun W => implEcho_any _ W
  have HV : Hid (flowOk f = (pairOk f.src f.dst && protoOk f.proto f.src.size && isW f.sp && isW f.dp && (!echoP f.proto || decide (f.sp = f.dp)))) := rfl
  have dq : (f.sp == f.dp) = decide (f.sp = f.dp) := rfl
  generalize decide (f.sp = f.dp) = q at *
  generalize flowOk f = ok at *
  generalize pairOk f.src f.dst = a1 at *
  generalize protoOk f.proto f.src.size = a2 at *
  generalize isW f.sp = a3 at *
  generalize isW f.dp = a4 at *
  generalize echoP f.proto = a5 at *
  obtain ⟨proto, src, dst, sp, dp⟩ := f
  unfold fwC
  dsimp only at *
  have HZ : Hid (Below w.heap.size w (w.alloc (.cells #[.int .i64 proto, .string src, .string dst, .int .i64 sp, .int .i64 dp] 39))) := (Below.refl _ _).alloc (Nat.le_refl _) _
  go_enter Try.func21, Try.ntmps21
  go_wp2_with fail
  refine (HB1.out _).mono ?_
  rintro e w2 ⟨rfl, rfl⟩
  cases a1 with
  | false =>
    have hun : undef = Value.tuple #[] := rfl
    go_wp2_with fail
    go_ret
    exact ⟨ret_bool (by rw [HV.out]; simp), HZ.out⟩
  | true =>
  go_wp2_with fail
  refine (HB2.out _).mono ?_
  rintro e w2 ⟨rfl, rfl⟩
  cases a2 with
  | false =>
    have hun : undef = Value.tuple #[] := rfl
    go_wp2_with fail
    go_ret
    exact ⟨ret_bool (by rw [HV.out]; simp), HZ.out⟩
  | true =>
  go_wp2_with fail
  refine (HB3.out _).mono ?_
  rintro e w2 ⟨rfl, rfl⟩
  cases a3 with
  | false =>
    have hun : undef = Value.tuple #[] := rfl
    go_wp2_with fail
    go_ret
    exact ⟨ret_bool (by rw [HV.out]; simp), HZ.out⟩
  | true =>
  go_wp2_with fail
  refine (HB4.out _).mono ?_
  rintro e w2 ⟨rfl, rfl⟩
  cases a4 with
  | false =>
    have hun : undef = Value.tuple #[] := rfl
    go_wp2_with fail
    go_ret
    exact ⟨ret_bool (by rw [HV.out]; simp), HZ.out⟩
  | true =>
  go_wp2_with fail
  refine (HB5.out _).mono ?_
  rintro e w2 ⟨rfl, rfl⟩
  cases a5 with
  | false =>
    have hun : undef = Value.tuple #[] := rfl
    go_wp2_with fail
    go_ret
    exact ⟨ret_bool (by rw [HV.out]; simp), HZ.out⟩
  | true =>
    have hun : undef = Value.tuple #[] := rfl
    go_wp2_with fail
    go_ret
    exact ⟨ret_bool (by rw [HV.out]; simp), HZ.out⟩

theorem implFlowRight_sm (p : Fl) (w : World) (hs : FlSm p) (hw : FlWf p) :
    Calls Try.prog 21 #[fwC p] w fun e w' => e = .returned (.bool (flowOk p)) ∧ Below w.heap.size w w' := by
  obtain ⟨g0, g1⟩ := hs
  exact implFlowRight_any p w g0 g1
end Go.Proofs.Ytflabjocblenaai
