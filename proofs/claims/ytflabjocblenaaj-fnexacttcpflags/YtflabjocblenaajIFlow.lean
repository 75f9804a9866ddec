/- IFlow: what the program's TcpFlags, addrsPair, isCarried, isEcho and FlowRight answer. -/
import Derived.Test.YtflabjocblenaajCarry
import Derived.Test.YtflabjocblenaajBase
import Derived.Test.YtflabjocblenaajABit
import Derived.Test.YtflabjocblenaajTwo
import Derived.Test.YtflabjocblenaajLawFlow
import Derived.BigQuiet
import Derived.Deep.DeepCutAuto
namespace Go.Proofs.Ytflabjocblenaaj
open Go.RowKit Go.PlainAid
set_option linter.unusedVariables false
set_option linter.unusedSimpArgs false

theorem implLong_any (t : ByteArray) (w : World) :
    Calls Try.prog 25 #[.string t] w fun e w' => e = .returned (.bool (decide (20000 < t.size))) ∧ w' = w := by
  by_cases h : 20000 < t.size
  · have d : decide ((20000 : Int) < (t.size : Int)) = true := by simp; omega
    rw [decide_eq_true h]
    go_enter Try.func25, Try.ntmps25
    go_wp2_with fail
    go_ret
    exact ⟨rfl, rfl⟩
  · have d : decide ((20000 : Int) < (t.size : Int)) = false := by simp; omega
    rw [decide_eq_false h]
    go_enter Try.func25, Try.ntmps25
    go_wp2_with fail
    go_ret
    exact ⟨rfl, rfl⟩

theorem implTcpFlags_any (t : ByteArray) (w : World) (ht : t.size ≤ 1048576) :
    Calls Try.prog 15 #[.string t] w fun e w' => e = .returned (.int .i64 (tcpFlagsV t)) ∧ Below w.heap.size w w' := by
  have HL : Hid (∀ W, Calls Try.prog 25 #[.string t] W fun e w' => e = .returned (.bool (decide (20000 < t.size))) ∧ w' = W) := fun W => implLong_any t W
  by_cases h1 : 20000 < t.size
  · have HV : Hid (tcpFlagsV t = 0) := by unfold Hid tcpFlagsV; rw [if_pos (.inl h1)]
    rw [decide_eq_true h1] at HL
    go_enter Try.func15, Try.ntmps15
    go_wp2_with fail
    refine (HL.out _).mono ?_
    rintro e w2 ⟨rfl, rfl⟩
    go_wp2_with fail
    go_ret
    exact ⟨ret_int HV.out.symm, Below.refl _ _⟩
  rw [decide_eq_false h1] at HL
  by_cases h2 : t.size < 20
  · have HV : Hid (tcpFlagsV t = 0) := by unfold Hid tcpFlagsV; rw [if_pos (.inr h2)]
    go_enter Try.func15, Try.ntmps15
    go_wp2_with fail
    refine (HL.out _).mono ?_
    rintro e w2 ⟨rfl, rfl⟩
    go_wp2_with fail
    go_ret
    exact ⟨ret_int HV.out.symm, Below.refl _ _⟩
  · have HV : Hid (tcpFlagsV t = bt t 13) := by unfold Hid tcpFlagsV; rw [if_neg (by omega)]
    have hb := get_bt t
    have b1 := bt_isByte t 13
    go_enter Try.func15, Try.ntmps15
    go_wp2_with fail
    refine (HL.out _).mono ?_
    rintro e w2 ⟨rfl, rfl⟩
    go_wp2_with fail
    go_ret
    exact ⟨ret_int HV.out.symm, Below.refl _ _⟩

theorem implPair_any (s d : ByteArray) (w : World) (hs : s.size ≤ maxLen) (hd : d.size ≤ maxLen) :
    Calls Try.prog 43 #[.string s, .string d] w fun e w' => e = .returned (.bool (pairOk s d)) ∧ w' = w := by
  have HA : Hid (∀ W, Calls Try.prog 65 #[.string s] W fun e w' => e = .returned (.bool (addrOk s)) ∧ w' = W) := fun W => implAddrRight_any s W
  unfold maxLen at hs hd
  unfold pairOk
  generalize addrOk s = b at *
  by_cases h : s.size = d.size
  · have dh : ((s.size : Int) == (d.size : Int)) = true := by simp; omega
    rw [decide_eq_true h]
    clear h
    cases b
    all_goals go_enter Try.func43, Try.ntmps43
    all_goals go_wp2_with fail
    all_goals refine (HA.out _).mono ?_
    all_goals rintro e w2 ⟨rfl, rfl⟩
    all_goals go_wp2_with fail
    all_goals go_ret
    all_goals exact ⟨rfl, rfl⟩
  · have dh : ((s.size : Int) == (d.size : Int)) = false := by simp; omega
    rw [decide_eq_false h]
    cases b
    all_goals go_enter Try.func43, Try.ntmps43
    all_goals go_wp2_with fail
    all_goals refine (HA.out _).mono ?_
    all_goals rintro e w2 ⟨rfl, rfl⟩
    all_goals go_wp2_with fail
    all_goals go_ret
    all_goals exact ⟨rfl, rfl⟩

theorem implEcho_any (p : Int) (w : World) :
    Calls Try.prog 57 #[.int .i64 p] w fun e w' => e = .returned (.bool (echoP p)) ∧ w' = w := by
  by_cases h1 : p = 1
  · have d1 : (p == 1) = true := by simp [h1]
    have HV : Hid (echoP p = true) := by unfold Hid echoP; simp [h1]
    clear h1
    go_enter Try.func57, Try.ntmps57
    go_wp2_with fail
    go_ret
    exact ⟨ret_bool HV.out.symm, rfl⟩
  · have d1 : (p == 1) = false := by simp [h1]
    have HV : Hid (echoP p = (p == 58)) := by
      unfold Hid echoP
      rw [decide_eq_false h1, Bool.false_or]
      rfl
    go_enter Try.func57, Try.ntmps57
    go_wp2_with fail
    go_ret
    exact ⟨ret_bool HV.out.symm, rfl⟩

theorem implCarried_any (p : Int) (s : ByteArray) (w : World) (hs : s.size ≤ maxLen) :
    Calls Try.prog 55 #[.int .i64 p, .string s] w fun e w' => e = .returned (.bool (protoOk p s.size)) ∧ w' = w := by
  unfold maxLen at hs
  by_cases h6 : p = 6
  · have HV : Hid (protoOk p s.size = true) := by unfold Hid protoOk; simp [h6]
    have d6 : (p == 6) = true := by simp [h6]
    clear h6
    go_enter Try.func55, Try.ntmps55
    go_wp2_with fail
    go_ret
    exact ⟨ret_bool HV.out.symm, rfl⟩
  have d6 : (p == 6) = false := by simp [h6]
  by_cases h17 : p = 17
  · have HV : Hid (protoOk p s.size = true) := by unfold Hid protoOk; simp [h17]
    have d17 : (p == 17) = true := by simp [h17]
    clear h6 h17
    go_enter Try.func55, Try.ntmps55
    go_wp2_with fail
    go_ret
    exact ⟨ret_bool HV.out.symm, rfl⟩
  have d17 : (p == 17) = false := by simp [h17]
  by_cases h1 : p = 1
  · have HV : Hid (protoOk p s.size = ((s.size : Int) == 4)) := by
      unfold Hid protoOk
      have h4 : ((s.size : Int) == 4) = decide (s.size = 4) := by rw [Bool.eq_iff_iff]; simp; omega
      rw [h4]; simp [h1]
    have d1 : (p == 1) = true := by simp [h1]
    clear h6 h17 h1
    go_enter Try.func55, Try.ntmps55
    go_wp2_with fail
    go_ret
    exact ⟨ret_bool HV.out.symm, rfl⟩
  have d1 : (p == 1) = false := by simp [h1]
  by_cases h58 : p = 58
  · have HV : Hid (protoOk p s.size = ((s.size : Int) == 16)) := by
      unfold Hid protoOk
      have h4 : ((s.size : Int) == 16) = decide (s.size = 16) := by rw [Bool.eq_iff_iff]; simp; omega
      rw [h4]; simp [h58]
    have d58 : (p == 58) = true := by simp [h58]
    clear h6 h17 h1 h58
    go_enter Try.func55, Try.ntmps55
    go_wp2_with fail
    go_ret
    exact ⟨ret_bool HV.out.symm, rfl⟩
  have d58 : (p == 58) = false := by simp [h58]
  have HV : Hid (protoOk p s.size = false) := by unfold Hid protoOk; simp [h6, h17, h1, h58]
  clear h6 h17 h1 h58
  go_enter Try.func55, Try.ntmps55
  go_wp2_with fail
  go_ret
  exact ⟨ret_bool HV.out.symm, rfl⟩

set_option maxRecDepth 100000 in
set_option maxHeartbeats 2000000 in
theorem implFlowRight_any (f : Fl) (w : World) (h1 : f.src.size ≤ 1048576) (h2 : f.dst.size ≤ 1048576) :
    Calls Try.prog 32 #[fwC f] w fun e w' => e = .returned (.bool (flowOk f)) ∧ Below w.heap.size w w' := by
  have HB1 : Hid (∀ W, Calls Try.prog 43 #[.string f.src, .string f.dst] W fun e w' => e = .returned (.bool (pairOk f.src f.dst)) ∧ w' = W) := fun W => implPair_any _ _ W (by unfold maxLen; omega) (by unfold maxLen; omega)
  have HB2 : Hid (∀ W, Calls Try.prog 55 #[.int .i64 f.proto, .string f.src] W fun e w' => e = .returned (.bool (protoOk f.proto f.src.size)) ∧ w' = W) := fun W => implCarried_any _ _ W (by unfold maxLen; omega)
  have HB3 : Hid (∀ W, Calls Try.prog 60 #[.int .i64 f.sp] W fun e w' => e = .returned (.bool (isW f.sp)) ∧ w' = W) := fun W => implWordIs_any _ W
  have HB4 : Hid (∀ W, Calls Try.prog 60 #[.int .i64 f.dp] W fun e w' => e = .returned (.bool (isW f.dp)) ∧ w' = W) := fun W => implWordIs_any _ W
  have HB5 : Hid (∀ W, Calls Try.prog 57 #[.int .i64 f.proto] W fun e w' => e = .returned (.bool (echoP f.proto)) ∧ w' = W) := fun W => implEcho_any _ W
  have HV : Hid (flowOk f = (pairOk f.src f.dst && protoOk f.proto f.src.size && isW f.sp && isW f.dp && (!echoP f.proto || decide (f.sp = f.dp)))) := rfl
  have dq : (f.sp == f.dp) = decide (f.sp = f.dp) := rfl
  generalize decide (f.sp = f.dp) = q at *
  generalize flowOk f = ok at *
  generalize pairOk f.src f.dst = a1 at *
  generalize protoOk f.proto f.src.size = a2 at *
  generalize isW f.sp = a3 at *
  generalize isW f.dp = a4 at *
  generalize echoP f.proto = a5 at *
  obtain ⟨proto, src, dst, sp, dp⟩ := f
  unfold fwC
  dsimp only at *
  have HZ : Hid (Below w.heap.size w (w.alloc (.cells #[.int .i64 proto, .string src, .string dst, .int .i64 sp, .int .i64 dp] 29))) := (Below.refl _ _).alloc (Nat.le_refl _) _
  go_enter Try.func32, Try.ntmps32
  go_wp2_with fail
  refine (HB1.out _).mono ?_
  rintro e w2 ⟨rfl, rfl⟩
  cases a1 with
  | false =>
    have hun : undef = Value.tuple #[] := rfl
    go_wp2_with fail
    go_ret
    exact ⟨ret_bool (by rw [HV.out]; simp), HZ.out⟩
  | true =>
  go_wp2_with fail
  refine (HB2.out _).mono ?_
  rintro e w2 ⟨rfl, rfl⟩
  cases a2 with
  | false =>
    have hun : undef = Value.tuple #[] := rfl
    go_wp2_with fail
    go_ret
    exact ⟨ret_bool (by rw [HV.out]; simp), HZ.out⟩
  | true =>
  go_wp2_with fail
  refine (HB3.out _).mono ?_
  rintro e w2 ⟨rfl, rfl⟩
  cases a3 with
  | false =>
    have hun : undef = Value.tuple #[] := rfl
    go_wp2_with fail
    go_ret
    exact ⟨ret_bool (by rw [HV.out]; simp), HZ.out⟩
  | true =>
  go_wp2_with fail
  refine (HB4.out _).mono ?_
  rintro e w2 ⟨rfl, rfl⟩
  cases a4 with
  | false =>
    have hun : undef = Value.tuple #[] := rfl
    go_wp2_with fail
    go_ret
    exact ⟨ret_bool (by rw [HV.out]; simp), HZ.out⟩
  | true =>
  go_wp2_with fail
  refine (HB5.out _).mono ?_
  rintro e w2 ⟨rfl, rfl⟩
  cases a5 with
  | false =>
    have hun : undef = Value.tuple #[] := rfl
    go_wp2_with fail
    go_ret
    exact ⟨ret_bool (by rw [HV.out]; simp), HZ.out⟩
  | true =>
    have hun : undef = Value.tuple #[] := rfl
    go_wp2_with fail
    go_ret
    exact ⟨ret_bool (by rw [HV.out]; simp), HZ.out⟩

theorem implFlowRight_sm (p : Fl) (w : World) (hs : FlSm p) (hw : FlWf p) :
    Calls Try.prog 32 #[fwC p] w fun e w' => e = .returned (.bool (flowOk p)) ∧ Below w.heap.size w w' := by
  obtain ⟨g0, g1⟩ := hs
  exact implFlowRight_any p w g0 g1
end Go.Proofs.Ytflabjocblenaaj
