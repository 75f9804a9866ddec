/- SFlow: what the specification's l05Pair, l05Echo, l05Proto, FlowRight and TcpFlags answer. -/
import Derived.Test.YtofhcplnnamcdajCarry
import Derived.Test.YtofhcplnnamcdajBase
import Derived.BigQuiet
import Derived.Deep.DeepCutAuto
namespace Go.Proofs.Ytofhcplnnamcdaj
open Go.RowKit Go.PlainAid
set_option linter.unusedVariables false
set_option linter.unusedSimpArgs false

theorem specTcpFlags_any (t : ByteArray) (w : World) (ht : t.size ≤ 1048576) :
    Calls Try.prog 16 #[.string t] w fun e w' => e = .returned (.int .i64 (tcpFlagsV t)) ∧ Below w.heap.size w w' := by
  by_cases h1 : 20000 < t.size
  · have HV : Hid (tcpFlagsV t = 0) := by unfold Hid tcpFlagsV; rw [if_pos (.inl h1)]
    go_enter Try.func16, Try.ntmps16
    go_wp2_with fail
    go_ret
    exact ⟨ret_int HV.out.symm, Below.refl _ _⟩
  by_cases h2 : t.size < 20
  · have HV : Hid (tcpFlagsV t = 0) := by unfold Hid tcpFlagsV; rw [if_pos (.inr h2)]
    go_enter Try.func16, Try.ntmps16
    go_wp2_with fail
    go_ret
    exact ⟨ret_int HV.out.symm, Below.refl _ _⟩
  · have HV : Hid (tcpFlagsV t = bt t 13) := by unfold Hid tcpFlagsV; rw [if_neg (by omega)]
    have hb := get_bt t
    have b1 := bt_isByte t 13
    go_enter Try.func16, Try.ntmps16
    go_wp2_with fail
    go_ret
    exact ⟨ret_int HV.out.symm, Below.refl _ _⟩

theorem spPair_any (s d : ByteArray) (w : World) (hs : s.size ≤ maxLen) (hd : d.size ≤ maxLen) :
    Calls Try.prog 33 #[.string s, .string d] w fun e w' => e = .returned (.bool (pairOk s d)) ∧ w' = w := by
  have HA : Hid (∀ W, Calls Try.prog 71 #[.string s] W fun e w' => e = .returned (.bool (addrOk s)) ∧ w' = W) := fun W => specAddrRight_any s W
  unfold maxLen at hs hd
  unfold pairOk
  generalize addrOk s = b at *
  by_cases h : s.size = d.size
  · have dh : ((s.size : Int) == (d.size : Int)) = true := by simp; omega
    rw [decide_eq_true h]
    clear h
    cases b
    all_goals go_enter Try.func33, Try.ntmps33
    all_goals go_wp2_with fail
    all_goals refine (HA.out _).mono ?_
    all_goals rintro e w2 ⟨rfl, rfl⟩
    all_goals go_wp2_with fail
    all_goals go_ret
    all_goals exact ⟨rfl, rfl⟩
  · have dh : ((s.size : Int) == (d.size : Int)) = false := by simp; omega
    rw [decide_eq_false h]
    cases b
    all_goals go_enter Try.func33, Try.ntmps33
    all_goals go_wp2_with fail
    all_goals refine (HA.out _).mono ?_
    all_goals rintro e w2 ⟨rfl, rfl⟩
    all_goals go_wp2_with fail
    all_goals go_ret
    all_goals exact ⟨rfl, rfl⟩

theorem spEcho_any (p : Int) (w : World) :
    Calls Try.prog 41 #[.int .i64 p] w fun e w' => e = .returned (.bool (echoP p)) ∧ w' = w := by
  by_cases h1 : p = 1
  · have d1 : (p == 1) = true := by simp [h1]
    have HV : Hid (echoP p = true) := by unfold Hid echoP; simp [h1]
    clear h1
    go_enter Try.func41, Try.ntmps41
    go_wp2_with fail
    go_ret
    exact ⟨ret_bool HV.out.symm, rfl⟩
  · have d1 : (p == 1) = false := by simp [h1]
    have HV : Hid (echoP p = (p == 58)) := by
      unfold Hid echoP
      rw [decide_eq_false h1, Bool.false_or]
      rfl
    go_enter Try.func41, Try.ntmps41
    go_wp2_with fail
    go_ret
    exact ⟨ret_bool HV.out.symm, rfl⟩

theorem spProto_any (p : Int) (n : Nat) (w : World) (hn : n ≤ maxLen) :
    Calls Try.prog 77 #[.int .i64 p, .int .i64 n] w fun e w' => e = .returned (.bool (protoOk p n)) ∧ w' = w := by
  unfold maxLen at hn
  have run : ∀ (a b c d x y : Bool), (p == 6) = a → (p == 17) = b → (p == 1) = c → (p == 58) = d → ((n : Int) == 4) = x → ((n : Int) == 16) = y →
      Calls Try.prog 77 #[.int .i64 p, .int .i64 n] w fun e w' => e = .returned (.bool (a || b || (c && x) || (d && y))) ∧ w' = w := by
    intro a b c d x y h1 h2 h3 h4 h5 h6
    cases a
    · cases b
      · cases c
        · cases d
          · go_enter Try.func77, Try.ntmps77
            go_wp2_with fail
            go_ret
            exact ⟨rfl, rfl⟩
          · go_enter Try.func77, Try.ntmps77
            go_wp2_with fail
            go_ret
            exact ⟨rfl, rfl⟩
        · cases x
          · cases d
            · go_enter Try.func77, Try.ntmps77
              go_wp2_with fail
              go_ret
              exact ⟨rfl, rfl⟩
            · simp at h3 h4; omega
          · go_enter Try.func77, Try.ntmps77
            go_wp2_with fail
            go_ret
            exact ⟨rfl, rfl⟩
      · go_enter Try.func77, Try.ntmps77
        go_wp2_with fail
        go_ret
        exact ⟨rfl, rfl⟩
    · go_enter Try.func77, Try.ntmps77
      go_wp2_with fail
      go_ret
      exact ⟨rfl, rfl⟩
  have e : protoOk p n = ((p == 6) || (p == 17) || ((p == 1) && ((n : Int) == 4)) || ((p == 58) && ((n : Int) == 16))) := by
    unfold protoOk
    have h4 : ((n : Int) == 4) = decide (n = 4) := by rw [Bool.eq_iff_iff]; simp; omega
    have h16 : ((n : Int) == 16) = decide (n = 16) := by rw [Bool.eq_iff_iff]; simp; omega
    rw [h4, h16]
    rfl
  rw [e]
  exact run _ _ _ _ _ _ rfl rfl rfl rfl rfl rfl

set_option maxRecDepth 100000 in
set_option maxHeartbeats 1000000 in
theorem specFlowRight_any (f : Fl) (w : World) (h1 : f.src.size ≤ 1048576) (h2 : f.dst.size ≤ 1048576) :
    Calls Try.prog 40 #[fwC f] w fun e w' => e = .returned (.bool (flowOk f)) ∧ Below w.heap.size w w' := by
  have HB1 : Hid (∀ W, Calls Try.prog 33 #[.string f.src, .string f.dst] W fun e w' => e = .returned (.bool (pairOk f.src f.dst)) ∧ w' = W) := fun W => spPair_any _ _ W (by unfold maxLen; omega) (by unfold maxLen; omega)
  have HB2 : Hid (∀ W, Calls Try.prog 77 #[.int .i64 f.proto, .int .i64 f.src.size] W fun e w' => e = .returned (.bool (protoOk f.proto f.src.size)) ∧ w' = W) := fun W => spProto_any _ _ W (by unfold maxLen; omega)
  have HB3 : Hid (∀ W, Calls Try.prog 78 #[.int .i64 f.sp] W fun e w' => e = .returned (.bool (isW f.sp)) ∧ w' = W) := fun W => specWordIs_any _ W
  have HB4 : Hid (∀ W, Calls Try.prog 78 #[.int .i64 f.dp] W fun e w' => e = .returned (.bool (isW f.dp)) ∧ w' = W) := fun W => specWordIs_any _ W
  have HB5 : Hid (∀ W, Calls Try.prog 41 #[.int .i64 f.proto] W fun e w' => e = .returned (.bool (echoP f.proto)) ∧ w' = W) := fun W => spEcho_any _ W
  have HA : Hid (flowOk f = (pairOk f.src f.dst && protoOk f.proto f.src.size && isW f.sp && isW f.dp && (!echoP f.proto || decide (f.sp = f.dp)))) := rfl
  have dq : (f.sp == f.dp) = decide (f.sp = f.dp) := rfl
  generalize decide (f.sp = f.dp) = q at *
  generalize flowOk f = ok at *
  generalize pairOk f.src f.dst = a1 at *
  generalize protoOk f.proto f.src.size = a2 at *
  generalize isW f.sp = a3 at *
  generalize isW f.dp = a4 at *
  generalize echoP f.proto = a5 at *
  obtain ⟨proto, src, dst, sp, dp⟩ := f
  unfold fwC
  dsimp only at *
  have HZ : Hid (Below w.heap.size w (w.alloc (.cells #[.int .i64 proto, .string src, .string dst, .int .i64 sp, .int .i64 dp] 29))) := (Below.refl _ _).alloc (Nat.le_refl _) _
  cases a1 with
  | false =>
    have HV : Hid (ok = false) := by unfold Hid; rw [HA.out]; rfl
    clear HA
    go_enter Try.func40, Try.ntmps40
    go_wp2_with fail
    refine (HB1.out _).mono ?_
    rintro e w2 ⟨rfl, rfl⟩
    go_wp2_with fail
    go_ret
    exact ⟨ret_bool HV.out.symm, HZ.out⟩
  | true =>
  cases a2 with
  | false =>
    have HV : Hid (ok = false) := by unfold Hid; rw [HA.out]; rfl
    clear HA
    go_enter Try.func40, Try.ntmps40
    go_wp2_with fail
    refine (HB1.out _).mono ?_
    rintro e w2 ⟨rfl, rfl⟩
    go_wp2_with fail
    refine (HB2.out _).mono ?_
    rintro e w2 ⟨rfl, rfl⟩
    go_wp2_with fail
    go_ret
    exact ⟨ret_bool HV.out.symm, HZ.out⟩
  | true =>
  cases a3 with
  | false =>
    have HV : Hid (ok = false) := by unfold Hid; rw [HA.out]; rfl
    clear HA
    go_enter Try.func40, Try.ntmps40
    go_wp2_with fail
    refine (HB1.out _).mono ?_
    rintro e w2 ⟨rfl, rfl⟩
    go_wp2_with fail
    refine (HB2.out _).mono ?_
    rintro e w2 ⟨rfl, rfl⟩
    go_wp2_with fail
    refine (HB3.out _).mono ?_
    rintro e w2 ⟨rfl, rfl⟩
    go_wp2_with fail
    go_ret
    exact ⟨ret_bool HV.out.symm, HZ.out⟩
  | true =>
  cases a4 with
  | false =>
    have HV : Hid (ok = false) := by unfold Hid; rw [HA.out]; rfl
    clear HA
    go_enter Try.func40, Try.ntmps40
    go_wp2_with fail
    refine (HB1.out _).mono ?_
    rintro e w2 ⟨rfl, rfl⟩
    go_wp2_with fail
    refine (HB2.out _).mono ?_
    rintro e w2 ⟨rfl, rfl⟩
    go_wp2_with fail
    refine (HB3.out _).mono ?_
    rintro e w2 ⟨rfl, rfl⟩
    go_wp2_with fail
    refine (HB4.out _).mono ?_
    rintro e w2 ⟨rfl, rfl⟩
    go_wp2_with fail
    go_ret
    exact ⟨ret_bool HV.out.symm, HZ.out⟩
  | true =>
  have HV : Hid (ok = (!a5 || q)) := by unfold Hid; rw [HA.out]; rfl
  clear HA
  cases a5
  all_goals go_enter Try.func40, Try.ntmps40
  all_goals go_wp2_with fail
  all_goals refine (HB1.out _).mono ?_
  all_goals rintro e w2 ⟨rfl, rfl⟩
  all_goals go_wp2_with fail
  all_goals refine (HB2.out _).mono ?_
  all_goals rintro e w2 ⟨rfl, rfl⟩
  all_goals go_wp2_with fail
  all_goals refine (HB3.out _).mono ?_
  all_goals rintro e w2 ⟨rfl, rfl⟩
  all_goals go_wp2_with fail
  all_goals refine (HB4.out _).mono ?_
  all_goals rintro e w2 ⟨rfl, rfl⟩
  all_goals go_wp2_with fail
  all_goals refine (HB5.out _).mono ?_
  all_goals rintro e w2 ⟨rfl, rfl⟩
  all_goals go_wp2_with fail
  all_goals go_ret
  all_goals exact ⟨ret_bool HV.out.symm, HZ.out⟩
end Go.Proofs.Ytofhcplnnamcdaj
