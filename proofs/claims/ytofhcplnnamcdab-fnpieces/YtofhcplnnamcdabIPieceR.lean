/- IPieceR: what the program's addrsPair, isTime and PieceRight answer. -/
import Derived.Test.YtofhcplnnamcdabPieces
import Derived.Test.YtofhcplnnamcdabABit
import Derived.Test.YtofhcplnnamcdabMgTx
import Derived.Test.YtofhcplnnamcdabIV4A
import Derived.Test.YtofhcplnnamcdabLawPiece
import Derived.BigQuiet
import Derived.Deep.DeepCutAuto
namespace Go.Proofs.Ytofhcplnnamcdab
open Go.RowKit Go.PlainAid
set_option linter.unusedVariables false
set_option linter.unusedSimpArgs false

theorem implPair_any (s d : ByteArray) (w : World) (hs : s.size ≤ maxLen) (hd : d.size ≤ maxLen) :
    Calls Try.prog 63 #[.string s, .string d] w fun e w' => e = .returned (.bool (pairOk s d)) ∧ w' = w := by
  have HA : Hid (∀ W, Calls Try.prog 81 #[.string s] W fun e w' => e = .returned (.bool (addrOk s)) ∧ w' = W) := fun W => implAddrRight_any s W
  unfold maxLen at hs hd
  unfold pairOk
  generalize addrOk s = b at *
  by_cases h : s.size = d.size
  · have dh : ((s.size : Int) == (d.size : Int)) = true := by simp; omega
    rw [decide_eq_true h]
    clear h
    cases b
    all_goals go_enter Try.func63, Try.ntmps63
    all_goals go_wp2_with fail
    all_goals refine (HA.out _).mono ?_
    all_goals rintro e w2 ⟨rfl, rfl⟩
    all_goals go_wp2_with fail
    all_goals go_ret
    all_goals exact ⟨rfl, rfl⟩
  · have dh : ((s.size : Int) == (d.size : Int)) = false := by simp; omega
    rw [decide_eq_false h]
    cases b
    all_goals go_enter Try.func63, Try.ntmps63
    all_goals go_wp2_with fail
    all_goals refine (HA.out _).mono ?_
    all_goals rintro e w2 ⟨rfl, rfl⟩
    all_goals go_wp2_with fail
    all_goals go_ret
    all_goals exact ⟨rfl, rfl⟩

theorem implTime_any (n : Int) (w : World) :
    Calls Try.prog 37 #[.int .i64 n] w fun e w' => e = .returned (.bool (isTime n)) ∧ w' = w := by
  by_cases h1 : 0 ≤ n
  · by_cases h2 : n ≤ 1000000000
    · have HV : Hid (isTime n = true) := by unfold Hid isTime isIn; simp [h1, h2]
      go_enter Try.func37, Try.ntmps37
      go_wp2_with fail
      go_ret
      exact ⟨ret_bool (by rw [HV.out]), rfl⟩
    · have HV : Hid (isTime n = false) := by unfold Hid isTime isIn; simp [h2]
      go_enter Try.func37, Try.ntmps37
      go_wp2_with fail
      go_ret
      exact ⟨ret_bool (by rw [HV.out]), rfl⟩
  · have HV : Hid (isTime n = false) := by unfold Hid isTime isIn; simp [h1]
    have h1' : n < 0 := by omega
    go_enter Try.func37, Try.ntmps37
    go_wp2_with fail
    go_ret
    exact ⟨ret_bool (by rw [HV.out]), rfl⟩

theorem pieceOk_prog (p : Pc) : pieceOk p = (pairOk p.src p.dst && (isIn p.proto 0 255 && (decide (0 ≤ p.id) && (decide (p.id ≤ 4294967295) && (decide (1 ≤ p.data.size) && (pcV p.off p.more p.data 65535 && isTime p.since)))))) := by
  unfold pieceOk pcV
  rw [show isIn p.id 0 4294967295 = (decide (0 ≤ p.id) && decide (p.id ≤ 4294967295)) from rfl]
  ac_rfl

theorem ba_toList_nil {a : ByteArray} (h : ¬ 1 ≤ a.size) : a.toList = [] := by
  rw [ByteArray.toList_eq]
  have : a.data.size = 0 := by have : a.data.size = a.size := rfl; omega
  exact Array.toList_eq_nil_iff.2 (Array.size_eq_zero_iff.1 this)
theorem ba_toList_cons {a : ByteArray} (h : 1 ≤ a.size) : ¬ a.toList = [] := by
  rw [ByteArray.toList_eq]
  intro e
  have := Array.toList_eq_nil_iff.1 e
  have h2 : a.data.size = a.size := rfl
  rw [this] at h2; simp at h2; omega

set_option maxRecDepth 100000 in
set_option maxHeartbeats 2000000 in
theorem implPieceRight_any (p : Pc) (w : World) (h1 : p.src.size ≤ 1048576) (h2 : p.dst.size ≤ 1048576) (h3 : p.data.size ≤ 1048576) :
    Calls Try.prog 36 #[pcC p] w fun e w' => e = .returned (.bool (pieceOk p)) ∧ Below w.heap.size w w' := by
  have HB1 : Hid (∀ W, Calls Try.prog 63 #[.string p.src, .string p.dst] W fun e w' => e = .returned (.bool (pairOk p.src p.dst)) ∧ w' = W) := fun W => implPair_any _ _ W (by unfold maxLen; omega) (by unfold maxLen; omega)
  have HB2 : Hid (∀ W, Calls Try.prog 56 #[.int .i64 p.proto] W fun e w' => e = .returned (.bool (isIn p.proto 0 255)) ∧ w' = W) := fun W => implByte_any _ W
  have HB3 : Hid (∀ W, Calls Try.prog 58 #[.int .i64 p.off, .bool p.more, .string p.data, .int .i64 65535] W fun e w' => e = .returned (.bool (pcV p.off p.more p.data 65535)) ∧ w' = W) := fun W => implPiece_any _ _ _ _ W h3
  have HB5 : Hid (∀ W, Calls Try.prog 37 #[.int .i64 p.since] W fun e w' => e = .returned (.bool (isTime p.since)) ∧ w' = W) := fun W => implTime_any _ W
  have HV : Hid (pieceOk p = (pairOk p.src p.dst && (isIn p.proto 0 255 && (decide (0 ≤ p.id) && (decide (p.id ≤ 4294967295) && (decide (1 ≤ p.data.size) && (pcV p.off p.more p.data 65535 && isTime p.since))))))) := pieceOk_prog p
  generalize pieceOk p = ok at *
  generalize pairOk p.src p.dst = a1 at *
  generalize isIn p.proto 0 255 = a2 at *
  generalize pcV p.off p.more p.data 65535 = a4 at *
  generalize isTime p.since = a5 at *
  obtain ⟨src, dst, proto, id, off, more, data, since⟩ := p
  unfold pcC
  dsimp only at *
  have HZ : Hid (Below w.heap.size w (w.alloc (.cells #[.string src, .string dst, .int .i64 proto, .int .i64 id, .int .i64 off, .bool more, .string data, .int .i64 since] 37))) := (Below.refl _ _).alloc (Nat.le_refl _) _
  have hun : undef = Value.tuple #[] := rfl
  go_enter Try.func36, Try.ntmps36
  go_wp2_with fail
  refine (HB1.out _).mono ?_
  rintro e w2 ⟨rfl, rfl⟩
  cases a1 with
  | false =>
    go_wp2_with fail
    go_ret
    exact ⟨ret_bool (by rw [HV.out]; simp), HZ.out⟩
  | true =>
  go_wp2_with fail
  refine (HB2.out _).mono ?_
  rintro e w2 ⟨rfl, rfl⟩
  cases a2 with
  | false =>
    go_wp2_with fail
    go_ret
    exact ⟨ret_bool (by rw [HV.out]; simp), HZ.out⟩
  | true =>
  by_cases e1 : 0 ≤ id
  · rw [decide_eq_true e1] at HV
    by_cases e2 : id ≤ 4294967295
    · rw [decide_eq_true e2] at HV
      by_cases e3 : 1 ≤ data.size
      · rw [decide_eq_true e3] at HV
        have d3 := ba_toList_cons e3
        go_wp2_with fail
        refine (HB3.out _).mono ?_
        rintro e w2 ⟨rfl, rfl⟩
        cases a4 with
        | false =>
          go_wp2_with fail
          go_ret
          exact ⟨ret_bool (by rw [HV.out]; simp [d3]), HZ.out⟩
        | true =>
          go_wp2_with fail
          refine (HB5.out _).mono ?_
          rintro e w2 ⟨rfl, rfl⟩
          go_wp2_with fail
          go_ret
          exact ⟨ret_bool (by rw [HV.out]; simp [d3]), HZ.out⟩
      · rw [decide_eq_false e3] at HV
        have d3 := ba_toList_nil e3
        go_wp2_with fail
        go_ret
        exact ⟨ret_bool (by rw [HV.out]; simp), HZ.out⟩
    · rw [decide_eq_false e2] at HV
      have e2' : decide (id ≤ 4294967295) = false := decide_eq_false e2
      go_wp2_with fail
      go_ret
      exact ⟨ret_bool (by rw [HV.out]; simp), HZ.out⟩
  · rw [decide_eq_false e1] at HV
    have e1' : decide (0 ≤ id) = false := decide_eq_false e1
    go_wp2_with fail
    go_ret
    exact ⟨ret_bool (by rw [HV.out]; simp), HZ.out⟩

theorem implPieceRight_sm (p : Pc) (w : World) (hs : PcSm p) (hw : PcWf p) :
    Calls Try.prog 36 #[pcC p] w fun e w' => e = .returned (.bool (pieceOk p)) ∧ Below w.heap.size w w' := by
  obtain ⟨g0, g1, g2⟩ := hs
  exact implPieceRight_any p w g0 g1 g2
end Go.Proofs.Ytofhcplnnamcdab
