/- IV4R: what the program's reader of IPv4 answers. Printed by mkiv4r.py. -/
import Derived.Test.YtofenlclefkgdaaIBox
import Derived.Test.YtofenlclefkgdaaMerged11
import Derived.Test.YtofenlclefkgdaaMerged5
import Derived.Test.YtofenlclefkgdaaMerged2
import Derived.Test.YtofenlclefkgdaaBitK
namespace Go.Proofs.Ytofenlclefkgdaa
open Go.RowKit Go.PlainAid
set_option linter.unusedVariables false
set_option linter.unusedSimpArgs false

theorem take_okI (w : World) (B b cap : Nat) (t : ByteArray) (k n : Nat) (ni : Int) (hi : ni = n) (h : CurAt w B b cap t k) (hn : k + n ≤ t.size) (hs : t.size ≤ 100000) :
  Calls Try.prog 55 #[.pointer (some ⟨B, 0, none⟩), .int .i64 ni] w fun e w' => e = .returned (.string (t.extract k (k + n))) ∧ Below w.heap.size (w.setCell ⟨B, 1, none⟩ (.int .i64 (k + n : Nat))) w' := by
 subst hi; exact take_ok w B b cap t k n h hn hs
theorem take_shortI (w : World) (B b cap : Nat) (t : ByteArray) (k n : Nat) (ni : Int) (hi : ni = n) (h : CurAt w B b cap t k) (hn : ¬ k + n ≤ t.size) (hk : k ≤ t.size) (hs : t.size ≤ 100000) (hb : n ≤ 100000) :
  Calls Try.prog 55 #[.pointer (some ⟨B, 0, none⟩), .int .i64 ni] w fun e w' => e = .panicked [shortE] ∧ Below w.heap.size w w' := by
 subst hi; exact take_short w B b cap t k n h hn hk hs hb

/-- How the reader of IPv4 ends. -/
def end4 (t : ByteArray) : Ending := if v4CodeV t = 4 then .panicked [shortE] else .returned (p4CO (v4ReadV t) (v4CodeV t))
theorem end4_short {t : ByteArray} (h : v4CodeV t = 4) : end4 t = .panicked [shortE] := if_pos h
theorem end4_bad {t : ByteArray} {c : Int} (h : v4CodeV t = c) (h4 : c ≠ 4) (h0 : c ≠ 0) : end4 t = .returned (p4CO p4Zero c) := by
 unfold end4 v4ReadV; rw [h, if_neg h4, if_neg h0]
theorem end4_ok {t : ByteArray} (h : v4CodeV t = 0) : end4 t = .returned (p4CO (v4Cut t) 0) := by
 unfold end4 v4ReadV; rw [h, if_neg (by decide), if_pos rfl]

set_option maxRecDepth 100000 in
set_option maxHeartbeats 4000000 in
theorem read4_any (n R b cap : Nat) (t : ByteArray) (w0 w : World) (h : CurAt w R b cap t 0) (hs : t.size ≤ 20000) (hB : Below n w0 w) (hnR : n ≤ R) (hnb : n ≤ b) :
  Calls Try.prog 44 #[.pointer (some ⟨R, 0, none⟩)] w fun e w' => e = end4 t ∧ Below n w0 w' := by
 have hb0 := bt_isByte t 0
 have hb1 := bt_isByte t 1
 have r2 := wordN_range (bt_isByte t) 2
 have r6 := wordN_range (bt_isByte t) 6
 have HShort : Hid (t.size < 20 → end4 t = .panicked [shortE]) := fun h20 => end4_short (by unfold v4CodeV; rw [if_neg (by omega), if_pos h20])
 have HCode : Hid (¬ t.size < 20 → v4CodeV t = if bt t 0 / 16 ≠ 4 ∨ 4 * (bt t 0 % 16) < 20 ∨ wordN (bt t) 2 < 4 * (bt t 0 % 16) ∨ 32768 ≤ wordN (bt t) 6 then 3 else if (t.size : Int) < wordN (bt t) 2 then 4 else if sumV (t.extract 0 (4 * (bt t 0 % 16).toNat)) ≠ 65535 then 5 else if v4Ok (v4Cut t) then 0 else 1) := fun h20 => by
  unfold v4CodeV; rw [if_neg (by omega), if_neg h20]
 have HCut : Hid (v4Cut t = ⟨bt t 1, wordN (bt t) 4, decide (wordN (bt t) 6 / 16384 % 2 = 1), decide (wordN (bt t) 6 / 8192 % 2 = 1), wordN (bt t) 6 % 8192, bt t 8, bt t 9, t.extract 12 16, t.extract 16 20, t.extract 20 (4 * (bt t 0 % 16).toNat), t.extract (4 * (bt t 0 % 16).toNat) (wordN (bt t) 2).toNat⟩) := rfl
 have HEnd : Hid (v4CodeV t = 4 → end4 t = .panicked [shortE]) := end4_short
 have HBad : Hid (∀ c : Int, v4CodeV t = c → c ≠ 4 → c ≠ 0 → end4 t = .returned (p4CO p4Zero c)) := fun c => end4_bad
 have HOk : Hid (v4CodeV t = 0 → end4 t = .returned (p4CO (v4Cut t) 0)) := end4_ok
 generalize end4 t = ans at *
 generalize v4CodeV t = code at *
 have hRlt : R < w.heap.size := World.block_lt_of_cell? w _ h.c0
 have hblt := h.lt
 have S0 : Hid (RS4 n w0 R b cap t w.heap.size (w.heap.size + 1) ((w.alloc (.cells #[.int .i64 0, .int .i64 0, .bool false, .bool false, .int .i64 0, .int .i64 0, .int .i64 0, .string ⟨#[]⟩, .string ⟨#[]⟩, .string ⟨#[]⟩, .string ⟨#[]⟩, .int .i64 0] 33)).alloc (.cells #[.int .i64 0, .int .i64 0, .bool false, .bool false, .int .i64 0, .int .i64 0, .int .i64 0, .string ⟨#[]⟩, .string ⟨#[]⟩, .string ⟨#[]⟩, .string ⟨#[]⟩] 24)) 0 p4Zero) := by
  have q1 : Below w.heap.size w (w.alloc (.cells #[.int .i64 0, .int .i64 0, .bool false, .bool false, .int .i64 0, .int .i64 0, .int .i64 0, .string ⟨#[]⟩, .string ⟨#[]⟩, .string ⟨#[]⟩, .string ⟨#[]⟩, .int .i64 0] 33)) := (Below.refl _ _).alloc (Nat.le_refl _) _
  have hz : (w.alloc (.cells #[.int .i64 0, .int .i64 0, .bool false, .bool false, .int .i64 0, .int .i64 0, .int .i64 0, .string ⟨#[]⟩, .string ⟨#[]⟩, .string ⟨#[]⟩, .string ⟨#[]⟩, .int .i64 0] 33)).heap.size = w.heap.size + 1 := by simp
  have x1 := BoxR4.new w (t := 33)
  have x2 := h.kept q1
  generalize w.alloc (.cells #[.int .i64 0, .int .i64 0, .bool false, .bool false, .int .i64 0, .int .i64 0, .int .i64 0, .string ⟨#[]⟩, .string ⟨#[]⟩, .string ⟨#[]⟩, .string ⟨#[]⟩, .int .i64 0] 33) = w1 at *
  have q2 : Below w1.heap.size w1 (w1.alloc (.cells #[.int .i64 0, .int .i64 0, .bool false, .bool false, .int .i64 0, .int .i64 0, .int .i64 0, .string ⟨#[]⟩, .string ⟨#[]⟩, .string ⟨#[]⟩, .string ⟨#[]⟩] 24)) := (Below.refl _ _).alloc (Nat.le_refl _) _
  have x3 := BoxW4.new w1 (t := 24)
  rw [hz] at x3
  exact ⟨x2.kept q2, x1.kept q2, x3, (hB.trans (q1.mono (by omega))).trans (q2.mono (by omega)), hnR, by omega, by omega, by omega, by omega, by omega, by omega, by omega⟩
 have hO : w.heap.size ≠ w.heap.size + 1 := by omega
 clear h hB
 go_enter Try.func44, Try.ntmps44
 go_wp2_with fail
 generalize (w.alloc (.cells #[.int .i64 0, .int .i64 0, .bool false, .bool false, .int .i64 0, .int .i64 0, .int .i64 0, .string ⟨#[]⟩, .string ⟨#[]⟩, .string ⟨#[]⟩, .string ⟨#[]⟩, .int .i64 0] 33)).alloc (.cells #[.int .i64 0, .int .i64 0, .bool false, .bool false, .int .i64 0, .int .i64 0, .int .i64 0, .string ⟨#[]⟩, .string ⟨#[]⟩, .string ⟨#[]⟩, .string ⟨#[]⟩] 24) = W0 at *
 generalize w.heap.size = O at *
 obtain ⟨P, hP⟩ : ∃ P, P = O + 1 := ⟨_, rfl⟩
 rw [← hP] at S0 hO ⊢
 clear hP
 by_cases h0 : 0 + 1 ≤ t.size
 rotate_left
 ·refine Calls.mono (number_short _ R b cap t 0 1 S0.out.cur h0 (by omega) (by omega) (by omega)) ?_
  rintro e W' ⟨rfl, q⟩
  go_wp2_with fail
  exact ⟨rfl, (HShort.out (by omega)).symm, (S0.out.kept q).bel⟩
 refine Calls.mono (number_ok _ R b cap t 0 1 S0.out.cur h0 (by omega) (by decide)) ?_
 rintro e W1 ⟨rfl, q⟩
 have T1 : Hid (RS4 n w0 R b cap t O P W1 1 _) := S0.out.num 1 q
 clear q S0
 rw [num1]
 go_wp2_with fail
 by_cases h1 : 1 + 1 ≤ t.size
 rotate_left
 ·refine Calls.mono (number_short _ R b cap t 1 1 T1.out.cur h1 (by omega) (by omega) (by omega)) ?_
  rintro e W' ⟨rfl, q⟩
  go_wp2_with fail
  exact ⟨rfl, (HShort.out (by omega)).symm, (T1.out.kept q).bel⟩
 refine Calls.mono (number_ok _ R b cap t 1 1 T1.out.cur h1 (by omega) (by decide)) ?_
 rintro e W2 ⟨rfl, q⟩
 have T2 : Hid (RS4 n w0 R b cap t O P W2 2 _) := T1.out.num 2 q
 clear q T1
 rw [num1]
 have c0 := T2.out.box.c0
 have f0 := T2.out.box.f0
 have S2 : Hid _ := T2.out.set0 (bt t 1)
 clear T2
 go_wp2_with fail
 clear c0 f0
 by_cases h2 : 2 + 2 ≤ t.size
 rotate_left
 ·refine Calls.mono (number_short _ R b cap t 2 2 S2.out.cur h2 (by omega) (by omega) (by omega)) ?_
  rintro e W' ⟨rfl, q⟩
  go_wp2_with fail
  exact ⟨rfl, (HShort.out (by omega)).symm, (S2.out.kept q).bel⟩
 refine Calls.mono (number_ok _ R b cap t 2 2 S2.out.cur h2 (by omega) (by decide)) ?_
 rintro e W3 ⟨rfl, q⟩
 have T3 : Hid (RS4 n w0 R b cap t O P W3 4 _) := S2.out.num 4 q
 clear q S2
 rw [num2]
 go_wp2_with fail
 by_cases h3 : 4 + 2 ≤ t.size
 rotate_left
 ·refine Calls.mono (number_short _ R b cap t 4 2 T3.out.cur h3 (by omega) (by omega) (by omega)) ?_
  rintro e W' ⟨rfl, q⟩
  go_wp2_with fail
  exact ⟨rfl, (HShort.out (by omega)).symm, (T3.out.kept q).bel⟩
 refine Calls.mono (number_ok _ R b cap t 4 2 T3.out.cur h3 (by omega) (by decide)) ?_
 rintro e W4 ⟨rfl, q⟩
 have T4 : Hid (RS4 n w0 R b cap t O P W4 6 _) := T3.out.num 6 q
 clear q T3
 rw [num2]
 have c1 := T4.out.box.c1
 have f1 := T4.out.box.f1
 have S4 : Hid _ := T4.out.set1 (wordN (bt t) 4)
 clear T4
 go_wp2_with fail
 clear c1 f1
 by_cases h4 : 6 + 2 ≤ t.size
 rotate_left
 ·refine Calls.mono (number_short _ R b cap t 6 2 S4.out.cur h4 (by omega) (by omega) (by omega)) ?_
  rintro e W' ⟨rfl, q⟩
  go_wp2_with fail
  exact ⟨rfl, (HShort.out (by omega)).symm, (S4.out.kept q).bel⟩
 refine Calls.mono (number_ok _ R b cap t 6 2 S4.out.cur h4 (by omega) (by decide)) ?_
 rintro e W5 ⟨rfl, q⟩
 have T5 : Hid (RS4 n w0 R b cap t O P W5 8 _) := S4.out.num 8 q
 clear q S4
 rw [num2]
 go_wp2_with fail
 by_cases h5 : 8 + 1 ≤ t.size
 rotate_left
 ·refine Calls.mono (number_short _ R b cap t 8 1 T5.out.cur h5 (by omega) (by omega) (by omega)) ?_
  rintro e W' ⟨rfl, q⟩
  go_wp2_with fail
  exact ⟨rfl, (HShort.out (by omega)).symm, (T5.out.kept q).bel⟩
 refine Calls.mono (number_ok _ R b cap t 8 1 T5.out.cur h5 (by omega) (by decide)) ?_
 rintro e W6 ⟨rfl, q⟩
 have T6 : Hid (RS4 n w0 R b cap t O P W6 9 _) := T5.out.num 9 q
 clear q T5
 rw [num1]
 have c5 := T6.out.box.c5
 have f5 := T6.out.box.f5
 have S6 : Hid _ := T6.out.set5 (bt t 8)
 clear T6
 go_wp2_with fail
 clear c5 f5
 by_cases h6 : 9 + 1 ≤ t.size
 rotate_left
 ·refine Calls.mono (number_short _ R b cap t 9 1 S6.out.cur h6 (by omega) (by omega) (by omega)) ?_
  rintro e W' ⟨rfl, q⟩
  go_wp2_with fail
  exact ⟨rfl, (HShort.out (by omega)).symm, (S6.out.kept q).bel⟩
 refine Calls.mono (number_ok _ R b cap t 9 1 S6.out.cur h6 (by omega) (by decide)) ?_
 rintro e W7 ⟨rfl, q⟩
 have T7 : Hid (RS4 n w0 R b cap t O P W7 10 _) := S6.out.num 10 q
 clear q S6
 rw [num1]
 have c6 := T7.out.box.c6
 have f6 := T7.out.box.f6
 have S7 : Hid _ := T7.out.set6 (bt t 9)
 clear T7
 go_wp2_with fail
 clear c6 f6
 by_cases h7 : 10 + 2 ≤ t.size
 rotate_left
 ·refine Calls.mono (take_short _ R b cap t 10 2 S7.out.cur h7 (by omega) (by omega) (by omega)) ?_
  rintro e W' ⟨rfl, q⟩
  go_wp2_with fail
  exact ⟨rfl, (HShort.out (by omega)).symm, (S7.out.kept q).bel⟩
 refine Calls.mono (take_ok _ R b cap t 10 2 S7.out.cur h7 (by omega)) ?_
 rintro e W8 ⟨rfl, q⟩
 have T8 : Hid (RS4 n w0 R b cap t O P W8 12 _) := S7.out.num 12 q
 clear q S7
 go_wp2_with fail
 by_cases h8 : 12 + 4 ≤ t.size
 rotate_left
 ·refine Calls.mono (take_short _ R b cap t 12 4 T8.out.cur h8 (by omega) (by omega) (by omega)) ?_
  rintro e W' ⟨rfl, q⟩
  go_wp2_with fail
  exact ⟨rfl, (HShort.out (by omega)).symm, (T8.out.kept q).bel⟩
 refine Calls.mono (take_ok _ R b cap t 12 4 T8.out.cur h8 (by omega)) ?_
 rintro e W9 ⟨rfl, q⟩
 have T9 : Hid (RS4 n w0 R b cap t O P W9 16 _) := T8.out.num 16 q
 clear q T8
 have c7 := T9.out.box.c7
 have f7 := T9.out.box.f7
 have S9 : Hid _ := T9.out.set7 (t.extract 12 16)
 clear T9
 go_wp2_with fail
 clear c7 f7
 by_cases h9 : 16 + 4 ≤ t.size
 rotate_left
 ·refine Calls.mono (take_short _ R b cap t 16 4 S9.out.cur h9 (by omega) (by omega) (by omega)) ?_
  rintro e W' ⟨rfl, q⟩
  go_wp2_with fail
  exact ⟨rfl, (HShort.out (by omega)).symm, (S9.out.kept q).bel⟩
 refine Calls.mono (take_ok _ R b cap t 16 4 S9.out.cur h9 (by omega)) ?_
 rintro e W10 ⟨rfl, q⟩
 have T10 : Hid (RS4 n w0 R b cap t O P W10 20 _) := S9.out.num 20 q
 clear q S9
 have c8 := T10.out.box.c8
 have f8 := T10.out.box.f8
 have S10 : Hid _ := T10.out.set8 (t.extract 16 20)
 clear T10
 go_upto_region 12 with fail
 clear c8 f8
 have hge : ¬ t.size < 20 := by omega
 have HC2 : Hid _ := HCode.out hge
 have m1 : (bits .and .i64 (wordN (bt t) 6) 16384 != 0) = decide (wordN (bt t) 6 / 16384 % 2 = 1) := bit_k 14 (by decide) _ r6.1 (by omega)
 have m2 : (bits .and .i64 (wordN (bt t) 6) 8192 != 0) = decide (wordN (bt t) 6 / 8192 % 2 = 1) := bit_k 13 (by decide) _ r6.1 (by omega)
 have m0 : (bits .and .i64 (wordN (bt t) 6) 32768 != 0) = decide (wordN (bt t) 6 / 32768 % 2 = 1) := bit_k 15 (by decide) _ r6.1 (by omega)
 have m3 : bits .and .i64 (wordN (bt t) 6) 8191 = wordN (bt t) 6 % 8192 := mask_k 13 (by decide) _ r6.1 (by omega)
 have a15 := and_15 (bt t 0)
 have hbs : Hid (isByte (bt t)) := bt_isByte t
 generalize W10.setCell ⟨P, 8, none⟩ (.string (t.extract 16 20)) = W at *
 generalize bt t 0 = x0 at *
 generalize bt t 1 = x1 at *
 generalize bt t 8 = x8 at *
 generalize bt t 9 = x9 at *
 generalize wordN (bt t) 2 = x2 at *
 generalize wordN (bt t) 4 = x4 at *
 generalize wordN (bt t) 6 = x6 at *
 obtain ⟨m, hm⟩ : ∃ m : Nat, x0 % 16 = (m : Int) := ⟨(x0 % 16).toNat, by omega⟩
 have hm15 : m ≤ 15 := by omega
 rw [hm] at a15 HC2 HCut
 rw [show ((m : Int)).toNat = m by omega] at HC2 HCut
 obtain ⟨an, han⟩ : ∃ n : Nat, x2 = (n : Int) := ⟨x2.toNat, by omega⟩
 subst han
 rw [show ((an : Int)).toNat = an by omega] at HCut
 clear hm HShort HCode
 have HShort : Hid True := trivial
 have HCode : Hid True := trivial
 by_cases g1 : x0 / 16 = 4
 rotate_left
 ·have d1 : (x0 / 16 != 4) = true := by simp [g1]
  have HV : Hid (ans = .returned (p4CO p4Zero 3)) := HBad.out 3 (by rw [HC2.out, if_pos (Or.inl g1)]) (by decide) (by decide)
  obtain ⟨o0, y0, o1, y1, o2, y2, o3, y3, o4, y4, o5, y5, o6, y6, o7, y7, o8, y8, o9, y9, o10, y10, o11, y11⟩ := S10.out.out
  have hun : undef = Value.tuple #[] := rfl
  clear HShort HCode HCut HEnd HBad HOk
  go_wp2_with fail
  exact bodyPost_ret (v := zr4 3) (by simp [results, Try.results44, go_sem, zr4, o0, o1, o2, o3, o4, o5, o6, o7, o8, o9, o10, o11]) rfl ⟨by rw [HV.out]; rfl, ((((((((((((S10.out.bel.setCell S10.out.nO _).setCell S10.out.nO _).setCell S10.out.nO _).setCell S10.out.nO _).setCell S10.out.nO _).setCell S10.out.nO _).setCell S10.out.nO _).setCell S10.out.nO _).setCell S10.out.nO _).setCell S10.out.nO _).setCell S10.out.nO _).setCell S10.out.nO _)⟩
 have d1 : (x0 / 16 != 4) = false := by simp [g1]
 by_cases g2 : 4 * (m : Int) < 20
 ·have d2 : decide (4 * (m : Int) < 20) = true := by simp <;> omega
  have HV : Hid (ans = .returned (p4CO p4Zero 3)) := HBad.out 3 (by rw [HC2.out, if_pos (Or.inr (Or.inl g2))]) (by decide) (by decide)
  obtain ⟨o0, y0, o1, y1, o2, y2, o3, y3, o4, y4, o5, y5, o6, y6, o7, y7, o8, y8, o9, y9, o10, y10, o11, y11⟩ := S10.out.out
  have hun : undef = Value.tuple #[] := rfl
  clear HShort HCode HCut HEnd HBad HOk
  go_wp2_with fail
  exact bodyPost_ret (v := zr4 3) (by simp [results, Try.results44, go_sem, zr4, o0, o1, o2, o3, o4, o5, o6, o7, o8, o9, o10, o11]) rfl ⟨by rw [HV.out]; rfl, ((((((((((((S10.out.bel.setCell S10.out.nO _).setCell S10.out.nO _).setCell S10.out.nO _).setCell S10.out.nO _).setCell S10.out.nO _).setCell S10.out.nO _).setCell S10.out.nO _).setCell S10.out.nO _).setCell S10.out.nO _).setCell S10.out.nO _).setCell S10.out.nO _).setCell S10.out.nO _)⟩
 have d2 : decide (4 * (m : Int) < 20) = false := by simp <;> omega
 by_cases g3 : (an : Int) < 4 * (m : Int)
 ·have d3 : decide ((an : Int) < 4 * (m : Int)) = true := by simp <;> omega
  have HV : Hid (ans = .returned (p4CO p4Zero 3)) := HBad.out 3 (by rw [HC2.out, if_pos (Or.inr (Or.inr (Or.inl g3)))]) (by decide) (by decide)
  obtain ⟨o0, y0, o1, y1, o2, y2, o3, y3, o4, y4, o5, y5, o6, y6, o7, y7, o8, y8, o9, y9, o10, y10, o11, y11⟩ := S10.out.out
  have hun : undef = Value.tuple #[] := rfl
  clear HShort HCode HCut HEnd HBad HOk
  go_wp2_with fail
  exact bodyPost_ret (v := zr4 3) (by simp [results, Try.results44, go_sem, zr4, o0, o1, o2, o3, o4, o5, o6, o7, o8, o9, o10, o11]) rfl ⟨by rw [HV.out]; rfl, ((((((((((((S10.out.bel.setCell S10.out.nO _).setCell S10.out.nO _).setCell S10.out.nO _).setCell S10.out.nO _).setCell S10.out.nO _).setCell S10.out.nO _).setCell S10.out.nO _).setCell S10.out.nO _).setCell S10.out.nO _).setCell S10.out.nO _).setCell S10.out.nO _).setCell S10.out.nO _)⟩
 have d3 : decide ((an : Int) < 4 * (m : Int)) = false := by simp <;> omega
 by_cases g4 : 32768 ≤ x6
 ·have d4 : (bits .and .i64 x6 32768 != 0) = true := by rw [m0]; simp <;> omega
  clear m0
  have HV : Hid (ans = .returned (p4CO p4Zero 3)) := HBad.out 3 (by rw [HC2.out, if_pos (Or.inr (Or.inr (Or.inr g4)))]) (by decide) (by decide)
  obtain ⟨o0, y0, o1, y1, o2, y2, o3, y3, o4, y4, o5, y5, o6, y6, o7, y7, o8, y8, o9, y9, o10, y10, o11, y11⟩ := S10.out.out
  have hun : undef = Value.tuple #[] := rfl
  clear HShort HCode HCut HEnd HBad HOk
  go_wp2_with fail
  exact bodyPost_ret (v := zr4 3) (by simp [results, Try.results44, go_sem, zr4, o0, o1, o2, o3, o4, o5, o6, o7, o8, o9, o10, o11]) rfl ⟨by rw [HV.out]; rfl, ((((((((((((S10.out.bel.setCell S10.out.nO _).setCell S10.out.nO _).setCell S10.out.nO _).setCell S10.out.nO _).setCell S10.out.nO _).setCell S10.out.nO _).setCell S10.out.nO _).setCell S10.out.nO _).setCell S10.out.nO _).setCell S10.out.nO _).setCell S10.out.nO _).setCell S10.out.nO _)⟩
 have d4 : (bits .and .i64 x6 32768 != 0) = false := by rw [m0]; simp <;> omega
 clear m0
 have HC3 : Hid _ := HC2.out
 rw [if_neg (by omega)] at HC3
 clear HC2
 have c2 := S10.out.box.c2
 have f2 := S10.out.box.f2
 have c3 := S10.out.box.c3
 have f3 := S10.out.box.f3
 have c4 := S10.out.box.c4
 have f4 := S10.out.box.f4
 have S11 : Hid _ := ((S10.out.set2 (decide (x6 / 16384 % 2 = 1))).set3 (decide (x6 / 8192 % 2 = 1))).set4 (x6 % 8192)
 go_upto_region 16 with fail
 generalize ((W.setCell ⟨P, 2, none⟩ (.bool (decide (x6 / 16384 % 2 = 1)))).setCell ⟨P, 3, none⟩ (.bool (decide (x6 / 8192 % 2 = 1)))).setCell ⟨P, 4, none⟩ (.int .i64 (x6 % 8192)) = V at *
 clear c2 f2 c3 f3 c4 f4 S10 d1 d2 d3 d4 m1 m2 m3 a15
 go_wp2_with fail
 by_cases t1 : 20 + (4 * m - 20) ≤ t.size
 rotate_left
 ·refine Calls.mono (take_shortI _ R b cap t 20 (4 * m - 20) _ (by omega) S11.out.cur t1 (by omega) (by omega) (by omega)) ?_
  rintro e W' ⟨rfl, q⟩
  go_wp2_with fail
  exact ⟨rfl, (HEnd.out (by rw [HC3.out, if_pos (by omega)])).symm, (S11.out.kept q).bel⟩
 refine Calls.mono (take_okI _ R b cap t 20 (4 * m - 20) _ (by omega) S11.out.cur t1 (by omega)) ?_
 rw [show 20 + (4 * m - 20) = 4 * m by omega]
 rintro e V1 ⟨rfl, q⟩
 have T12 : Hid (RS4 n w0 R b cap t O P V1 (4 * m) _) := S11.out.num (4 * m) q
 have c9 := T12.out.box.c9
 have f9 := T12.out.box.f9
 have S12 : Hid _ := T12.out.set9 (t.extract 20 (4 * m))
 clear q S11 T12
 go_upto_region 17 with fail
 generalize V1.setCell ⟨P, 9, none⟩ (.string (t.extract 20 (4 * m))) = V2 at *
 clear c9 f9
 go_wp2_with fail
 by_cases t2 : 4 * m + (an - 4 * m) ≤ t.size
 rotate_left
 ·refine Calls.mono (take_shortI _ R b cap t (4 * m) (an - 4 * m) _ (by omega) S12.out.cur t2 (by omega) (by omega) (by omega)) ?_
  rintro e W' ⟨rfl, q⟩
  go_wp2_with fail
  exact ⟨rfl, (HEnd.out (by rw [HC3.out, if_pos (by omega)])).symm, (S12.out.kept q).bel⟩
 refine Calls.mono (take_okI _ R b cap t (4 * m) (an - 4 * m) _ (by omega) S12.out.cur t2 (by omega)) ?_
 rw [show 4 * m + (an - 4 * m) = an by omega]
 rintro e V3 ⟨rfl, q⟩
 have T13 : Hid (RS4 n w0 R b cap t O P V3 an _) := S12.out.num an q
 have c10 := T13.out.box.c10
 have f10 := T13.out.box.f10
 have S13 : Hid (RS4 n w0 R b cap t O P (V3.setCell ⟨P, 10, none⟩ (.string (t.extract (4 * m) an))) an ⟨x1, x4, decide (x6 / 16384 % 2 = 1), decide (x6 / 8192 % 2 = 1), x6 % 8192, x8, x9, t.extract 12 16, t.extract 16 20, t.extract 20 (4 * m), t.extract (4 * m) an⟩) := T13.out.set10 (t.extract (4 * m) an)
 clear q S12 T13
 go_upto_region 18 with fail
 generalize V3.setCell ⟨P, 10, none⟩ (.string (t.extract (4 * m) an)) = V4 at *
 clear c10 f10
 have HC4 : Hid _ := HC3.out
 rw [if_neg (by omega)] at HC4
 clear HC3
 have ex : (4 * (m : Int)).toNat = 4 * m := by omega
 have hcap := S13.out.cur.cp
 have hsz : (t.extract 0 (4 * m)).size = 4 * m := by rw [ByteArray.size_extract]; omega
 have HSum : Hid (∀ cap', Calls Try.prog 47 #[.slice (some ⟨b, 0, none⟩) (4 * m) cap'] V4 fun e w' => e = .returned (.int .i64 (sumV (t.extract 0 (4 * m)))) ∧ w' = V4) := fun cap' => by
  have := sumOfB_any (bt (t.extract 0 (4 * m))) b (4 * m) cap' V4 (bt_isByte _) (fun i hi => by rw [bt_extract t 0 (4 * m) i (by omega), if_neg (by omega)]) (by omega) (fun i hi => by rw [bt_extract t 0 (4 * m) i (by omega), if_pos (by omega), Nat.zero_add]; exact S13.out.cur.bs i (by omega))
  unfold sumV; rw [hsz]; exact this
 have hsr := sumV_range (t.extract 0 (4 * m))
 have k0 := S13.out.cur.c0
 have hok : Hid (∀ Wx, Calls Try.prog 15 #[p4C ⟨x1, x4, decide (x6 / 16384 % 2 = 1), decide (x6 / 8192 % 2 = 1), x6 % 8192, x8, x9, t.extract 12 16, t.extract 16 20, t.extract 20 (4 * m), t.extract (4 * m) an⟩] Wx fun e w' => e = .returned (.bool (v4Ok (v4Cut t))) ∧ Below Wx.heap.size Wx w') := fun Wx => by
  have := implV4Right_any ⟨x1, x4, decide (x6 / 16384 % 2 = 1), decide (x6 / 8192 % 2 = 1), x6 % 8192, x8, x9, t.extract 12 16, t.extract 16 20, t.extract 20 (4 * m), t.extract (4 * m) an⟩ Wx (by simp only [ByteArray.size_extract]; omega) (by simp only [ByteArray.size_extract]; omega) (by simp only [ByteArray.size_extract]; omega) (by simp only [ByteArray.size_extract]; omega)
  rw [HCut.out]; exact this
 have HOk2 : Hid (code = 0 → ans = .returned (p4CO ⟨x1, x4, decide (x6 / 16384 % 2 = 1), decide (x6 / 8192 % 2 = 1), x6 % 8192, x8, x9, t.extract 12 16, t.extract 16 20, t.extract 20 (4 * m), t.extract (4 * m) an⟩ 0)) := fun hc => by rw [HOk.out hc, HCut.out]
 clear HOk HCut hsz
 have HOk : Hid True := trivial
 have HCut : Hid True := trivial
 generalize sumV (t.extract 0 (4 * m)) = sm at *
 generalize v4Ok (v4Cut t) = ok at *
 unfold p4C at hok
 dsimp only at hok
 generalize t.extract 12 16 = e12 at *
 generalize t.extract 16 20 = e16 at *
 generalize t.extract 20 (4 * m) = e20 at *
 generalize t.extract (4 * m) an = e4 at *
 generalize decide (x6 / 16384 % 2 = 1) = bw at *
 generalize decide (x6 / 8192 % 2 = 1) = bm at *
 generalize x6 % 8192 = xo at *
 go_wp2_with fail
 refine Calls.mono (HSum.out _) ?_
 rintro e V5 ⟨rfl, rfl⟩
 clear k0 HSum
 by_cases g5 : sm = 65535
 rotate_left
 ·have d5 : (sm != 65535) = true := by simp [g5]
  have HV : Hid (ans = .returned (p4CO p4Zero 5)) := HBad.out 5 (by rw [HC4.out, if_pos g5]) (by decide) (by decide)
  obtain ⟨o0, y0, o1, y1, o2, y2, o3, y3, o4, y4, o5, y5, o6, y6, o7, y7, o8, y8, o9, y9, o10, y10, o11, y11⟩ := S13.out.out
  have hun : undef = Value.tuple #[] := rfl
  clear HShort HCode HCut HEnd HBad HOk
  go_wp2_with fail
  exact bodyPost_ret (v := zr4 5) (by simp [results, Try.results44, go_sem, zr4, o0, o1, o2, o3, o4, o5, o6, o7, o8, o9, o10, o11]) rfl ⟨by rw [HV.out]; rfl, ((((((((((((S13.out.bel.setCell S13.out.nO _).setCell S13.out.nO _).setCell S13.out.nO _).setCell S13.out.nO _).setCell S13.out.nO _).setCell S13.out.nO _).setCell S13.out.nO _).setCell S13.out.nO _).setCell S13.out.nO _).setCell S13.out.nO _).setCell S13.out.nO _).setCell S13.out.nO _)⟩
 have d5 : (sm != 65535) = false := by simp [g5]
 obtain ⟨c0, f0, c1, f1, c2, f2, c3, f3, c4, f4, c5, f5, c6, f6, c7, f7, c8, f8, c9, f9, c10, f10⟩ := S13.out.box
 have HC5 : Hid _ := HC4.out
 rw [if_neg (by simp [g5])] at HC5
 clear HC4 g5
 go_wp2_with fail
 refine Calls.mono (hok.out _) ?_
 rintro e V6 ⟨rfl, q⟩
 clear c0 f0 c1 f1 c2 f2 c3 f3 c4 f4 c5 f5 c6 f6 c7 f7 c8 f8 c9 f9 c10 f10 d5
 have S14 : Hid _ := S13.out.kept q
 clear q S13 hok
 cases ok with
 | false =>
  have HV : Hid (ans = .returned (p4CO p4Zero 1)) := HBad.out 1 (by rw [HC5.out]; rfl) (by decide) (by decide)
  obtain ⟨o0, y0, o1, y1, o2, y2, o3, y3, o4, y4, o5, y5, o6, y6, o7, y7, o8, y8, o9, y9, o10, y10, o11, y11⟩ := S14.out.out
  have hun : undef = Value.tuple #[] := rfl
  clear HShort HCode HCut HEnd HBad HOk
  go_wp2_with fail
  exact bodyPost_ret (v := zr4 1) (by simp [results, Try.results44, go_sem, zr4, o0, o1, o2, o3, o4, o5, o6, o7, o8, o9, o10, o11]) rfl ⟨by rw [HV.out]; rfl, ((((((((((((S14.out.bel.setCell S14.out.nO _).setCell S14.out.nO _).setCell S14.out.nO _).setCell S14.out.nO _).setCell S14.out.nO _).setCell S14.out.nO _).setCell S14.out.nO _).setCell S14.out.nO _).setCell S14.out.nO _).setCell S14.out.nO _).setCell S14.out.nO _).setCell S14.out.nO _)⟩
 | true =>
  have HV : Hid (ans = _) := HOk2.out (by rw [HC5.out]; rfl)
  obtain ⟨c0, f0, c1, f1, c2, f2, c3, f3, c4, f4, c5, f5, c6, f6, c7, f7, c8, f8, c9, f9, c10, f10⟩ := S14.out.box
  obtain ⟨o0, y0, o1, y1, o2, y2, o3, y3, o4, y4, o5, y5, o6, y6, o7, y7, o8, y8, o9, y9, o10, y10, o11, y11⟩ := S14.out.out
  clear HOk2 HBad HEnd HC5
  go_wp2_with fail
  exact bodyPost_ret (v := .agg #[.int .i64 x1, .int .i64 x4, .bool bw, .bool bm, .int .i64 xo, .int .i64 x8, .int .i64 x9, .string e12, .string e16, .string e20, .string e4, .int .i64 0]) (by simp [results, Try.results44, go_sem, o0, o1, o2, o3, o4, o5, o6, o7, o8, o9, o10, o11]) rfl ⟨by rw [HV.out]; rfl, ((((((((((((S14.out.bel.setCell S14.out.nO _).setCell S14.out.nO _).setCell S14.out.nO _).setCell S14.out.nO _).setCell S14.out.nO _).setCell S14.out.nO _).setCell S14.out.nO _).setCell S14.out.nO _).setCell S14.out.nO _).setCell S14.out.nO _).setCell S14.out.nO _).setCell S14.out.nO _)⟩

end Go.Proofs.Ytofenlclefkgdaa
