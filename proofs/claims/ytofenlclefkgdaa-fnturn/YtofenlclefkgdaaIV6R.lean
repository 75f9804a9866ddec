/- IV6R: what the program's reader of IPv6 answers. Printed by mkiv6r.py. -/
import Derived.Test.YtofenlclefkgdaaMerged13
import Derived.Test.YtofenlclefkgdaaMerged12
namespace Go.Proofs.Ytofenlclefkgdaa
open Go.RowKit Go.PlainAid
set_option linter.unusedVariables false
set_option linter.unusedSimpArgs false

theorem take_okJ (w : World) (B b cap : Nat) (t : ByteArray) (k n : Nat) (ni : Int) (hi : ni = n) (h : CurAt w B b cap t k) (hn : k + n ≤ t.size) (hs : t.size ≤ 100000) :
  Calls Try.prog 55 #[.pointer (some ⟨B, 0, none⟩), .int .i64 ni] w fun e w' => e = .returned (.string (t.extract k (k + n))) ∧ Below w.heap.size (w.setCell ⟨B, 1, none⟩ (.int .i64 (k + n : Nat))) w' := by
 subst hi; exact take_ok w B b cap t k n h hn hs
theorem take_shortJ (w : World) (B b cap : Nat) (t : ByteArray) (k n : Nat) (ni : Int) (hi : ni = n) (h : CurAt w B b cap t k) (hn : ¬ k + n ≤ t.size) (hk : k ≤ t.size) (hs : t.size ≤ 100000) (hb : n ≤ 100000) :
  Calls Try.prog 55 #[.pointer (some ⟨B, 0, none⟩), .int .i64 ni] w fun e w' => e = .panicked [shortE] ∧ Below w.heap.size w w' := by
 subst hi; exact take_short w B b cap t k n h hn hk hs hb

/-- How the reader of IPv6 ends. -/
def end6 (t : ByteArray) : Ending := if v6CodeV t = 4 then .panicked [shortE] else .returned (p6CO (v6ReadV t) (v6CodeV t))
theorem end6_short {t : ByteArray} (h : v6CodeV t = 4) : end6 t = .panicked [shortE] := if_pos h
theorem end6_bad {t : ByteArray} {c : Int} (h : v6CodeV t = c) (h4 : c ≠ 4) (h0 : c ≠ 0) : end6 t = .returned (p6CO p6Zero c) := by
 unfold end6 v6ReadV; rw [h, if_neg h4, if_neg h0]
theorem end6_ok {t : ByteArray} (h : v6CodeV t = 0) : end6 t = .returned (p6CO (v6Cut t) 0) := by
 unfold end6 v6ReadV; rw [h, if_neg (by decide), if_pos rfl]

/-- The cut of a text whose length is there, by what stands behind the header. -/
theorem cut_piece {t : ByteArray} {n : Nat} (hn : wordN (bt t) 4 = n) (hl : 40 + n ≤ t.size) (h44 : bt t 6 = 44) (h8 : 8 ≤ n) :
  v6Cut t = ⟨(wordN (bt t) 0 * 65536 + wordN (bt t) 2) / 1048576 % 256, (wordN (bt t) 0 * 65536 + wordN (bt t) 2) % 1048576, bt (t.extract 40 (40 + n)) 0, bt t 7, t.extract 8 24, t.extract 24 40, true, decide (wordN (bt (t.extract 40 (40 + n))) 2 % 2 = 1), wordN (bt (t.extract 40 (40 + n))) 2 / 8, wordN (bt (t.extract 40 (40 + n))) 4 * 65536 + wordN (bt (t.extract 40 (40 + n))) 6, (t.extract 40 (40 + n)).extract 8 n⟩ := by
 have he : ∀ i, i < n → bt (t.extract 40 (40 + n)) i = bt t (40 + i) := fun i hi => by rw [bt_extract t 40 (40 + n) i hl, if_pos (by omega)]
 have hw : ∀ i, i + 1 < n → wordN (bt (t.extract 40 (40 + n))) i = wordN (bt t) (40 + i) := fun i hi => by unfold wordN; rw [he i (by omega), he (i + 1) hi]; rfl
 have hx : (t.extract 40 (40 + n)).extract 8 n = t.extract 48 (40 + n) := by
  apply ByteArray.ext
  simp only [ByteArray.data_extract, Array.extract_extract]
  congr 1
  omega
 have hb := bt_isByte t 42
 have hm : decide (wordN (bt t) (40 + 2) % 2 = 1) = decide (bt t 43 % 2 = 1) := by
  simp only [wordN, Nat.reduceAdd]; apply decide_eq_decide.2; omega
 unfold v6Cut
 rw [if_pos h44, hn, show ((n : Int)).toNat = n by omega, he 0 (by omega), hw 2 (by omega), hw 4 (by omega), hw 6 (by omega), hx, hm]
theorem cut_whole {t : ByteArray} {n : Nat} (hn : wordN (bt t) 4 = n) (hl : 40 + n ≤ t.size) (h44 : ¬ bt t 6 = 44) :
  v6Cut t = ⟨(wordN (bt t) 0 * 65536 + wordN (bt t) 2) / 1048576 % 256, (wordN (bt t) 0 * 65536 + wordN (bt t) 2) % 1048576, bt t 6, bt t 7, t.extract 8 24, t.extract 24 40, false, false, 0, 0, (t.extract 40 (40 + n)).extract 0 n⟩ := by
 have hx : (t.extract 40 (40 + n)).extract 0 n = t.extract 40 (40 + n) := by
  apply ByteArray.ext
  simp only [ByteArray.data_extract, Array.extract_extract]
  congr 1
  omega
 unfold v6Cut
 rw [if_neg h44, hn, show ((n : Int)).toNat = n by omega, hx]

set_option maxRecDepth 100000 in
set_option maxHeartbeats 8000000 in
theorem read6_any (n R b cap : Nat) (t : ByteArray) (w0 w : World) (h : CurAt w R b cap t 0) (hs : t.size ≤ 20000) (hB : Below n w0 w) (hnR : n ≤ R) (hnb : n ≤ b) :
  Calls Try.prog 36 #[.pointer (some ⟨R, 0, none⟩)] w fun e w' => e = end6 t ∧ Below n w0 w' := by
 have hb0 := bt_isByte t 0
 have r0 := wordN_range (bt_isByte t) 0
 have r2 := wordN_range (bt_isByte t) 2
 have r4 := wordN_range (bt_isByte t) 4
 have HShort : Hid (t.size < 40 → end6 t = .panicked [shortE]) := fun h20 => end6_short (by unfold v6CodeV; rw [if_neg (by omega), if_pos h20])
 have HCode : Hid (¬ t.size < 40 → v6CodeV t = if bt t 0 / 16 ≠ 6 then 3 else if (t.size : Int) < 40 + wordN (bt t) 4 ∨ (bt t 6 = 44 ∧ wordN (bt t) 4 < 8) then 4 else if v6Ok (v6Cut t) then 0 else 1) := fun h20 => by
  unfold v6CodeV; rw [if_neg (by omega), if_neg h20]
 have HFirst : Hid ((wordN (bt t) 0 * 65536 + wordN (bt t) 2) / 268435456 = bt t 0 / 16) := by
  have q1 := bt_isByte t 1
  have q2 := bt_isByte t 2
  have q3 := bt_isByte t 3
  unfold Hid wordN
  simp only [Nat.zero_add, Nat.reduceAdd]
  omega
 have HEnd : Hid (v6CodeV t = 4 → end6 t = .panicked [shortE]) := end6_short
 have HBad : Hid (∀ c : Int, v6CodeV t = c → c ≠ 4 → c ≠ 0 → end6 t = .returned (p6CO p6Zero c)) := fun c => end6_bad
 have HOk : Hid (v6CodeV t = 0 → end6 t = .returned (p6CO (v6Cut t) 0)) := end6_ok
 generalize end6 t = ans at *
 generalize v6CodeV t = code at *
 have hRlt : R < w.heap.size := World.block_lt_of_cell? w _ h.c0
 have hblt := h.lt
 have S0 : Hid (RS6 n w0 R b cap t w.heap.size (w.heap.size + 1) ((w.alloc (.cells #[.int .i64 0, .int .i64 0, .int .i64 0, .int .i64 0, .string ⟨#[]⟩, .string ⟨#[]⟩, .bool false, .bool false, .int .i64 0, .int .i64 0, .string ⟨#[]⟩, .int .i64 0] 30)).alloc (.cells #[.int .i64 0, .int .i64 0, .int .i64 0, .int .i64 0, .string ⟨#[]⟩, .string ⟨#[]⟩, .bool false, .bool false, .int .i64 0, .int .i64 0, .string ⟨#[]⟩] 28)) 0 p6Zero) := by
  have q1 : Below w.heap.size w (w.alloc (.cells #[.int .i64 0, .int .i64 0, .int .i64 0, .int .i64 0, .string ⟨#[]⟩, .string ⟨#[]⟩, .bool false, .bool false, .int .i64 0, .int .i64 0, .string ⟨#[]⟩, .int .i64 0] 30)) := (Below.refl _ _).alloc (Nat.le_refl _) _
  have hz : (w.alloc (.cells #[.int .i64 0, .int .i64 0, .int .i64 0, .int .i64 0, .string ⟨#[]⟩, .string ⟨#[]⟩, .bool false, .bool false, .int .i64 0, .int .i64 0, .string ⟨#[]⟩, .int .i64 0] 30)).heap.size = w.heap.size + 1 := by simp
  have x1 := BoxR6.new w (t := 30)
  have x2 := h.kept q1
  generalize w.alloc (.cells #[.int .i64 0, .int .i64 0, .int .i64 0, .int .i64 0, .string ⟨#[]⟩, .string ⟨#[]⟩, .bool false, .bool false, .int .i64 0, .int .i64 0, .string ⟨#[]⟩, .int .i64 0] 30) = w1 at *
  have q2 : Below w1.heap.size w1 (w1.alloc (.cells #[.int .i64 0, .int .i64 0, .int .i64 0, .int .i64 0, .string ⟨#[]⟩, .string ⟨#[]⟩, .bool false, .bool false, .int .i64 0, .int .i64 0, .string ⟨#[]⟩] 28)) := (Below.refl _ _).alloc (Nat.le_refl _) _
  have x3 := BoxW6.new w1 (t := 28)
  rw [hz] at x3
  exact ⟨x2.kept q2, x1.kept q2, x3, (hB.trans (q1.mono (by omega))).trans (q2.mono (by omega)), hnR, by omega, by omega, by omega, by omega, by omega, by omega, by omega⟩
 have hO : w.heap.size ≠ w.heap.size + 1 := by omega
 clear h hB
 go_enter Try.func36, Try.ntmps36
 go_wp2_with fail
 have HBig : Hid (∀ W : World, ((w.alloc (.cells #[.int .i64 0, .int .i64 0, .int .i64 0, .int .i64 0, .string ⟨#[]⟩, .string ⟨#[]⟩, .bool false, .bool false, .int .i64 0, .int .i64 0, .string ⟨#[]⟩, .int .i64 0] 30)).alloc (.cells #[.int .i64 0, .int .i64 0, .int .i64 0, .int .i64 0, .string ⟨#[]⟩, .string ⟨#[]⟩, .bool false, .bool false, .int .i64 0, .int .i64 0, .string ⟨#[]⟩] 28)).heap.size ≤ W.heap.size → w.heap.size + 1 < W.heap.size) := fun W hW => by simp at hW; omega
 generalize (w.alloc (.cells #[.int .i64 0, .int .i64 0, .int .i64 0, .int .i64 0, .string ⟨#[]⟩, .string ⟨#[]⟩, .bool false, .bool false, .int .i64 0, .int .i64 0, .string ⟨#[]⟩, .int .i64 0] 30)).alloc (.cells #[.int .i64 0, .int .i64 0, .int .i64 0, .int .i64 0, .string ⟨#[]⟩, .string ⟨#[]⟩, .bool false, .bool false, .int .i64 0, .int .i64 0, .string ⟨#[]⟩] 28) = W0 at *
 generalize w.heap.size = O at *
 obtain ⟨P, hP⟩ : ∃ P, P = O + 1 := ⟨_, rfl⟩
 rw [← hP] at S0 hO ⊢
 clear hP HBig
 by_cases h0 : 0 + 4 ≤ t.size
 rotate_left
 ·refine Calls.mono (number_short _ R b cap t 0 4 S0.out.cur h0 (by omega) (by omega) (by omega)) ?_
  rintro e W' ⟨rfl, q⟩
  go_wp2_with fail
  exact ⟨rfl, (HShort.out (by omega)).symm, (S0.out.kept q).bel⟩
 refine Calls.mono (number_ok _ R b cap t 0 4 S0.out.cur h0 (by omega) (by decide)) ?_
 rintro e W1 ⟨rfl, q⟩
 have T1 : Hid (RS6 n w0 R b cap t O P W1 4 _) := S0.out.num 4 q
 clear q S0
 rw [num4]
 go_wp2_with fail
 by_cases h1 : 4 + 2 ≤ t.size
 rotate_left
 ·refine Calls.mono (number_short _ R b cap t 4 2 T1.out.cur h1 (by omega) (by omega) (by omega)) ?_
  rintro e W' ⟨rfl, q⟩
  go_wp2_with fail
  exact ⟨rfl, (HShort.out (by omega)).symm, (T1.out.kept q).bel⟩
 refine Calls.mono (number_ok _ R b cap t 4 2 T1.out.cur h1 (by omega) (by decide)) ?_
 rintro e W2 ⟨rfl, q⟩
 have T2 : Hid (RS6 n w0 R b cap t O P W2 6 _) := T1.out.num 6 q
 clear q T1
 rw [num2]
 go_wp2_with fail
 by_cases h2 : 6 + 1 ≤ t.size
 rotate_left
 ·refine Calls.mono (number_short _ R b cap t 6 1 T2.out.cur h2 (by omega) (by omega) (by omega)) ?_
  rintro e W' ⟨rfl, q⟩
  go_wp2_with fail
  exact ⟨rfl, (HShort.out (by omega)).symm, (T2.out.kept q).bel⟩
 refine Calls.mono (number_ok _ R b cap t 6 1 T2.out.cur h2 (by omega) (by decide)) ?_
 rintro e W3 ⟨rfl, q⟩
 have T3 : Hid (RS6 n w0 R b cap t O P W3 7 _) := T2.out.num 7 q
 clear q T2
 rw [num1]
 have c2 := T3.out.box.c2
 have f2 := T3.out.box.f2
 have S3 : Hid _ := T3.out.set2 (bt t 6)
 clear T3
 go_wp2_with fail
 clear c2 f2
 by_cases h3 : 7 + 1 ≤ t.size
 rotate_left
 ·refine Calls.mono (number_short _ R b cap t 7 1 S3.out.cur h3 (by omega) (by omega) (by omega)) ?_
  rintro e W' ⟨rfl, q⟩
  go_wp2_with fail
  exact ⟨rfl, (HShort.out (by omega)).symm, (S3.out.kept q).bel⟩
 refine Calls.mono (number_ok _ R b cap t 7 1 S3.out.cur h3 (by omega) (by decide)) ?_
 rintro e W4 ⟨rfl, q⟩
 have T4 : Hid (RS6 n w0 R b cap t O P W4 8 _) := S3.out.num 8 q
 clear q S3
 rw [num1]
 have c3 := T4.out.box.c3
 have f3 := T4.out.box.f3
 have S4 : Hid _ := T4.out.set3 (bt t 7)
 clear T4
 go_wp2_with fail
 clear c3 f3
 by_cases h4 : 8 + 16 ≤ t.size
 rotate_left
 ·refine Calls.mono (take_short _ R b cap t 8 16 S4.out.cur h4 (by omega) (by omega) (by omega)) ?_
  rintro e W' ⟨rfl, q⟩
  go_wp2_with fail
  exact ⟨rfl, (HShort.out (by omega)).symm, (S4.out.kept q).bel⟩
 refine Calls.mono (take_ok _ R b cap t 8 16 S4.out.cur h4 (by omega)) ?_
 rintro e W5 ⟨rfl, q⟩
 have T5 : Hid (RS6 n w0 R b cap t O P W5 24 _) := S4.out.num 24 q
 clear q S4
 have c4 := T5.out.box.c4
 have f4 := T5.out.box.f4
 have S5 : Hid _ := T5.out.set4 (t.extract 8 24)
 clear T5
 go_wp2_with fail
 clear c4 f4
 by_cases h5 : 24 + 16 ≤ t.size
 rotate_left
 ·refine Calls.mono (take_short _ R b cap t 24 16 S5.out.cur h5 (by omega) (by omega) (by omega)) ?_
  rintro e W' ⟨rfl, q⟩
  go_wp2_with fail
  exact ⟨rfl, (HShort.out (by omega)).symm, (S5.out.kept q).bel⟩
 refine Calls.mono (take_ok _ R b cap t 24 16 S5.out.cur h5 (by omega)) ?_
 rintro e W6 ⟨rfl, q⟩
 have T6 : Hid (RS6 n w0 R b cap t O P W6 40 _) := S5.out.num 40 q
 clear q S5
 have c5 := T6.out.box.c5
 have f5 := T6.out.box.f5
 have S6 : Hid _ := T6.out.set5 (t.extract 24 40)
 clear T6
 go_upto_region 8 with fail
 clear c5 f5
 have hge : ¬ t.size < 40 := by omega
 have HC2 : Hid _ := HCode.out hge
 have HP1 : Hid (∀ n : Nat, wordN (bt t) 4 = n → 40 + n ≤ t.size → bt t 6 = 44 → 8 ≤ n → v6Cut t = _) := fun n => cut_piece
 have HP2 : Hid (∀ n : Nat, wordN (bt t) 4 = n → 40 + n ≤ t.size → ¬ bt t 6 = 44 → v6Cut t = _) := fun n => cut_whole
 simp only [Nat.zero_add] at *
 generalize W6.setCell ⟨P, 5, none⟩ (.string (t.extract 24 40)) = W at *
 have m3 : bits .and .i64 ((wordN (bt t) 0 * 65536 + wordN (bt t) 2) / 1048576) 255 = (wordN (bt t) 0 * 65536 + wordN (bt t) 2) / 1048576 % 256 := mask_k 8 (by decide) _ (by omega) (by omega)
 have m4 : bits .and .i64 (wordN (bt t) 0 * 65536 + wordN (bt t) 2) 1048575 = (wordN (bt t) 0 * 65536 + wordN (bt t) 2) % 1048576 := mask_k 20 (by decide) _ (by omega) (by omega)
 have hfr : 0 ≤ wordN (bt t) 0 * 65536 + wordN (bt t) 2 ∧ wordN (bt t) 0 * 65536 + wordN (bt t) 2 ≤ 4294967295 := by omega
 generalize wordN (bt t) 0 * 65536 + wordN (bt t) 2 = first at *
 generalize bt t 6 = x6 at *
 generalize bt t 7 = x7 at *
 generalize bt t 0 = x0 at *
 obtain ⟨an, han⟩ : ∃ n : Nat, wordN (bt t) 4 = (n : Int) := ⟨(wordN (bt t) 4).toNat, by omega⟩
 replace HP1 : Hid _ := HP1.out an han
 replace HP2 : Hid _ := HP2.out an han
 rw [han] at HC2 r4 ⊢
 clear han HShort HCode
 by_cases g1 : x0 / 16 = 6
 rotate_left
 ·have d1 : (first / 268435456 != 6) = true := by rw [HFirst.out]; simp [g1]
  have HV : Hid (ans = .returned (p6CO p6Zero 3)) := HBad.out 3 (by rw [HC2.out, if_pos g1]) (by decide) (by decide)
  obtain ⟨o0, y0, o1, y1, o2, y2, o3, y3, o4, y4, o5, y5, o6, y6, o7, y7, o8, y8, o9, y9, o10, y10, o11, y11⟩ := S6.out.out
  clear HEnd HBad HOk
  go_wp2_with fail
  exact bodyPost_ret (v := zr6 3) (by simp [results, Try.results36, go_sem, zr6, o0, o1, o2, o3, o4, o5, o6, o7, o8, o9, o10, o11]) rfl ⟨by rw [HV.out]; rfl, ((((((((((((S6.out.bel.setCell S6.out.nO _).setCell S6.out.nO _).setCell S6.out.nO _).setCell S6.out.nO _).setCell S6.out.nO _).setCell S6.out.nO _).setCell S6.out.nO _).setCell S6.out.nO _).setCell S6.out.nO _).setCell S6.out.nO _).setCell S6.out.nO _).setCell S6.out.nO _)⟩
 have d1 : (first / 268435456 != 6) = false := by rw [HFirst.out]; simp [g1]
 have HC3 : Hid _ := HC2.out
 rw [if_neg (by omega)] at HC3
 clear HC2 HFirst
 have c0 := S6.out.box.c0
 have f0 := S6.out.box.f0
 have c1 := S6.out.box.c1
 have f1 := S6.out.box.f1
 have S7 : Hid _ := (S6.out.set0 (first / 1048576 % 256)).set1 (first % 1048576)
 go_upto_region 11 with fail
 generalize (W.setCell ⟨P, 0, none⟩ (.int .i64 (first / 1048576 % 256))).setCell ⟨P, 1, none⟩ (.int .i64 (first % 1048576)) = V at *
 clear c0 f0 c1 f1 S6 d1 m3 m4
 go_wp2_with fail
 by_cases t1 : 40 + an ≤ t.size
 rotate_left
 ·refine Calls.mono (take_shortJ _ R b cap t 40 an _ rfl S7.out.cur t1 (by omega) (by omega) (by omega)) ?_
  rintro e W' ⟨rfl, q⟩
  go_wp2_with fail
  exact ⟨rfl, (HEnd.out (by rw [HC3.out, if_pos (Or.inl (by omega))])).symm, (S7.out.kept q).bel⟩
 refine Calls.mono (take_okJ _ R b cap t 40 an _ rfl S7.out.cur t1 (by omega)) ?_
 rintro e V1 ⟨rfl, q⟩
 have T8 : Hid (RS6 n w0 R b cap t O P V1 (40 + an) _) := S7.out.num (40 + an) q
 clear q S7
 have hsz : (t.extract 40 (40 + an)).size = an := by rw [ByteArray.size_extract]; omega
 have hblk : R < V1.heap.size ∧ O < V1.heap.size ∧ P < V1.heap.size := ⟨World.block_lt_of_cell? V1 _ T8.out.cur.c0, World.block_lt_of_cell? V1 _ T8.out.out.c0, World.block_lt_of_cell? V1 _ T8.out.box.c0⟩
 have HHB : Hid _ := hblk
 clear hblk
 have e12 : (t.extract 8 24).size ≤ 1048576 := by rw [ByteArray.size_extract]; omega
 have e24 : (t.extract 24 40).size ≤ 1048576 := by rw [ByteArray.size_extract]; omega
 generalize t.extract 40 (40 + an) = s at *
 generalize t.extract 8 24 = es at *
 generalize t.extract 24 40 = ed at *
 generalize first / 1048576 % 256 = xc at *
 generalize first % 1048576 = xf at *
 obtain ⟨cap2, V2, hcv, hold, hB2, hcp⟩ := bytes_new V1 s
 have hV2 : V2.heap.size = V1.heap.size + 1 := by
  have := hcv.symm.trans (run_bytes_of_string (P := Try.prog) V1 9 22 5 s Try.underlying9 Try.underlying22 Try.underlying5)
  injection this with _ hw
  rw [hw]; simp
 have c0 := (T8.out.cur.kept hB2).c0
 have f0 := (T8.out.cur.kept hB2).f0
 have c1 := (T8.out.cur.kept hB2).c1
 have f1 := (T8.out.cur.kept hB2).f1
 have S9 : Hid (RS6 n w0 R V1.heap.size cap2 s O P ((V2.setCell ⟨R, 0, none⟩ (.slice (some ⟨V1.heap.size, 0, none⟩) an cap2)).setCell ⟨R, 1, none⟩ (.int .i64 0)) 0 ⟨xc, xf, x6, x7, es, ed, false, false, 0, 0, ⟨#[]⟩⟩) := by
  obtain ⟨hb1, hb2, hb3⟩ := HHB.out
  refine RS6.but T8.out (((Below.but hB2 R).set 0 _).set 1 _) ⟨?_, by simpa using f0, ?_, by simpa using f1, fun i hi => ?_, by omega, by simp [World.setCell]; omega, hcp⟩ (by omega) (by omega)
  ·rw [hsz, World.cell?_setCell_other _ _ _ _ (fun e => by injection e with _ h2; omega)]; exact World.cell?_setCell_same _ _ _ c0
  ·exact World.cell?_setCell_same _ _ _ ((World.cell?_setCell_other _ _ _ _ (fun e => by injection e with _ h2; omega)).trans c1)
  ·rw [World.cell?_setCell_other _ _ _ _ (fun e => by injection e with h1 _; omega), World.cell?_setCell_other _ _ _ _ (fun e => by injection e with h1 _; omega)]; exact (hold.get i hi).1
 have HB9 : Hid (V1.heap.size ≠ O ∧ V1.heap.size ≠ P) := by obtain ⟨hb1, hb2, hb3⟩ := HHB.out; exact ⟨by omega, by omega⟩
 clear hold hB2 hV2 T8 HHB
 go_upto_region 12 with fail
 clear c0 f0 c1 f1 hcv
 generalize (V2.setCell ⟨R, 0, none⟩ (.slice (some ⟨V1.heap.size, 0, none⟩) an cap2)).setCell ⟨R, 1, none⟩ (.int .i64 0) = Y at *
 generalize V1.heap.size = b2 at *
 have c2 := S9.out.box.c2
 by_cases g44 : x6 = 44
 rotate_left
 ·have d44 : (x6 == 44) = false := by simp [g44]
  have HCu : Hid (v6Cut t = ⟨xc, xf, x6, x7, es, ed, false, false, 0, 0, s.extract 0 an⟩) := HP2.out t1 g44
  have HC4 : Hid _ := HC3.out
  rw [if_neg (by rintro (hh | ⟨hh, -⟩); (· omega); (· exact g44 hh))] at HC4
  clear HP1 HP2 HC3 HEnd
  have HEnd : Hid True := trivial
  go_upto_region 14 with fail
  clear d44 c2
  go_wp2_with fail
  refine Calls.mono (rest_ok _ R b2 cap2 s 0 S9.out.cur (by omega) (by omega)) ?_
  rintro e Z1 ⟨rfl, Z0, q1, q3, q2⟩
  rw [← q3] at q2
  have T11 : Hid (RS6 n w0 R b2 cap2 s O P Z1 s.size _) := (S9.out.kept q1).num s.size q2
  clear q1 q2 q3 S9
  rw [hsz]
  have c10 := T11.out.box.c10
  have f10 := T11.out.box.f10
  have S12 : Hid (RS6 n w0 R b2 cap2 s O P (Z1.setCell ⟨P, 10, none⟩ (.string (s.extract 0 an))) s.size ⟨xc, xf, x6, x7, es, ed, false, false, 0, 0, s.extract 0 an⟩) := T11.out.set10 (s.extract 0 an)
  clear T11
  go_upto_region 15 with fail
  clear c10 f10
  have e40 : (s.extract 0 an).size ≤ 1048576 := by rw [ByteArray.size_extract]; omega
  have hok : Hid (∀ Wx, Calls Try.prog 21 #[p6C ⟨xc, xf, x6, x7, es, ed, false, false, 0, 0, s.extract 0 an⟩] Wx fun e w' => e = .returned (.bool (v6Ok (v6Cut t))) ∧ Below Wx.heap.size Wx w') := fun Wx => by
   have := implV6Right_any ⟨xc, xf, x6, x7, es, ed, false, false, 0, 0, s.extract 0 an⟩ Wx e12 e24 e40
   rw [HCu.out]; exact this
  have HOk2 : Hid (code = 0 → ans = .returned (p6CO ⟨xc, xf, x6, x7, es, ed, false, false, 0, 0, s.extract 0 an⟩ 0)) := fun hc => by rw [HOk.out hc, HCu.out]
  clear HOk HCu
  have HOk : Hid True := trivial
  generalize v6Ok (v6Cut t) = ok at *
  unfold p6C at hok
  dsimp only at hok
  generalize Z1.setCell ⟨P, 10, none⟩ (.string (s.extract 0 an)) = Z2 at *
  generalize s.extract 0 an = edata at *
  obtain ⟨c0, f0, c1, f1, c2, f2, c3, f3, c4, f4, c5, f5, c6, f6, c7, f7, c8, f8, c9, f9, c10, f10⟩ := S12.out.box
  dsimp only at c0 c1 c2 c3 c4 c5 c6 c7 c8 c9 c10
  go_wp2_with fail
  refine Calls.mono (hok.out _) ?_
  rintro e Z3 ⟨rfl, q⟩
  clear c0 f0 c1 f1 c2 f2 c3 f3 c4 f4 c5 f5 c6 f6 c7 f7 c8 f8 c9 f9 c10 f10
  have S13 : Hid _ := S12.out.kept q
  clear q S12 hok
  cases ok with
  | false =>
   have HV : Hid (ans = .returned (p6CO p6Zero 1)) := HBad.out 1 (by rw [HC4.out]; rfl) (by decide) (by decide)
   obtain ⟨o0, y0, o1, y1, o2, y2, o3, y3, o4, y4, o5, y5, o6, y6, o7, y7, o8, y8, o9, y9, o10, y10, o11, y11⟩ := S13.out.out
   clear HEnd HBad HOk
   go_wp2_with fail
   exact bodyPost_ret (v := zr6 1) (by simp [results, Try.results36, go_sem, zr6, o0, o1, o2, o3, o4, o5, o6, o7, o8, o9, o10, o11]) rfl ⟨by rw [HV.out]; rfl, ((((((((((((S13.out.bel.setCell S13.out.nO _).setCell S13.out.nO _).setCell S13.out.nO _).setCell S13.out.nO _).setCell S13.out.nO _).setCell S13.out.nO _).setCell S13.out.nO _).setCell S13.out.nO _).setCell S13.out.nO _).setCell S13.out.nO _).setCell S13.out.nO _).setCell S13.out.nO _)⟩
  | true =>
   have HV : Hid (ans = _) := HOk2.out (by rw [HC4.out]; rfl)
   obtain ⟨c0, f0, c1, f1, c2, f2, c3, f3, c4, f4, c5, f5, c6, f6, c7, f7, c8, f8, c9, f9, c10, f10⟩ := S13.out.box
   dsimp only at c0 c1 c2 c3 c4 c5 c6 c7 c8 c9 c10
   obtain ⟨o0, y0, o1, y1, o2, y2, o3, y3, o4, y4, o5, y5, o6, y6, o7, y7, o8, y8, o9, y9, o10, y10, o11, y11⟩ := S13.out.out
   clear HOk2 HBad HEnd HC4
   go_wp2_with fail
   exact bodyPost_ret (v := .agg #[.int .i64 xc, .int .i64 xf, .int .i64 x6, .int .i64 x7, .string es, .string ed, .bool false, .bool false, .int .i64 0, .int .i64 0, .string edata, .int .i64 0]) (by simp [results, Try.results36, go_sem, o0, o1, o2, o3, o4, o5, o6, o7, o8, o9, o10, o11]) rfl ⟨by rw [HV.out]; rfl, ((((((((((((S13.out.bel.setCell S13.out.nO _).setCell S13.out.nO _).setCell S13.out.nO _).setCell S13.out.nO _).setCell S13.out.nO _).setCell S13.out.nO _).setCell S13.out.nO _).setCell S13.out.nO _).setCell S13.out.nO _).setCell S13.out.nO _).setCell S13.out.nO _).setCell S13.out.nO _)⟩
 have d44 : (x6 == 44) = true := by simp [g44]
 have HPc : Hid _ := withPiece_any R b2 cap2 s Y ⟨xc, xf, x6, x7, es, ed, false, false, 0, 0, ⟨#[]⟩⟩ S9.out.cur (by omega)
 obtain ⟨c0, f0, c1, f1, c2, f2, c3, f3, c4, f4, c5, f5, c6, f6, c7, f7, c8, f8, c9, f9, c10, f10⟩ := S9.out.box
 dsimp only at c0 c1 c2 c3 c4 c5 c6 c7 c8 c9 c10
 have HGo : Hid (x6 = 44) := g44
 clear g44
 go_wp2_with fail
 refine Calls.mono HPc.out ?_
 rintro e Y2 ⟨qb, qe⟩
 clear HPc c0 f0 c1 f1 c2 f2 c3 f3 c4 f4 c5 f5 c6 f6 c7 f7 c8 f8 c9 f9 c10 f10 d44
 by_cases g8 : 8 ≤ an
 rotate_left
 ·obtain rfl := qe.2 (by omega)
  go_wp2_with fail
  exact ⟨rfl, (HEnd.out (by rw [HC3.out, if_pos (Or.inr ⟨HGo.out, by omega⟩)])).symm, S9.out.bel.trans (qb.below (Nat.le_trans S9.out.nR (Nat.le_of_lt (World.block_lt_of_cell? Y _ S9.out.cur.c0))) S9.out.nR)⟩
 obtain ⟨rfl, qc⟩ := qe.1 (by omega)
 have S10 : Hid (RS6 n w0 R b2 cap2 s O P Y2 8 _) := S9.out.but qb qc HB9.out.1 HB9.out.2
 have HWp : Hid (withP ⟨xc, xf, x6, x7, es, ed, false, false, 0, 0, ⟨#[]⟩⟩ s = ⟨xc, xf, bt s 0, x7, es, ed, true, decide (wordN (bt s) 2 % 2 = 1), wordN (bt s) 2 / 8, wordN (bt s) 4 * 65536 + wordN (bt s) 6, ⟨#[]⟩⟩) := rfl
 rw [HWp.out]
 have HCu : Hid (v6Cut t = ⟨xc, xf, bt s 0, x7, es, ed, true, decide (wordN (bt s) 2 % 2 = 1), wordN (bt s) 2 / 8, wordN (bt s) 4 * 65536 + wordN (bt s) 6, s.extract 8 an⟩) := HP1.out t1 HGo.out g8
 have HC4 : Hid _ := HC3.out
 rw [if_neg (by rintro (hh | ⟨-, hh⟩) <;> omega)] at HC4
 clear HP1 HP2 HC3 HEnd HWp qb qc qe S9 HGo
 have HEnd : Hid True := trivial
 generalize bt s 0 = xn at *
 generalize decide (wordN (bt s) 2 % 2 = 1) = bm at *
 generalize wordN (bt s) 2 / 8 = xo at *
 generalize wordN (bt s) 4 * 65536 + wordN (bt s) 6 = xi at *
 obtain ⟨c0, f0, c1, f1, c2, f2, c3, f3, c4, f4, c5, f5, c6, f6, c7, f7, c8, f8, c9, f9, c10, f10⟩ := S10.out.box
 have S9 : Hid (RS6 n w0 R b2 cap2 s O P (((((((((((Y2.setCell ⟨P, 0, none⟩ (.int .i64 xc)).setCell ⟨P, 1, none⟩ (.int .i64 xf)).setCell ⟨P, 2, none⟩ (.int .i64 xn)).setCell ⟨P, 3, none⟩ (.int .i64 x7)).setCell ⟨P, 4, none⟩ (.string es)).setCell ⟨P, 5, none⟩ (.string ed)).setCell ⟨P, 6, none⟩ (.bool true)).setCell ⟨P, 7, none⟩ (.bool bm)).setCell ⟨P, 8, none⟩ (.int .i64 xo)).setCell ⟨P, 9, none⟩ (.int .i64 xi)).setCell ⟨P, 10, none⟩ (.string ⟨#[]⟩)) 8 ⟨xc, xf, xn, x7, es, ed, true, bm, xo, xi, ⟨#[]⟩⟩) := (((((((((((S10.out.set0 xc).set1 xf).set2 xn).set3 x7).set4 es).set5 ed).set6 true).set7 bm).set8 xo).set9 xi).set10 ⟨#[]⟩)
 unfold p6C
 dsimp only
 go_upto_region 14 with fail
 clear c0 f0 c1 f1 c2 f2 c3 f3 c4 f4 c5 f5 c6 f6 c7 f7 c8 f8 c9 f9 c10 f10 S10
 generalize ((((((((((Y2.setCell ⟨P, 0, none⟩ (.int .i64 xc)).setCell ⟨P, 1, none⟩ (.int .i64 xf)).setCell ⟨P, 2, none⟩ (.int .i64 xn)).setCell ⟨P, 3, none⟩ (.int .i64 x7)).setCell ⟨P, 4, none⟩ (.string es)).setCell ⟨P, 5, none⟩ (.string ed)).setCell ⟨P, 6, none⟩ (.bool true)).setCell ⟨P, 7, none⟩ (.bool bm)).setCell ⟨P, 8, none⟩ (.int .i64 xo)).setCell ⟨P, 9, none⟩ (.int .i64 xi)).setCell ⟨P, 10, none⟩ (.string ⟨#[]⟩) = Y3 at *
 go_wp2_with fail
 refine Calls.mono (rest_ok _ R b2 cap2 s 8 S9.out.cur (by omega) (by omega)) ?_
 rintro e Z1 ⟨rfl, Z0, q1, q3, q2⟩
 rw [← q3] at q2
 have T11 : Hid (RS6 n w0 R b2 cap2 s O P Z1 s.size _) := (S9.out.kept q1).num s.size q2
 clear q1 q2 q3 S9
 rw [hsz]
 have c10 := T11.out.box.c10
 have f10 := T11.out.box.f10
 have S12 : Hid (RS6 n w0 R b2 cap2 s O P (Z1.setCell ⟨P, 10, none⟩ (.string (s.extract 8 an))) s.size ⟨xc, xf, xn, x7, es, ed, true, bm, xo, xi, s.extract 8 an⟩) := T11.out.set10 (s.extract 8 an)
 clear T11
 go_upto_region 15 with fail
 clear c10 f10
 have e40 : (s.extract 8 an).size ≤ 1048576 := by rw [ByteArray.size_extract]; omega
 have hok : Hid (∀ Wx, Calls Try.prog 21 #[p6C ⟨xc, xf, xn, x7, es, ed, true, bm, xo, xi, s.extract 8 an⟩] Wx fun e w' => e = .returned (.bool (v6Ok (v6Cut t))) ∧ Below Wx.heap.size Wx w') := fun Wx => by
  have := implV6Right_any ⟨xc, xf, xn, x7, es, ed, true, bm, xo, xi, s.extract 8 an⟩ Wx e12 e24 e40
  rw [HCu.out]; exact this
 have HOk2 : Hid (code = 0 → ans = .returned (p6CO ⟨xc, xf, xn, x7, es, ed, true, bm, xo, xi, s.extract 8 an⟩ 0)) := fun hc => by rw [HOk.out hc, HCu.out]
 clear HOk HCu
 have HOk : Hid True := trivial
 generalize v6Ok (v6Cut t) = ok at *
 unfold p6C at hok
 dsimp only at hok
 generalize Z1.setCell ⟨P, 10, none⟩ (.string (s.extract 8 an)) = Z2 at *
 generalize s.extract 8 an = edata at *
 obtain ⟨c0, f0, c1, f1, c2, f2, c3, f3, c4, f4, c5, f5, c6, f6, c7, f7, c8, f8, c9, f9, c10, f10⟩ := S12.out.box
 dsimp only at c0 c1 c2 c3 c4 c5 c6 c7 c8 c9 c10
 go_wp2_with fail
 refine Calls.mono (hok.out _) ?_
 rintro e Z3 ⟨rfl, q⟩
 clear c0 f0 c1 f1 c2 f2 c3 f3 c4 f4 c5 f5 c6 f6 c7 f7 c8 f8 c9 f9 c10 f10
 have S13 : Hid _ := S12.out.kept q
 clear q S12 hok
 cases ok with
 | false =>
  have HV : Hid (ans = .returned (p6CO p6Zero 1)) := HBad.out 1 (by rw [HC4.out]; rfl) (by decide) (by decide)
  obtain ⟨o0, y0, o1, y1, o2, y2, o3, y3, o4, y4, o5, y5, o6, y6, o7, y7, o8, y8, o9, y9, o10, y10, o11, y11⟩ := S13.out.out
  clear HEnd HBad HOk
  go_wp2_with fail
  exact bodyPost_ret (v := zr6 1) (by simp [results, Try.results36, go_sem, zr6, o0, o1, o2, o3, o4, o5, o6, o7, o8, o9, o10, o11]) rfl ⟨by rw [HV.out]; rfl, ((((((((((((S13.out.bel.setCell S13.out.nO _).setCell S13.out.nO _).setCell S13.out.nO _).setCell S13.out.nO _).setCell S13.out.nO _).setCell S13.out.nO _).setCell S13.out.nO _).setCell S13.out.nO _).setCell S13.out.nO _).setCell S13.out.nO _).setCell S13.out.nO _).setCell S13.out.nO _)⟩
 | true =>
  have HV : Hid (ans = _) := HOk2.out (by rw [HC4.out]; rfl)
  obtain ⟨c0, f0, c1, f1, c2, f2, c3, f3, c4, f4, c5, f5, c6, f6, c7, f7, c8, f8, c9, f9, c10, f10⟩ := S13.out.box
  dsimp only at c0 c1 c2 c3 c4 c5 c6 c7 c8 c9 c10
  obtain ⟨o0, y0, o1, y1, o2, y2, o3, y3, o4, y4, o5, y5, o6, y6, o7, y7, o8, y8, o9, y9, o10, y10, o11, y11⟩ := S13.out.out
  clear HOk2 HBad HEnd HC4
  go_wp2_with fail
  exact bodyPost_ret (v := .agg #[.int .i64 xc, .int .i64 xf, .int .i64 xn, .int .i64 x7, .string es, .string ed, .bool true, .bool bm, .int .i64 xo, .int .i64 xi, .string edata, .int .i64 0]) (by simp [results, Try.results36, go_sem, o0, o1, o2, o3, o4, o5, o6, o7, o8, o9, o10, o11]) rfl ⟨by rw [HV.out]; rfl, ((((((((((((S13.out.bel.setCell S13.out.nO _).setCell S13.out.nO _).setCell S13.out.nO _).setCell S13.out.nO _).setCell S13.out.nO _).setCell S13.out.nO _).setCell S13.out.nO _).setCell S13.out.nO _).setCell S13.out.nO _).setCell S13.out.nO _).setCell S13.out.nO _).setCell S13.out.nO _)⟩

end Go.Proofs.Ytofenlclefkgdaa
