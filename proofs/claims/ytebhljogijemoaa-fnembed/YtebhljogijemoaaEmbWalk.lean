/- The law FnEmbed, walked: whatever is drawn, it returns true. -/
import Derived.Test.YtebhljogijemoaaDrawEmb
import Derived.Test.YtebhljogijemoaaRowBytes
import Derived.Test.YtebhljogijemoaaEmbMath
import Derived.Test.YtebhljogijemoaaIExtract
import Derived.Test.YtebhljogijemoaaSame
namespace Go.Proofs.Ytebhljogijemoaa
open Go.RowKit Go.PlainAid
set_option linter.unusedVariables false
set_option linter.unusedSimpArgs false

theorem BoxP.below {w wx : World} {P : Nat} {s : ByteArray} {b : Int} (h : BoxP w P s b) (hb : Below w.heap.size w wx) : BoxP wx P s b := h.kept (grown_of_below (r := none) hb) (by simp)
theorem BoxP.other {w : World} {P Q o : Nat} {s : ByteArray} {b : Int} {v : Value} (h : BoxP w P s b) (hn : P ≠ Q) : BoxP (w.setCell ⟨Q, o, none⟩ v) P s b :=
  ⟨(World.cell?_setCell_other _ _ _ _ (fun e => hn (by injection e with e1 _; exact e1.symm))).trans h.c0, (World.cell?_setCell_other _ _ _ _ (fun e => hn (by injection e with e1 _; exact e1.symm))).trans h.c1, by rw [World.frozen?_setCell]; exact h.f0, by rw [World.frozen?_setCell]; exact h.f1⟩
theorem BoxP.alloc {w : World} {P : Nat} {s : ByteArray} {b : Int} (h : BoxP w P s b) (o : Obj) : BoxP (w.alloc o) P s b := h.below ((Below.refl _ _).alloc (Nat.le_refl _) o)
theorem embed_size16 {s : ByteArray} {b : Int} {u : ByteArray} (hn : natOk s b = true) (hu : u.size = 4) : (embedV s b u).1.size = 16 := by
  unfold embedV; rw [if_pos ⟨hn, hu⟩]; exact bytesOf_size _ _

theorem extract_out_size (t : ByteArray) (c : Int) (v : ByteArray) : (extractV t c v).1.size ≤ 1048576 := by
  unfold extractV
  split
  · split
    · split
      · show (extV v _).size ≤ _; rw [show (extV v (c / 8).toNat).size = 4 from bytesOf_size _ _]; omega
      · exact Nat.zero_le _
    · exact Nat.zero_le _
  · exact Nat.zero_le _

set_option maxRecDepth 100000 in
set_option maxHeartbeats 1000000 in
theorem embWalk (a0 : Option Addr) (len0 cap0 : Nat) (a1 : Option Addr) (len1 cap1 : Nat) (w : World) (h0 : len0 ≤ 1048576) (h1 : len1 ≤ 1048576) (b0 : Bytes w a0 len0 w.heap.size) (b1 : Bytes w a1 len1 w.heap.size) :
    Calls Try.prog 4 #[.slice a0 len0 cap0, .slice a1 len1 cap1] w fun e w' => e = .returned (.bool true) ∧ Below w.heap.size w w' := by
  have B0 : Hid (Bytes w a0 len0 w.heap.size) := b0
  have B1 : Hid (Bytes w a1 len1 w.heap.size) := b1
  clear b0 b1
  go_enter Try.func4, Try.ntmps4
  go_wp2_with fail
  refine (drawEmbed_any a0 len0 cap0 _ h0 B0.out).mono ?_
  rintro e wd ⟨s, b, u, rfl, hs, -, hu, hbel⟩
  have HD : Hid (Below w.heap.size w wd) := hbel
  clear hbel B0
  go_wp2_with fail
  have P1 : Hid _ := BoxP.new wd s b 33
  have HD1 : Hid _ := HD.out.alloc HD.out.size (.cells #[.string s, .int .i64 b] 33)
  clear HD
  generalize wd.alloc (.cells #[.string s, .int .i64 b] 33) = W1 at P1 HD1 ⊢
  have hs' : s.size ≤ 1048576 := by omega
  have hu' : u.size ≤ 1048576 := by omega
  refine (implEmbed_any s b u _ hs' hu').mono ?_
  rintro e w2 ⟨rfl, q2⟩
  have P2 : Hid _ := P1.out.below q2
  have HD2 : Hid (Below w.heap.size w w2) := HD1.out.trans (q2.mono HD1.out.size)
  have hPlt := P2.out.lt
  clear q2 P1 HD1
  have HM : Hid (∀ W, Calls Try.prog 17 #[.agg #[.string s, .int .i64 b], .string u] W fun e w' => e = .returned (.agg #[.string (embedV s b u).1, .int .i64 (embedV s b u).2]) ∧ Below W.heap.size W w') := fun W => specEmbed_any s b u W hs' hu'
  have HK : Hid ((embedV s b u).2 = 0 → natOk s b = true ∧ u.size = 4) := fun h => by
    unfold embedV at h
    by_cases hh : natOk s b = true ∧ u.size = 4
    · exact hh
    · rw [if_neg hh] at h; exact absurd h (by decide)
  obtain ⟨A, hA⟩ : ∃ A, A = (embedV s b u).1 := ⟨_, rfl⟩
  obtain ⟨C, hC⟩ : ∃ C, C = (embedV s b u).2 := ⟨_, rfl⟩
  rw [← hA, ← hC] at HM ⊢
  have HA : Hid (A = (embedV s b u).1) := hA
  have HC : Hid (C = (embedV s b u).2) := hC
  clear hA hC
  go_wp2_with fail
  have X3 : Hid _ := BoxP.new w2 A C 37
  have P3 : Hid _ := P2.out.alloc (.cells #[.string A, .int .i64 C] 37)
  have HD3 : Hid _ := HD2.out.alloc HD2.out.size (.cells #[.string A, .int .i64 C] 37)
  clear P2 HD2
  generalize w2.alloc (.cells #[.string A, .int .i64 C] 37) = W3 at X3 P3 HD3 ⊢
  have x0 := cell_regrown X3.out.c0
  have x1 := cell_regrown X3.out.c1
  have p0 := cell_regrown P3.out.c0
  have p1 := cell_regrown P3.out.c1
  have nq := neq_same A C
  refine wp_region_quiet_below (by kernel_rfl) (by kernel_rfl) ?_
  repeat (go_big_quiet_step ((go_at_call 17; exact Calls.regrown_of (HM.out _))))
  refine wpQuiet_nil ?_
  rintro w4 ⟨⟨dq, osq⟩, rfl⟩
  have X4 : Hid _ := X3.out.below (below_regrown W3 dq osq)
  have P4 : Hid _ := P3.out.below (below_regrown W3 dq osq)
  have HD4 : Hid _ := HD3.out.trans ((below_regrown W3 dq osq).mono HD3.out.size)
  clear x0 x1 p0 p1 nq X3 P3 HD3 HM
  generalize Go.Sort.grow (redrawn W3 dq) osq = W4 at X4 P4 HD4 ⊢
  obtain ⟨x0, x1, _, _⟩ := X4.out
  obtain ⟨p0, p1, _, _⟩ := P4.out
  by_cases hC0 : C = 0
  · obtain ⟨hn, hu4⟩ := HK.out (by rw [← HC.out]; exact hC0)
    have hE := has_emb hn hu4
    rw [← HA.out] at hE
    have hA16 : A.size ≤ 1048576 := by rw [HA.out, embed_size16 hn hu4]; omega
    have HXT : Hid (∀ W, Calls Try.prog 18 #[.agg #[.string s, .int .i64 b], .string A] W fun e w' => e = .returned (.agg #[.string u, .int .i64 0]) ∧ Below W.heap.size W w') := fun W => by
      have := implExtract_any s b A W hs' hA16
      rwa [hE.2.1] at this
    have HHS : Hid (∀ W, Calls Try.prog 19 #[.agg #[.string s, .int .i64 b], .string A] W fun e w' => e = .returned (.bool true) ∧ Below W.heap.size W w') := fun W => by
      have := implPrefixHas_any s b A W hs' hA16
      rwa [hE.1] at this
    have nq := neq_same u 0
    subst hC0
    clear hE hn hu4 HK HA HC
    go_wp2_with fail
    refine (HXT.out _).mono ?_
    rintro e w5 ⟨rfl, q5⟩
    have X5 : Hid _ := X4.out.below q5
    have P5 : Hid _ := P4.out.below q5
    have HD5 : Hid (Below w.heap.size w w5) := HD4.out.trans (q5.mono HD4.out.size)
    clear q5 X4 P4 HD4 HXT x0 x1 p0 p1
    obtain ⟨x0, x1, _, _⟩ := X5.out
    obtain ⟨p0, p1, _, _⟩ := P5.out
    go_wp2_with fail
    refine (HHS.out _).mono ?_
    rintro e w6 ⟨rfl, q6⟩
    have HD6 : Hid (Below w.heap.size w w6) := HD5.out.trans (q6.mono HD5.out.size)
    clear q6 X5 P5 HD5 HHS x0 x1 p0 p1 nq
    go_wp2_with fail
    refine (drawExtract_any a1 len1 cap1 _ h1 (((B1.out.kept (grown_of_below (r := none) HD6.out) (by simp))).mono HD6.out.size)).mono ?_
    rintro e wq ⟨t, c, v, rfl, ht, -, hv, hbel⟩
    have HE : Hid (Below w.heap.size w wq) := HD6.out.trans (hbel.mono HD6.out.size)
    clear hbel B1 HD6
    go_wp2_with fail
    have P1 : Hid _ := BoxP.new wq t c 33
    have HE1 : Hid _ := HE.out.alloc HE.out.size (.cells #[.string t, .int .i64 c] 33)
    clear HE
    generalize wq.alloc (.cells #[.string t, .int .i64 c] 33) = W7 at P1 HE1 ⊢
    have ht' : t.size ≤ 1048576 := by omega
    have hv' : v.size ≤ 1048576 := by omega
    refine (implExtract_any t c v _ ht' hv').mono ?_
    rintro e w8 ⟨rfl, q8⟩
    have P8 : Hid _ := P1.out.below q8
    have HE8 : Hid (Below w.heap.size w w8) := HE1.out.trans (q8.mono HE1.out.size)
    clear q8 P1 HE1
    have HM : Hid (∀ W, Calls Try.prog 21 #[.agg #[.string t, .int .i64 c], .string v] W fun e w' => e = .returned (.agg #[.string (extractV t c v).1, .int .i64 (extractV t c v).2]) ∧ Below W.heap.size W w') := fun W => specExtract_any t c v W ht' hv'
    have HK : Hid ((extractV t c v).2 = 0 → ∀ W, Calls Try.prog 16 #[.agg #[.string t, .int .i64 c], .string (extractV t c v).1] W fun e w' => e = .returned (.agg #[.string v, .int .i64 0]) ∧ Below W.heap.size W w') := fun h W => by
      have hz : (extractV t c v).1.size ≤ 1048576 := extract_out_size t c v
      have := implEmbed_any t c (extractV t c v).1 W ht' hz
      rwa [emb_ext h] at this
    obtain ⟨Y, hY⟩ : ∃ Y, Y = (extractV t c v).1 := ⟨_, rfl⟩
    obtain ⟨D, hD⟩ : ∃ D, D = (extractV t c v).2 := ⟨_, rfl⟩
    rw [← hY, ← hD] at HM HK ⊢
    clear hY hD
    go_wp2_with fail
    have Y9 : Hid _ := BoxP.new w8 Y D 37
    have P9 : Hid _ := P8.out.alloc (.cells #[.string Y, .int .i64 D] 37)
    have HE9 : Hid _ := HE8.out.alloc HE8.out.size (.cells #[.string Y, .int .i64 D] 37)
    clear P8 HE8
    generalize w8.alloc (.cells #[.string Y, .int .i64 D] 37) = W9 at Y9 P9 HE9 ⊢
    have y0 := cell_regrown Y9.out.c0
    have y1 := cell_regrown Y9.out.c1
    have p0 := cell_regrown P9.out.c0
    have p1 := cell_regrown P9.out.c1
    have eq1 := eql_same Y D
    have eq2 := eql_same v 0
    by_cases hD0 : D = 0
    · have HN : Hid (∀ W, Calls Try.prog 16 #[.agg #[.string t, .int .i64 c], .string Y] W fun e w' => e = .returned (.agg #[.string v, .int .i64 0]) ∧ Below W.heap.size W w') := HK.out hD0
      subst hD0
      clear HK
      refine wp_region_quiet_below (by kernel_rfl) (by kernel_rfl) ?_
      repeat (go_big_quiet_step ((first | (go_at_call 21; exact Calls.regrown_of (HM.out _)) | (go_at_call 16; exact Calls.regrown_of (HN.out _)))))
      refine wpQuiet_nil ?_
      rintro w10 ⟨⟨dr, osr⟩, rfl⟩
      go_wp2_with fail
      go_ret
      exact ⟨rfl, HE9.out.trans ((below_regrown W9 dr osr).mono HE9.out.size)⟩
    · have eD : (D == 0) = false := by simp [hD0]
      have eD2 : (D != 0) = true := by simp [hD0]
      clear HK hD0
      refine wp_region_quiet_below (by kernel_rfl) (by kernel_rfl) ?_
      repeat (go_big_quiet_step ((go_at_call 21; exact Calls.regrown_of (HM.out _))))
      refine wpQuiet_nil ?_
      rintro w10 ⟨⟨dr, osr⟩, rfl⟩
      go_wp2_with fail
      go_ret
      exact ⟨rfl, HE9.out.trans ((below_regrown W9 dr osr).mono HE9.out.size)⟩
  · have eC : (C == 0) = false := by simp [hC0]
    clear HK HA HC hC0
    go_wp2_with fail
    clear X4 P4 x0 x1 p0 p1 eC
    refine (drawExtract_any a1 len1 cap1 _ h1 (((B1.out.kept (grown_of_below (r := none) HD4.out) (by simp))).mono HD4.out.size)).mono ?_
    rintro e wq ⟨t, c, v, rfl, ht, -, hv, hbel⟩
    have HE : Hid (Below w.heap.size w wq) := HD4.out.trans (hbel.mono HD4.out.size)
    clear hbel B1 HD4
    go_wp2_with fail
    have P1 : Hid _ := BoxP.new wq t c 33
    have HE1 : Hid _ := HE.out.alloc HE.out.size (.cells #[.string t, .int .i64 c] 33)
    clear HE
    generalize wq.alloc (.cells #[.string t, .int .i64 c] 33) = W7 at P1 HE1 ⊢
    have ht' : t.size ≤ 1048576 := by omega
    have hv' : v.size ≤ 1048576 := by omega
    refine (implExtract_any t c v _ ht' hv').mono ?_
    rintro e w8 ⟨rfl, q8⟩
    have P8 : Hid _ := P1.out.below q8
    have HE8 : Hid (Below w.heap.size w w8) := HE1.out.trans (q8.mono HE1.out.size)
    clear q8 P1 HE1
    have HM : Hid (∀ W, Calls Try.prog 21 #[.agg #[.string t, .int .i64 c], .string v] W fun e w' => e = .returned (.agg #[.string (extractV t c v).1, .int .i64 (extractV t c v).2]) ∧ Below W.heap.size W w') := fun W => specExtract_any t c v W ht' hv'
    have HK : Hid ((extractV t c v).2 = 0 → ∀ W, Calls Try.prog 16 #[.agg #[.string t, .int .i64 c], .string (extractV t c v).1] W fun e w' => e = .returned (.agg #[.string v, .int .i64 0]) ∧ Below W.heap.size W w') := fun h W => by
      have hz : (extractV t c v).1.size ≤ 1048576 := extract_out_size t c v
      have := implEmbed_any t c (extractV t c v).1 W ht' hz
      rwa [emb_ext h] at this
    obtain ⟨Y, hY⟩ : ∃ Y, Y = (extractV t c v).1 := ⟨_, rfl⟩
    obtain ⟨D, hD⟩ : ∃ D, D = (extractV t c v).2 := ⟨_, rfl⟩
    rw [← hY, ← hD] at HM HK ⊢
    clear hY hD
    go_wp2_with fail
    have Y9 : Hid _ := BoxP.new w8 Y D 37
    have P9 : Hid _ := P8.out.alloc (.cells #[.string Y, .int .i64 D] 37)
    have HE9 : Hid _ := HE8.out.alloc HE8.out.size (.cells #[.string Y, .int .i64 D] 37)
    clear P8 HE8
    generalize w8.alloc (.cells #[.string Y, .int .i64 D] 37) = W9 at Y9 P9 HE9 ⊢
    have y0 := cell_regrown Y9.out.c0
    have y1 := cell_regrown Y9.out.c1
    have p0 := cell_regrown P9.out.c0
    have p1 := cell_regrown P9.out.c1
    have eq1 := eql_same Y D
    have eq2 := eql_same v 0
    by_cases hD0 : D = 0
    · have HN : Hid (∀ W, Calls Try.prog 16 #[.agg #[.string t, .int .i64 c], .string Y] W fun e w' => e = .returned (.agg #[.string v, .int .i64 0]) ∧ Below W.heap.size W w') := HK.out hD0
      subst hD0
      clear HK
      refine wp_region_quiet_below (by kernel_rfl) (by kernel_rfl) ?_
      repeat (go_big_quiet_step ((first | (go_at_call 21; exact Calls.regrown_of (HM.out _)) | (go_at_call 16; exact Calls.regrown_of (HN.out _)))))
      refine wpQuiet_nil ?_
      rintro w10 ⟨⟨dr, osr⟩, rfl⟩
      go_wp2_with fail
      go_ret
      exact ⟨rfl, HE9.out.trans ((below_regrown W9 dr osr).mono HE9.out.size)⟩
    · have eD : (D == 0) = false := by simp [hD0]
      have eD2 : (D != 0) = true := by simp [hD0]
      clear HK hD0
      refine wp_region_quiet_below (by kernel_rfl) (by kernel_rfl) ?_
      repeat (go_big_quiet_step ((go_at_call 21; exact Calls.regrown_of (HM.out _))))
      refine wpQuiet_nil ?_
      rintro w10 ⟨⟨dr, osr⟩, rfl⟩
      go_wp2_with fail
      go_ret
      exact ⟨rfl, HE9.out.trans ((below_regrown W9 dr osr).mono HE9.out.size)⟩

end Go.Proofs.Ytebhljogijemoaa
