/- The law FnSum, walked: whatever is drawn, it returns true. -/
import Derived.Test.YtclbjkpbihinkaaSumMath
import Derived.Test.YtclbjkpbihinkaaDrawSum
import Derived.Deep.RegionWith
namespace Go.Proofs.Ytclbjkpbihinkaa
open Go.RowKit Go.PlainAid

/-- A slice of bytes that came in, as the form's reading gives it. -/
theorem bytes_of_row {w : World} {a : Option Addr} {len cap : Nat} {zs : List Int}
    (h : (a = none ∧ len = 0 ∧ cap = 0 ∧ zs = []) ∨ ∃ x, a = some x ∧ len ≤ cap ∧ cap ≤ maxLen ∧ zs.length = cap ∧ (∀ i, i < zs.length → w.cell? (x.add i) = some (.int .u8 (zs.getD i 0))) ∧ ∀ n ∈ zs, (Lit.int .u8 n).wf = true) :
    Bytes w a len w.heap.size := by
  refine ⟨fun i hi => ?_⟩
  rcases h with ⟨_, h0, _⟩ | ⟨⟨b, off, spot⟩, rfl, hl, _, hz, hc, hw⟩
  · omega
  · have hci := hc i (by omega)
    have hsp : spot = none := by
      have := hc 0 (by omega)
      simpa [Addr.add] using World.cell?_spot this
    subst hsp
    have hwf := hw (zs.getD i 0) (by rw [List.getD, List.getElem?_eq_getElem (by omega)]; exact List.getElem_mem _)
    have hbd : 0 ≤ zs.getD i 0 ∧ zs.getD i 0 ≤ 255 := by simpa [Lit.wf, IntKind.min, IntKind.max, IntKind.signed, IntKind.bits] using hwf
    have hci' : w.cell? ⟨b, off + i, none⟩ = some (.int .u8 (zs.getD i 0)) := by
      have e : Addr.add ⟨b, off, none⟩ i = ⟨b, off + i, none⟩ := by simp only [Addr.add]; split <;> simp_all
      rw [← e]; exact hci
    exact ⟨b, off, rfl, World.block_lt_of_cell? w _ hci', zs.getD i 0, hbd.1, hbd.2, hci'⟩

theorem first_trans {a w w' : World} (h : Below a.heap.size a w) (h2 : Below w.heap.size w.drew w') : Below a.heap.size a w' := h.drew.trans (h2.mono h.size)

theorem wordBytes_two (n : Int) (w : World) (h0 : 0 ≤ n) (h1 : n ≤ 65535) :
    Calls Try.prog 8 #[.int .i64 n] w fun e w' => e = .returned (.string (twoV n)) ∧ Below w.heap.size w w' := by
  refine (implWordBytes_any n w).mono ?_
  rw [show wordBytesV n = twoV n from if_pos ⟨h0, h1⟩]
  exact fun _ _ h => h

set_option maxRecDepth 100000 in
set_option maxHeartbeats 2000000 in
theorem sumWalk (a0 : Option Addr) (len0 cap0 : Nat) (a1 : Option Addr) (len1 cap1 : Nat) (w : World) (h0 : len0 ≤ 1048576) (h1 : len1 ≤ 1048576) (b0 : Bytes w a0 len0 w.heap.size) (b1 : Bytes w a1 len1 w.heap.size) :
    Calls Try.prog 3 #[.slice a0 len0 cap0, .slice a1 len1 cap1] w fun e w' => e = .returned (.bool true) ∧ Below w.heap.size w w' := by
  have B0 : Hid (Bytes w a0 len0 w.heap.size) := b0
  have B1 : Hid (Bytes w a1 len1 w.heap.size) := b1
  clear b0 b1
  go_enter Try.func3, Try.ntmps3
  go_wp2_with fail
  refine (drawSum_any a0 len0 cap0 _ h0 B0.out).mono ?_
  rintro e wd ⟨s, rfl, hs, hbel⟩
  have HD : Hid (Below w.heap.size w wd) := hbel
  clear hbel B0
  go_upto_if 25 with fail
  go_cut [5] (fun v wx => ∃ (t : ByteArray) (K : Nat), v = .string t ∧ t.size = 2 * K ∧ K ≤ 11 ∧ wx = wd)
  case first =>
    by_cases h : s.size % 2 = 1
    · have h' : ((s.size : Int) % 2 == 1) = true := by simp; omega
      go_wp2
      all_goals go_meet
      all_goals exact ⟨s ++ ⟨#[0]⟩, (s.size + 1) / 2, rfl, by rw [ByteArray.size_append]; show s.size + 1 = _; omega, by omega, rfl⟩
    · have h' : ((s.size : Int) % 2 == 1) = false := by simp; omega
      go_wp2
      all_goals go_meet
      all_goals exact ⟨s, s.size / 2, rfl, by omega, by omega, rfl⟩
  case rest =>
  obtain ⟨t, K, rfl, ht, hK, rfl⟩ := hcut
  clear hs s
  obtain ⟨S, hS⟩ : ∃ S, S = sumV t := ⟨_, rfl⟩
  have rS : 0 ≤ S ∧ S ≤ 65535 := by rw [hS]; exact sumV_range t
  have HT : Hid (t.size = 2 * K) := ht
  have HS : Hid (S = sumV t) := hS
  have htm : t.size ≤ maxLen := by unfold maxLen; omega
  have hA : Hid (sumA t = S) := by unfold Hid sumA; rw [if_pos (by omega), hS]
  have hR : Hid (sumRightV (t ++ twoV (65535 - S)) = true) := by
    unfold Hid sumRightV sumA
    rw [if_pos (by rw [ByteArray.size_append, twoV_size]; omega), sumV_check t _ K ht (by omega) (by omega), ← hS, add1_full]; rfl
  have htz := twoV_size
  clear hS
  have HM : Hid (t.size ≤ maxLen) := htm
  clear htm
  have ht22 : t.size ≤ 22 := by omega
  clear ht
  go_wp2_with fail
  refine (implSum_any t _ HM.out).mono ?_
  rw [hA.out]
  rintro e w' ⟨rfl, rfl⟩
  go_wp2_with fail
  refine (specSum_any t _ HM.out).mono ?_
  rw [hA.out]
  rintro e w' ⟨rfl, rfl⟩
  go_wp2_with fail
  refine (wordBytes_two (65535 - S) _ (by omega) (by omega)).mono ?_
  rintro e w2 ⟨rfl, hb2⟩
  have HD2 : Hid (Below w.heap.size w w2) := HD.out.trans (hb2.mono HD.out.size)
  clear hb2 HD
  go_wp2_with fail
  refine (implSumRight_any _ _ (by rw [ByteArray.size_append, twoV_size]; unfold maxLen; omega)).mono ?_
  rw [hR.out]
  rintro e w' ⟨rfl, rfl⟩
  go_wp2_with fail
  refine (implSumAdd_any S S _).mono ?_
  rintro e w3 ⟨rfl, hb3⟩
  have HD3 : Hid (Below w.heap.size w w3) := HD2.out.trans (hb3.mono HD2.out.size)
  clear hb3 HD2
  go_wp2_with fail
  refine (specSumAdd_any S S _).mono ?_
  rintro e w3 ⟨rfl, rfl⟩
  by_cases hK0 : K = 0
  · have hz : (t.size : Int) < 2 := by have := HT.out; omega
    go_wp2
    go_ret
    exact ⟨rfl, HD3.out⟩
  have hz : 2 ≤ t.size := by have := HT.out; omega
  have HB : Hid (Bytes w3 a1 len1 w.heap.size) := B1.out.kept (grown_of_below (r := none) HD3.out) (by simp)
  clear B1
  go_wp2_with fail
  refine (lwAt_any a1 len1 cap1 0 ((t.size : Int) / 2) w.heap.size _ (by omega) (by omega) h1 (by omega) HB.out).mono ?_
  rintro e w3 ⟨r, rfl, rfl, r0, r1, r2⟩
  obtain ⟨j, rfl⟩ := Int.eq_ofNat_of_zero_le r0
  have hj : j < K := by have := HT.out; omega
  clear r0 r1 r2
  have HJ : Hid (j < K) := hj
  have hj2 : 2 * j + 2 ≤ t.size := by have := HT.out; omega
  clear hj
  have hW : Hid (wordV t (2 * (j : Int)) = wordN (bt t) (2 * j)) := by
    unfold Hid; rw [show (2 * (j : Int)) = ((2 * j : Nat) : Int) by omega]; exact wordV_yes (by omega) (by omega)
  obtain ⟨O, hO⟩ : ∃ O, O = wordN (bt t) (2 * j) := ⟨_, rfl⟩
  have rO : 0 ≤ O ∧ O ≤ 65535 := by rw [hO]; exact wordN_range (bt_isByte t) _
  have HO : Hid (O = wordN (bt t) (2 * j)) := hO
  clear hO
  go_wp2_with fail
  refine (implWord_any t (2 * (j : Int)) _ HM.out (WalkArith.wf_i64 (by omega))).mono ?_
  rw [hW.out, ← HO.out]
  rintro e w3 ⟨rfl, rfl⟩
  go_wp2_with fail
  refine (lwAt_any a1 len1 cap1 1 256 w.heap.size _ (by omega) (by omega) h1 (by omega) HB.out).mono ?_
  rintro e w3 ⟨x, rfl, rfl, x0, _, x2⟩
  go_wp2_with fail
  refine (lwAt_any a1 len1 cap1 2 256 w.heap.size _ (by omega) (by omega) h1 (by omega) HB.out).mono ?_
  rintro e w3 ⟨y, rfl, rfl, y0, _, y2⟩
  go_upto_region 16 with fail
  have hx1 : ∀ W, (Instr.slice 9 (.string t) none (some (.int .i64 (2 * (j : Int)))) none).run Try.prog W = .ok (.string (t.extract 0 (2 * j))) W := fun W => by
    rw [run_slice_string_h (P := Try.prog) (t := 9) (s := t) (w := W) (ht := Try.underlying9) .i64 (2 * (j : Int)) (by omega) (by omega), show (2 * (j : Int)).toNat = 2 * j by omega]
  have hx2 : ∀ W, (Instr.slice 9 (.string t) (some (.int .i64 (2 * (j : Int) + 2))) none none).run Try.prog W = .ok (.string (t.extract (2 * j + 2) t.size)) W := fun W => by
    rw [run_slice_string_l (P := Try.prog) (t := 9) (s := t) (w := W) (ht := Try.underlying9) .i64 (2 * (j : Int) + 2) (by omega) (by omega), show (2 * (j : Int) + 2).toNat = 2 * j + 2 by omega]
  have z1 : (t.extract 0 (2 * j)).size ≤ 22 := by rw [ByteArray.size_extract]; omega
  have z2 : (t.extract (2 * j + 2) t.size).size ≤ 22 := by rw [ByteArray.size_extract]; omega
  have hx3 : ∀ W, (Op.stringOp .add (t.extract 0 (2 * j)) (twoV (256 * x + y))).run Try.prog W = .ok (.string (t.extract 0 (2 * j) ++ twoV (256 * x + y))) W := fun W => run_string_add_sum W _ _ (by rw [twoV_size]; omega)
  have hx4 : ∀ W, (Op.stringOp .add (t.extract 0 (2 * j) ++ twoV (256 * x + y)) (t.extract (2 * j + 2) t.size)).run Try.prog W = .ok (.string (t.extract 0 (2 * j) ++ twoV (256 * x + y) ++ t.extract (2 * j + 2) t.size)) W := fun W => run_string_add_sum W _ _ (by rw [ByteArray.size_append, twoV_size]; omega)
  clear z1 z2
  have hw2 : wrap64 (2 * (j : Int) + 2) = 2 * (j : Int) + 2 := IntWalk.wrap64_in _ ⟨by omega, by omega⟩
  have hw1 : IntKind.i64.wrap (2 * (j : Int) + 2) = 2 * (j : Int) + 2 := (i64_is _).trans hw2
  have q0 : (0 : Int) ≤ 2 * (j : Int) := by omega
  have q1 : (2 : Int) * (j : Int) ≤ (t.size : Int) := by omega
  have q2 : (0 : Int) ≤ 2 * (j : Int) + 2 := by omega
  have q3 : (2 : Int) * (j : Int) + 2 ≤ (t.size : Int) := by omega
  go_cut [10] (fun v wx => v = .string (turnV t j (256 * x + y)) ∧ Below w.heap.size w wx)
  case first =>
    go_region_with (go_at_call 8; refine (wordBytes_two (256 * x + y) _ (by omega) (by omega)).mono ?_; rintro e w4 ⟨rfl, hb4⟩)
    all_goals go_wp2_with fail
    all_goals go_meet
    all_goals exact ⟨rfl, first_trans HD3.out hb4⟩
  case rest =>
  obtain ⟨rfl, hbel5⟩ := hcut
  have HD5 : Hid (Below w.heap.size w wc) := hbel5
  clear hbel5 HD3 HB hx1 hx2 hx3 hx4 hw1 hw2 q0 q1 q2 q3
  obtain ⟨n, hn⟩ : ∃ n, n = 256 * x + y := ⟨_, rfl⟩
  have rn : 0 ≤ n ∧ n ≤ 65535 := by omega
  rw [← hn]
  have r1 := add1_range rS.1 rS.2 (show 0 ≤ 65535 - O by omega) (by omega)
  have r2 := add1_range r1.1 r1.2 rn.1 rn.2
  obtain ⟨C, hC⟩ : ∃ C, C = 65535 - add1 (add1 S (65535 - O)) n := ⟨_, rfl⟩
  have rC : 0 ≤ C ∧ C ≤ 65535 := by omega
  have hT : Hid (sumTurnV (65535 - S) O n = C) := by
    unfold Hid sumTurnV
    rw [if_pos ⟨by omega, rO, rn⟩, show 65535 - (65535 - S) = S by omega, hC]
  have hu : Hid ((turnV t j n).size = 2 * K) := turn_size HT.out HJ.out
  have hWu : Hid (wordV (turnV t j n) (2 * (j : Int)) = n) := by
    have := hu.out; have := HJ.out
    unfold Hid; rw [show (2 * (j : Int)) = ((2 * j : Nat) : Int) by omega, wordV_yes (by omega) (by omega)]; exact turn_word HT.out HJ.out rn.1 rn.2
  have hRu : Hid (sumV (turnV t j n) = 0 ∨ sumRightV (turnV t j n ++ twoV C) = true) := by
    by_cases hz : sumV (turnV t j n) = 0
    · exact .inl hz
    · have e := turn_right HT.out HJ.out rn.1 rn.2 hz
      have := hu.out
      refine .inr ?_
      unfold sumRightV sumA
      rw [if_pos (by rw [ByteArray.size_append, twoV_size]; omega), hC, HO.out, HS.out, e]; rfl
  have hus : (turnV t j n).size ≤ 22 := by have := hu.out; omega
  have HUM : Hid ((turnV t j n).size ≤ maxLen) := by unfold Hid maxLen; omega
  generalize turnV t j n = u at *
  have hxa : ∀ W, (Op.stringOp .add u (twoV C)).run Try.prog W = .ok (.string (u ++ twoV C)) W := fun W => run_string_add_sum W _ _ (by rw [twoV_size]; omega)
  clear hC r1 r2 hn
  go_wp2_with fail
  refine (implSumTurn_any (65535 - S) O n _).mono ?_
  rw [hT.out]
  rintro e w6 ⟨rfl, hb6⟩
  have HD6 : Hid (Below w.heap.size w w6) := HD5.out.trans (hb6.mono HD5.out.size)
  clear hb6 HD5
  go_wp2_with fail
  refine (implWord_any u (2 * (j : Int)) _ HUM.out (WalkArith.wf_i64 (by omega))).mono ?_
  rw [hWu.out]
  rintro e w6 ⟨rfl, rfl⟩
  go_wp2_with fail
  refine (wordBytes_two C _ rC.1 rC.2).mono ?_
  rintro e w7 ⟨rfl, hb7⟩
  have HD7 : Hid (Below w.heap.size w w7) := HD6.out.trans (hb7.mono HD6.out.size)
  clear hb7 HD6
  go_wp2_with fail
  refine (implSumRight_any (u ++ twoV C) _ (by rw [ByteArray.size_append, twoV_size]; unfold maxLen; omega)).mono ?_
  rcases hRu.out with hz | hz
  · generalize sumRightV (u ++ twoV C) = b
    cases b
    · rintro e w7 ⟨rfl, rfl⟩
      go_wp2_with fail
      refine (specSum_any u _ HUM.out).mono ?_
      rw [show sumA u = 0 by unfold sumA; rw [if_pos (by omega), hz]]
      rintro e w7 ⟨rfl, rfl⟩
      go_wp2
      go_ret
      exact ⟨rfl, HD7.out⟩
    · rintro e w7 ⟨rfl, rfl⟩
      go_wp2
      go_ret
      exact ⟨rfl, HD7.out⟩
  · rw [hz]
    rintro e w7 ⟨rfl, rfl⟩
    go_wp2
    go_ret
    exact ⟨rfl, HD7.out⟩

end Go.Proofs.Ytclbjkpbihinkaa
