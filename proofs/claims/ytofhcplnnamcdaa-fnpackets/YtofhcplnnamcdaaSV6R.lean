/- SV6R: what the specification's V6Read answers. Printed by mksv6r.py. -/
import Derived.Test.YtofhcplnnamcdaaIBox
import Derived.Test.YtofhcplnnamcdaaSmV
import Derived.Test.YtofhcplnnamcdaaBitMath
import Derived.Test.YtofhcplnnamcdaaGrowU
import Derived.Deep.RegionWith
import Derived.Deep.DeepCutAuto
namespace Go.Proofs.Ytofhcplnnamcdaa
open Go.RowKit Go.PlainAid
set_option linter.unusedVariables false
set_option linter.unusedSimpArgs false

def IsBare6 (n : Nat) : Value → World → Prop := fun v w => ∃ B, v = .pointer (some ⟨B, 0, none⟩) ∧ n ≤ B ∧ BoxW6 w B p6Zero
theorem stable_isBare6 (n : Nat) : Stable (IsBare6 n) := fun v w w' ⟨B, h1, h2, h3⟩ hb => ⟨B, h1, h2, h3.kept hb⟩
/-- Where the specification's reader stands. -/
structure SS6 (n : Nat) (w0 : World) (O B : Nat) (w : World) (p : P6) : Prop where
  out : BoxR6 w O
  box : BoxW6 w B p
  bel : Below n w0 w
  nO : n ≤ O
  nB : n ≤ B
  BO : B ≠ O
section
variable {n : Nat} {w0 w W : World} {O B : Nat} {p : P6}
theorem SS6.kept (h : SS6 n w0 O B w p) (hB : Below w.heap.size w W) : SS6 n w0 O B W p :=
  ⟨h.out.kept hB, h.box.kept hB, h.bel.trans (hB.mono (Nat.le_trans h.nO (Nat.le_of_lt (World.block_lt_of_cell? w _ h.out.c0)))), h.nO, h.nB, h.BO⟩
theorem SS6.set0 (h : SS6 n w0 O B w p) (x : Int) : SS6 n w0 O B (w.setCell ⟨B, 0, none⟩ (.int .i64 x)) { p with cls := x } := ⟨h.out.other _ h.BO, h.box.set0 x, h.bel.setCell h.nB _, h.nO, h.nB, h.BO⟩
theorem SS6.set1 (h : SS6 n w0 O B w p) (x : Int) : SS6 n w0 O B (w.setCell ⟨B, 1, none⟩ (.int .i64 x)) { p with flow := x } := ⟨h.out.other _ h.BO, h.box.set1 x, h.bel.setCell h.nB _, h.nO, h.nB, h.BO⟩
theorem SS6.set2 (h : SS6 n w0 O B w p) (x : Int) : SS6 n w0 O B (w.setCell ⟨B, 2, none⟩ (.int .i64 x)) { p with next := x } := ⟨h.out.other _ h.BO, h.box.set2 x, h.bel.setCell h.nB _, h.nO, h.nB, h.BO⟩
theorem SS6.set3 (h : SS6 n w0 O B w p) (x : Int) : SS6 n w0 O B (w.setCell ⟨B, 3, none⟩ (.int .i64 x)) { p with hops := x } := ⟨h.out.other _ h.BO, h.box.set3 x, h.bel.setCell h.nB _, h.nO, h.nB, h.BO⟩
theorem SS6.set4 (h : SS6 n w0 O B w p) (x : ByteArray) : SS6 n w0 O B (w.setCell ⟨B, 4, none⟩ (.string x)) { p with src := x } := ⟨h.out.other _ h.BO, h.box.set4 x, h.bel.setCell h.nB _, h.nO, h.nB, h.BO⟩
theorem SS6.set5 (h : SS6 n w0 O B w p) (x : ByteArray) : SS6 n w0 O B (w.setCell ⟨B, 5, none⟩ (.string x)) { p with dst := x } := ⟨h.out.other _ h.BO, h.box.set5 x, h.bel.setCell h.nB _, h.nO, h.nB, h.BO⟩
theorem SS6.set6 (h : SS6 n w0 O B w p) (x : Bool) : SS6 n w0 O B (w.setCell ⟨B, 6, none⟩ (.bool x)) { p with piece := x } := ⟨h.out.other _ h.BO, h.box.set6 x, h.bel.setCell h.nB _, h.nO, h.nB, h.BO⟩
theorem SS6.set7 (h : SS6 n w0 O B w p) (x : Bool) : SS6 n w0 O B (w.setCell ⟨B, 7, none⟩ (.bool x)) { p with more := x } := ⟨h.out.other _ h.BO, h.box.set7 x, h.bel.setCell h.nB _, h.nO, h.nB, h.BO⟩
theorem SS6.set8 (h : SS6 n w0 O B w p) (x : Int) : SS6 n w0 O B (w.setCell ⟨B, 8, none⟩ (.int .i64 x)) { p with off := x } := ⟨h.out.other _ h.BO, h.box.set8 x, h.bel.setCell h.nB _, h.nO, h.nB, h.BO⟩
theorem SS6.set9 (h : SS6 n w0 O B w p) (x : Int) : SS6 n w0 O B (w.setCell ⟨B, 9, none⟩ (.int .i64 x)) { p with id := x } := ⟨h.out.other _ h.BO, h.box.set9 x, h.bel.setCell h.nB _, h.nO, h.nB, h.BO⟩
theorem SS6.set10 (h : SS6 n w0 O B w p) (x : ByteArray) : SS6 n w0 O B (w.setCell ⟨B, 10, none⟩ (.string x)) { p with data := x } := ⟨h.out.other _ h.BO, h.box.set10 x, h.bel.setCell h.nB _, h.nO, h.nB, h.BO⟩
end
theorem read6_bad {t : ByteArray} {c : Int} (h : v6CodeV t = c) (hc : c ≠ 0) : p6CO (v6ReadV t) (v6CodeV t) = zr6 c := by
  unfold v6ReadV; rw [h, if_neg hc]; rfl
theorem read6_ok {t : ByteArray} (h : v6CodeV t = 0) : p6CO (v6ReadV t) (v6CodeV t) = p6CO (v6Cut t) 0 := by
  unfold v6ReadV; rw [h, if_pos rfl]
theorem and1_u8 (x : Int) (h0 : 0 ≤ x) (h1 : x ≤ 255) : bits .and .u8 x 1 = x % 2 := by
  have h := bits_mask .u8 8 (by decide) (fun n h0 h1 => by rw [IntKind.wrap_u8]; omega) 1 (by decide) x h0 (by omega)
  rw [show ((2 : Int) ^ 1 - 1) = 1 by decide, show ((2 : Int) ^ 1) = 2 by decide] at h
  exact h
theorem join16 (a b : Int) (ha : 0 ≤ a) (ha' : a ≤ 65535) (hb : 0 ≤ b) (hb' : b ≤ 65535) : bits .or .i64 (a * 65536) b = a * 65536 + b :=
  bits_join .i64 63 (by decide) wraps_i64 16 (a * 65536) b (by omega) (by omega) (by omega) hb (by omega) (by omega)
theorem str_slice6 (t : ByteArray) (l h : Nat) (W : World) (h1 : l ≤ h) (h2 : h ≤ t.size) : (Instr.slice 9 (.string t) (some (.int .i64 l)) (some (.int .i64 h)) none).run Try.prog W = .ok (.string (t.extract l h)) W := by
  have := run_slice_string (P := Try.prog) W 9 t .i64 .i64 (l : Int) (h : Int) Try.underlying9 (by omega) (by omega) (by omega)
  simpa using this

set_option maxRecDepth 100000 in
set_option maxHeartbeats 4000000 in
theorem specV6Read_any (t : ByteArray) (w : World) (hs : t.size ≤ 1048576) :
    Calls Try.prog 47 #[.string t] w fun e w' => e = .returned (p6CO (v6ReadV t) (v6CodeV t)) ∧ Below w.heap.size w w' := by
  have HZ : Hid (Below w.heap.size w (w.alloc (.cells #[.int .i64 0, .int .i64 0, .int .i64 0, .int .i64 0, .string ⟨#[]⟩, .string ⟨#[]⟩, .bool false, .bool false, .int .i64 0, .int .i64 0, .string ⟨#[]⟩, .int .i64 0] 69))) := (Below.refl _ _).alloc (Nat.le_refl _) _
  have KZ : Hid (BoxR6 (w.alloc (.cells #[.int .i64 0, .int .i64 0, .int .i64 0, .int .i64 0, .string ⟨#[]⟩, .string ⟨#[]⟩, .bool false, .bool false, .int .i64 0, .int .i64 0, .string ⟨#[]⟩, .int .i64 0] 69)) w.heap.size) := BoxR6.new w
  have HBad : Hid (∀ c : Int, v6CodeV t = c → c ≠ 0 → p6CO (v6ReadV t) (v6CodeV t) = zr6 c) := fun c h hc => read6_bad h hc
  have HOk : Hid (v6CodeV t = 0 → p6CO (v6ReadV t) (v6CodeV t) = p6CO (v6Cut t) 0) := read6_ok
  have HCode : Hid (v6CodeV t = if 20000 < t.size then 2 else if t.size < 40 then 4 else if bt t 0 / 16 ≠ 6 then 3 else if (t.size : Int) < 40 + wordN (bt t) 4 ∨ (bt t 6 = 44 ∧ wordN (bt t) 4 < 8) then 4 else if v6Ok (v6Cut t) then 0 else 1) := rfl
  have HCut1 : Hid (bt t 6 = 44 → v6Cut t = ⟨(wordN (bt t) 0 * 65536 + wordN (bt t) 2) / 1048576 % 256, (wordN (bt t) 0 * 65536 + wordN (bt t) 2) % 1048576, bt t 40, bt t 7, t.extract 8 24, t.extract 24 40, true, decide (bt t 43 % 2 = 1), wordN (bt t) 42 / 8, wordN (bt t) 44 * 65536 + wordN (bt t) 46, t.extract 48 (40 + (wordN (bt t) 4).toNat)⟩) := fun h => by unfold v6Cut; rw [if_pos h]
  have HCut2 : Hid (¬ bt t 6 = 44 → v6Cut t = ⟨(wordN (bt t) 0 * 65536 + wordN (bt t) 2) / 1048576 % 256, (wordN (bt t) 0 * 65536 + wordN (bt t) 2) % 1048576, bt t 6, bt t 7, t.extract 8 24, t.extract 24 40, false, false, 0, 0, t.extract 40 (40 + (wordN (bt t) 4).toNat)⟩) := fun h => by unfold v6Cut; rw [if_neg h]
  generalize p6CO (v6ReadV t) (v6CodeV t) = ans at *
  generalize v6CodeV t = code at *
  by_cases g1 : 20000 < t.size
  · have g1' : (20000 : Int) < t.size := by omega
    have HV : Hid (ans = zr6 2) := HBad.out 2 (by rw [HCode.out, if_pos g1]) (by decide)
    clear HBad HOk HCode HCut1 HCut2
    go_enter Try.func47, Try.ntmps47
    go_wp2_with fail
    exact bodyPost_ret (v := zr6 2) (by simp [results, Try.results47, go_sem, zr6]) rfl ⟨by rw [HV.out], (Below.refl _ _).alloc (Nat.le_refl _) _⟩
  have g1' : ¬ (20000 : Int) < t.size := by omega
  by_cases g2 : t.size < 40
  · have g2' : (t.size : Int) < 40 := by omega
    have HV : Hid (ans = zr6 4) := HBad.out 4 (by rw [HCode.out, if_neg g1, if_pos g2]) (by decide)
    clear HBad HOk HCode HCut1 HCut2
    go_enter Try.func47, Try.ntmps47
    go_wp2_with fail
    exact bodyPost_ret (v := zr6 4) (by simp [results, Try.results47, go_sem, zr6]) rfl ⟨by rw [HV.out], (Below.refl _ _).alloc (Nat.le_refl _) _⟩
  have g2' : ¬ (t.size : Int) < 40 := by omega
  rw [if_neg g1, if_neg g2] at HCode
  have hb := get_bt t
  have b0 := bt_isByte t 0
  have b6 := bt_isByte t 6
  have b7 := bt_isByte t 7
  by_cases g3 : bt t 0 / 16 = 6
  rotate_left
  · have d3 : (bt t 0 / 16 != 6) = true := by simp [g3]
    have HV : Hid (ans = zr6 3) := HBad.out 3 (by rw [HCode.out, if_pos g3]) (by decide)
    clear HBad HOk HCode HCut1 HCut2
    go_enter Try.func47, Try.ntmps47
    go_wp2_with fail
    exact bodyPost_ret (v := zr6 3) (by simp [results, Try.results47, go_sem, zr6]) rfl ⟨by rw [HV.out], (Below.refl _ _).alloc (Nat.le_refl _) _⟩
  have d3 : (bt t 0 / 16 != 6) = false := by simp [g3]
  rw [if_neg (by omega)] at HCode
  have HC : Hid (∀ k : Nat, k + 1 < t.size → ∀ W, Calls Try.prog 100 #[.string t, .int .i64 k] W fun e w' => e = .returned (.int .i64 (wordN (bt t) k)) ∧ Below W.heap.size W w') := fun k hk W => specAt_any t k W (by omega) (by unfold maxLen; omega)
  have HC4 : Hid _ := HC.out 4 (by omega)
  have HC0 : Hid _ := HC.out 0 (by omega)
  have HC2 : Hid _ := HC.out 2 (by omega)
  have r4 := wordN_range (bt_isByte t) 4
  have r0 := wordN_range (bt_isByte t) 0
  have r2 := wordN_range (bt_isByte t) 2
  go_enter Try.func47, Try.ntmps47
  go_wp2_with fail
  refine Calls.mono (HC4.out _) ?_
  rintro e w1 ⟨rfl, q1⟩
  have G1 : Hid (Below w.heap.size w w1) := HZ.out.trans (q1.mono HZ.out.size)
  have K1 : Hid (BoxR6 w1 w.heap.size) := KZ.out.kept q1
  clear q1 HZ KZ HC4 d3
  obtain ⟨an, han⟩ : ∃ n : Nat, wordN (bt t) 4 = (n : Int) := ⟨(wordN (bt t) 4).toNat, by omega⟩
  rw [han] at HCode HCut1 HCut2 r4 ⊢
  rw [show ((an : Int)).toNat = an by omega] at HCut1 HCut2
  clear han
  by_cases g4 : (t.size : Int) < 40 + (an : Int)
  · have HV : Hid (ans = zr6 4) := HBad.out 4 (by rw [HCode.out, if_pos (Or.inl g4)]) (by decide)
    obtain ⟨o0, y0, o1, y1, o2, y2, o3, y3, o4, y4, o5, y5, o6, y6, o7, y7, o8, y8, o9, y9, o10, y10, o11, y11⟩ := K1.out
    clear HBad HOk HCode HCut1 HCut2
    have hun : undef = Value.tuple #[] := rfl
    go_wp2_with fail
    exact bodyPost_ret (v := zr6 4) (by simp [results, Try.results47, go_sem, zr6, o0, o1, o2, o3, o4, o5, o6, o7, o8, o9, o10, o11]) rfl ⟨by rw [HV.out], ((((((((((((G1.out.setCell (Nat.le_refl _) _).setCell (Nat.le_refl _) _).setCell (Nat.le_refl _) _).setCell (Nat.le_refl _) _).setCell (Nat.le_refl _) _).setCell (Nat.le_refl _) _).setCell (Nat.le_refl _) _).setCell (Nat.le_refl _) _).setCell (Nat.le_refl _) _).setCell (Nat.le_refl _) _).setCell (Nat.le_refl _) _).setCell (Nat.le_refl _) _)⟩
  by_cases g5 : bt t 6 = 44 ∧ (an : Int) < 8
  · have HV : Hid (ans = zr6 4) := HBad.out 4 (by rw [HCode.out, if_pos (Or.inr g5)]) (by decide)
    obtain ⟨g5a, g5b⟩ := g5
    have d44 : (bt t 6 == 44) = true := by simp [g5a]
    obtain ⟨o0, y0, o1, y1, o2, y2, o3, y3, o4, y4, o5, y5, o6, y6, o7, y7, o8, y8, o9, y9, o10, y10, o11, y11⟩ := K1.out
    clear HBad HOk HCode HCut1 HCut2 g5a
    go_wp2_with fail
    exact bodyPost_ret (v := zr6 4) (by simp [results, Try.results47, go_sem, zr6, o0, o1, o2, o3, o4, o5, o6, o7, o8, o9, o10, o11]) rfl ⟨by rw [HV.out], ((((((((((((G1.out.setCell (Nat.le_refl _) _).setCell (Nat.le_refl _) _).setCell (Nat.le_refl _) _).setCell (Nat.le_refl _) _).setCell (Nat.le_refl _) _).setCell (Nat.le_refl _) _).setCell (Nat.le_refl _) _).setCell (Nat.le_refl _) _).setCell (Nat.le_refl _) _).setCell (Nat.le_refl _) _).setCell (Nat.le_refl _) _).setCell (Nat.le_refl _) _)⟩
  rw [if_neg (by rintro (h | h); (· exact g4 h); (· exact g5 h))] at HCode
  have j0 := join16 (wordN (bt t) 0) (wordN (bt t) 2) r0.1 r0.2 r2.1 r2.2
  have G5 : Hid (bt t 6 = 44 → 8 ≤ an) := fun h => by
    by_cases h8 : 8 ≤ an
    · exact h8
    · exact absurd ⟨h, by omega⟩ g5
  have GS : Hid (40 + an ≤ t.size) := by unfold Hid; omega
  have hun : undef = Value.tuple #[] := rfl
  have d4 : decide ((t.size : Int) < 40 + (an : Int)) = false := decide_eq_false g4
  go_upto_region 8 with fail
  go_cut [34] (fun v wx => v = .bool false ∧ w1 = wx)
  case first =>
    by_cases h44 : bt t 6 = 44
    · have d44 : (bt t 6 == 44) = true := by simp [h44]
      have d8 : ¬ (an : Int) < 8 := by have := G5.out h44; omega
      clear h44 g5
      go_wp2_with fail
      go_meet
      exact ⟨rfl, rfl⟩
    · have d44 : (bt t 6 == 44) = false := by simp [h44]
      clear g5
      go_wp2_with fail
      go_meet
      exact ⟨rfl, rfl⟩
  case rest =>
  obtain ⟨rfl, rfl⟩ := hcut
  clear hun g4 g5 d4
  go_wp2_with fail
  refine Calls.mono (HC0.out _) ?_
  rintro e w2 ⟨rfl, q2⟩
  have G2 : Hid (Below w.heap.size w w2) := G1.out.trans (q2.mono G1.out.size)
  have K2 : Hid (BoxR6 w2 w.heap.size) := K1.out.kept q2
  clear q2 G1 K1 HC0
  go_wp2_with fail
  refine Calls.mono (HC2.out _) ?_
  rintro e w3 ⟨rfl, q3⟩
  have G3 : Hid (Below w.heap.size w w3) := G2.out.trans (q3.mono G2.out.size)
  have K3 : Hid (BoxR6 w3 w.heap.size) := K2.out.kept q3
  clear q3 G2 K2 HC2
  have hfr : 0 ≤ wordN (bt t) 0 * 65536 + wordN (bt t) 2 ∧ wordN (bt t) 0 * 65536 + wordN (bt t) 2 ≤ 4294967295 := by omega
  go_upto_region 11 with fail
  generalize wordN (bt t) 0 * 65536 + wordN (bt t) 2 = first at *
  clear j0 r0 r2
  have m3 : bits .and .i64 (first / 1048576) 255 = first / 1048576 % 256 := mask_k 8 (by decide) _ (by omega) (by omega)
  have m4 : bits .and .i64 first 1048575 = first % 1048576 := mask_k 20 (by decide) _ (by omega) (by omega)
  have i6 : (6 : Int) < t.size := by omega
  have i7 : (7 : Int) < t.size := by omega
  have L1 : ∀ W, (Instr.slice 9 (.string t) (some (.int .i64 8)) (some (.int .i64 24)) none).run Try.prog W = .ok (.string (t.extract 8 24)) W := fun W => str_slice6 t 8 24 W (by omega) (by omega)
  have L2 : ∀ W, (Instr.slice 9 (.string t) (some (.int .i64 24)) (some (.int .i64 40)) none).run Try.prog W = .ok (.string (t.extract 24 40)) W := fun W => str_slice6 t 24 40 W (by omega) (by omega)
  have L3 : ∀ W, (Instr.slice 9 (.string t) (some (.int .i64 40)) (some (.int .i64 (40 + (an : Int)))) none).run Try.prog W = .ok (.string (t.extract 40 (40 + an))) W := fun W => by
    have := str_slice6 t 40 (40 + an) W (by omega) GS.out
    simpa using this
  go_cut [5] (fun v wx => ∃ B, v = .pointer (some ⟨B, 0, none⟩) ∧ SS6 w.heap.size w w.heap.size B wx ⟨first / 1048576 % 256, first % 1048576, bt t 6, bt t 7, t.extract 8 24, t.extract 24 40, false, false, 0, 0, t.extract 40 (40 + an)⟩)
  case first =>
    rename_i J K9 hJ hK9
    refine wp_region_growU (Rs := [IsV (.int .i64 first), IsV (.int .i64 (first / 1048576)), IsV (.int .i64 (first / 1048576 % 256)), IsV (.int .i64 first), IsV (.int .i64 (first % 1048576)), IsV (.string t), IsV (.int .u8 (bt t 6)), IsV (.int .i64 (bt t 6)), IsV (.string t), IsV (.int .u8 (bt t 7)), IsV (.int .i64 (bt t 7)), IsV (.string t), IsV (.string (t.extract 8 24)), IsV (.string t), IsV (.string (t.extract 24 40)), IsV (.string t), IsV (.int .i64 (an : Int)), IsV (.int .i64 (40 + (an : Int))), IsV (.string (t.extract 40 (40 + an))), IsV (.agg #[.int .i64 (first / 1048576 % 256), .int .i64 (first % 1048576), .int .i64 (bt t 6), .int .i64 (bt t 7), .string (t.extract 8 24), .string (t.extract 24 40), .bool false, .bool false, .int .i64 0, .int .i64 0, .string (t.extract 40 (40 + an))]), IsBare6 w3.heap.size]) [42, 43, 44, 45, 46, 47, 48, 49, 50, 51, 52, 53, 54, 55, 56, 57, 58, 59, 60, 61, 5] _ (by kernel_rfl) rfl (by kernel_rfl) rfl ?st ?steps ?lst
    case st => simp [stable_isV, stable_isBare6]
    case steps =>
      refine ⟨?s0, ?s1, ?s2, ?s3, ?s4, ?s5, ?s6, ?s7, ?s8, ?s9, ?s10, ?s11, ?s12, ?s13, ?s14, ?s15, ?s16, ?s17, ?s18, ?s19, ?s20, trivial⟩
      case s0 =>
        intro K' a wy ho hd hb2 hK
        have h3 := ho 4 (by decide)
        simp [slot] at h3
        clear hd
        go_simp
        try go_bits
        exact hK _ _ rfl (Below.refl _ _)
      case s1 =>
        intro K' a wy ho hd hb2 hK
        simp [Region.binds, rAt, IsV, slot] at hd
        go_simp
        try go_bits
        exact hK _ _ rfl (Below.refl _ _)
      case s2 =>
        intro K' a wy ho hd hb2 hK
        simp [Region.binds, rAt, IsV, slot] at hd
        go_simp
        try go_bits
        exact hK _ _ rfl (Below.refl _ _)
      case s3 =>
        intro K' a wy ho hd hb2 hK
        have h3 := ho 4 (by decide)
        simp [slot] at h3
        clear hd
        go_simp
        try go_bits
        exact hK _ _ rfl (Below.refl _ _)
      case s4 =>
        intro K' a wy ho hd hb2 hK
        simp [Region.binds, rAt, IsV, slot] at hd
        go_simp
        try go_bits
        exact hK _ _ rfl (Below.refl _ _)
      case s5 =>
        intro K' a wy ho hd hb2 hK
        have h3 := ho 0 (by decide)
        simp [slot] at h3
        clear hd
        go_simp
        try go_bits
        exact hK _ _ rfl (Below.refl _ _)
      case s6 =>
        intro K' a wy ho hd hb2 hK
        simp [Region.binds, rAt, IsV, slot] at hd
        go_simp
        try go_bits
        exact hK _ _ rfl (Below.refl _ _)
      case s7 =>
        intro K' a wy ho hd hb2 hK
        simp [Region.binds, rAt, IsV, slot] at hd
        go_simp
        try go_bits
        exact hK _ _ rfl (Below.refl _ _)
      case s8 =>
        intro K' a wy ho hd hb2 hK
        have h3 := ho 0 (by decide)
        simp [slot] at h3
        clear hd
        go_simp
        try go_bits
        exact hK _ _ rfl (Below.refl _ _)
      case s9 =>
        intro K' a wy ho hd hb2 hK
        simp [Region.binds, rAt, IsV, slot] at hd
        go_simp
        try go_bits
        exact hK _ _ rfl (Below.refl _ _)
      case s10 =>
        intro K' a wy ho hd hb2 hK
        simp [Region.binds, rAt, IsV, slot] at hd
        go_simp
        try go_bits
        exact hK _ _ rfl (Below.refl _ _)
      case s11 =>
        intro K' a wy ho hd hb2 hK
        have h3 := ho 0 (by decide)
        simp [slot] at h3
        clear hd
        go_simp
        try go_bits
        exact hK _ _ rfl (Below.refl _ _)
      case s12 =>
        intro K' a wy ho hd hb2 hK
        simp [Region.binds, rAt, IsV, slot] at hd
        go_simp
        try go_bits
        exact hK _ _ rfl (Below.refl _ _)
      case s13 =>
        intro K' a wy ho hd hb2 hK
        have h3 := ho 0 (by decide)
        simp [slot] at h3
        clear hd
        go_simp
        try go_bits
        exact hK _ _ rfl (Below.refl _ _)
      case s14 =>
        intro K' a wy ho hd hb2 hK
        simp [Region.binds, rAt, IsV, slot] at hd
        go_simp
        try go_bits
        exact hK _ _ rfl (Below.refl _ _)
      case s15 =>
        intro K' a wy ho hd hb2 hK
        have h3 := ho 0 (by decide)
        simp [slot] at h3
        clear hd
        go_simp
        try go_bits
        exact hK _ _ rfl (Below.refl _ _)
      case s16 =>
        intro K' a wy ho hd hb2 hK
        have h3 := ho 3 (by decide)
        simp [slot] at h3
        clear hd
        go_simp
        try go_bits
        exact hK _ _ rfl (Below.refl _ _)
      case s17 =>
        intro K' a wy ho hd hb2 hK
        simp [Region.binds, rAt, IsV, slot] at hd
        go_simp
        try go_bits
        exact hK _ _ rfl (Below.refl _ _)
      case s18 =>
        intro K' a wy ho hd hb2 hK
        simp [Region.binds, rAt, IsV, slot] at hd
        go_simp
        try go_bits
        exact hK _ _ rfl (Below.refl _ _)
      case s19 =>
        intro K' a wy ho hd hb2 hK
        simp [Region.binds, rAt, IsV, slot] at hd
        go_simp
        try go_bits
        exact hK _ _ rfl (Below.refl _ _)
      case s20 =>
        intro K' a wy ho hd hb2 hK
        go_simp
        exact hK _ _ ⟨wy.heap.size, rfl, hb2.size, BoxW6.new wy⟩ ((Below.refl _ _).alloc (Nat.le_refl _) _)
    case lst =>
      intro X a K' wz ha hsl hR hb3 hK
      have HAct : Hid (a = _) := ha
      clear ha
      obtain ⟨z0, z1, z2, z3, z4, z5, z6, z7, z8, z9, z10, z11, z12, z13, z14, z15, z16, z17, z18, z19, ⟨B, z20, hB, hz⟩, -⟩ := hR
      simp only [IsV] at z0 z1 z2 z3 z4 z5 z6 z7 z8 z9 z10 z11 z12 z13 z14 z15 z16 z17 z18 z19
      have s5 := hsl 20 (by decide)
      have s61 := hsl 19 (by decide)
      rw [z20] at s5
      rw [z19] at s61
      simp [slot] at s5 s61
      clear hsl
      have hw3 : Below w3.heap.size w3 wz := (Below.refl _ w3).drew.trans hb3
      have hlt3 := World.block_lt_of_cell? w3 _ K3.out.c0
      have hne : B ≠ w.heap.size := by simp only at hlt3; omega
      have SB : SS6 w.heap.size w w.heap.size B wz p6Zero := ⟨K3.out.kept hw3, hz, G3.out.trans (hw3.mono G3.out.size), Nat.le_refl _, Nat.le_trans G3.out.size hB, hne⟩
      have HS : Hid (SS6 w.heap.size w w.heap.size B _ ⟨first / 1048576 % 256, first % 1048576, bt t 6, bt t 7, t.extract 8 24, t.extract 24 40, false, false, 0, 0, t.extract 40 (40 + an)⟩) := (((((((((((SB.set0 (first / 1048576 % 256)).set1 (first % 1048576)).set2 (bt t 6)).set3 (bt t 7)).set4 (t.extract 8 24)).set5 (t.extract 24 40)).set6 (false)).set7 (false)).set8 (0)).set9 (0)).set10 (t.extract 40 (40 + an)))
      obtain ⟨c0, f0, c1, f1, c2, f2, c3, f3, c4, f4, c5, f5, c6, f6, c7, f7, c8, f8, c9, f9, c10, f10⟩ := hz
      dsimp only [p6Zero] at c0 c1 c2 c3 c4 c5 c6 c7 c8 c9 c10
      clear SB
      go_simp
      refine hK _ _ ?_
      rw [HAct.out]
      simp only [putsFrom, z0, z1, z2, z3, z4, z5, z6, z7, z8, z9, z10, z11, z12, z13, z14, z15, z16, z17, z18, z19, z20]
      clear z0 z1 z2 z3 z4 z5 z6 z7 z8 z9 z10 z11 z12 z13 z14 z15 z16 z17 z18 z19 z20
      go_simp
      refine hK9 _ _ (hJ _ _ ?_)
      (repeat apply Exists.intro)
      refine ⟨⟨B, rfl, HS.out⟩, rfl⟩
  case rest =>
  obtain ⟨B, rfl, hSS⟩ := hcut
  have SX : Hid _ := hSS
  clear hSS K3 G3 m3 m4 L1 L2 L3
  have c2 := SX.out.box.c2
  dsimp only at c2
  by_cases h44 : bt t 6 = 44
  rotate_left
  · have d44 : (bt t 6 == 44) = false := by simp [h44]
    have HCu : Hid _ := HCut2.out h44
    clear HCut1 HCut2 HC
    go_upto_region 19 with fail
    have hok : Hid (∀ Wx, Calls Try.prog 91 #[p6C ⟨first / 1048576 % 256, first % 1048576, bt t 6, bt t 7, t.extract 8 24, t.extract 24 40, false, false, 0, 0, t.extract 40 (40 + an)⟩] Wx fun e w' => e = .returned (.bool (v6Ok (v6Cut t))) ∧ Below Wx.heap.size Wx w') := fun Wx => by
      have := specV6Right_any ⟨first / 1048576 % 256, first % 1048576, bt t 6, bt t 7, t.extract 8 24, t.extract 24 40, false, false, 0, 0, t.extract 40 (40 + an)⟩ Wx (by simp only [ByteArray.size_extract]; omega) (by simp only [ByteArray.size_extract]; omega) (by simp only [ByteArray.size_extract]; omega)
      rw [HCu.out]; exact this
    have HOk2 : Hid (code = 0 → ans = p6CO ⟨first / 1048576 % 256, first % 1048576, bt t 6, bt t 7, t.extract 8 24, t.extract 24 40, false, false, 0, 0, t.extract 40 (40 + an)⟩ 0) := fun hc => by rw [HOk.out hc, HCu.out]
    clear HOk HCu
    generalize v6Ok (v6Cut t) = ok at *
    unfold p6C at hok
    dsimp only at hok
    obtain ⟨c0, f0, c1, f1, c2, f2, c3, f3, c4, f4, c5, f5, c6, f6, c7, f7, c8, f8, c9, f9, c10, f10⟩ := SX.out.box
    dsimp only at c0 c1 c2 c3 c4 c5 c6 c7 c8 c9 c10
    go_wp2_with fail
    refine Calls.mono (hok.out _) ?_
    rintro e Z3 ⟨rfl, q⟩
    clear c0 f0 c1 f1 c2 f2 c3 f3 c4 f4 c5 f5 c6 f6 c7 f7 c8 f8 c9 f9 c10 f10
    have SY : Hid _ := SX.out.kept q
    clear q SX hok
    obtain ⟨o0, y0, o1, y1, o2, y2, o3, y3, o4, y4, o5, y5, o6, y6, o7, y7, o8, y8, o9, y9, o10, y10, o11, y11⟩ := SY.out.out
    cases ok with
    | false =>
      have HV : Hid (ans = zr6 1) := HBad.out 1 (by rw [HCode.out]; rfl) (by decide)
      clear HBad HOk2 HCode
      go_wp2_with fail
      exact bodyPost_ret (v := zr6 1) (by simp [results, Try.results47, go_sem, zr6, o0, o1, o2, o3, o4, o5, o6, o7, o8, o9, o10, o11]) rfl ⟨by rw [HV.out], ((((((((((((SY.out.bel.setCell SY.out.nO _).setCell SY.out.nO _).setCell SY.out.nO _).setCell SY.out.nO _).setCell SY.out.nO _).setCell SY.out.nO _).setCell SY.out.nO _).setCell SY.out.nO _).setCell SY.out.nO _).setCell SY.out.nO _).setCell SY.out.nO _).setCell SY.out.nO _)⟩
    | true =>
      have HV : Hid (ans = _) := HOk2.out (by rw [HCode.out]; rfl)
      obtain ⟨c0, f0, c1, f1, c2, f2, c3, f3, c4, f4, c5, f5, c6, f6, c7, f7, c8, f8, c9, f9, c10, f10⟩ := SY.out.box
      dsimp only at c0 c1 c2 c3 c4 c5 c6 c7 c8 c9 c10
      clear HBad HOk2 HCode
      go_wp2_with fail
      exact bodyPost_ret (v := .agg #[.int .i64 (first / 1048576 % 256), .int .i64 (first % 1048576), .int .i64 (bt t 6), .int .i64 (bt t 7), .string (t.extract 8 24), .string (t.extract 24 40), .bool (false), .bool (false), .int .i64 (0), .int .i64 (0), .string (t.extract 40 (40 + an)), .int .i64 0]) (by simp [results, Try.results47, go_sem, o0, o1, o2, o3, o4, o5, o6, o7, o8, o9, o10, o11]) rfl ⟨by rw [HV.out]; rfl, ((((((((((((SY.out.bel.setCell SY.out.nO _).setCell SY.out.nO _).setCell SY.out.nO _).setCell SY.out.nO _).setCell SY.out.nO _).setCell SY.out.nO _).setCell SY.out.nO _).setCell SY.out.nO _).setCell SY.out.nO _).setCell SY.out.nO _).setCell SY.out.nO _).setCell SY.out.nO _)⟩
  have d44 : (bt t 6 == 44) = true := by simp [h44]
  have HCu : Hid _ := HCut1.out h44
  have h8 := G5.out h44
  have hgs := GS.out
  have HC42 : Hid _ := HC.out 42 (by omega)
  have HC44 : Hid _ := HC.out 44 (by omega)
  have HC46 : Hid _ := HC.out 46 (by omega)
  have b40 := bt_isByte t 40
  have b43 := bt_isByte t 43
  have r42 := wordN_range (bt_isByte t) 42
  have r44 := wordN_range (bt_isByte t) 44
  have r46 := wordN_range (bt_isByte t) 46
  have j44 := join16 (wordN (bt t) 44) (wordN (bt t) 46) r44.1 r44.2 r46.1 r46.2
  have a43 := and1_u8 (bt t 43) b43.1 b43.2
  have i40 : (40 : Int) < t.size := by omega
  have i43 : (43 : Int) < t.size := by omega
  have L4 : ∀ W, (Instr.slice 9 (.string t) (some (.int .i64 48)) (some (.int .i64 (40 + (an : Int)))) none).run Try.prog W = .ok (.string (t.extract 48 (40 + an))) W := fun W => by
    have := str_slice6 t 48 (40 + an) W (by omega) GS.out
    simpa using this
  clear HCut1 HCut2 HC h44 hgs
  have f6 := SX.out.box.f6
  have c6 := SX.out.box.c6
  have S1 : Hid _ := SX.out.set6 true
  go_upto_region 14 with fail
  generalize wc.setCell ⟨B, 6, none⟩ (.bool true) = Y1 at *
  clear c6 f6 c2 d44 SX
  have c2 := S1.out.box.c2
  have f2 := S1.out.box.f2
  have S2 : Hid _ := S1.out.set2 (bt t 40)
  go_upto_region 15 with fail
  generalize Y1.setCell ⟨B, 2, none⟩ (.int .i64 (bt t 40)) = Y2 at *
  clear c2 f2 S1
  go_wp2_with fail
  refine Calls.mono (HC42.out _) ?_
  rintro e Y3 ⟨rfl, q⟩
  have S3 : Hid _ := S2.out.kept q
  clear q S2 HC42
  have c8 := S3.out.box.c8
  have f8 := S3.out.box.f8
  have S4 : Hid _ := S3.out.set8 (wordN (bt t) 42 / 8)
  go_upto_region 16 with fail
  generalize Y3.setCell ⟨B, 8, none⟩ (.int .i64 (wordN (bt t) 42 / 8)) = Y4 at *
  clear c8 f8 S3
  have c7 := S4.out.box.c7
  have f7 := S4.out.box.f7
  have S5 : Hid _ := S4.out.set7 (decide (bt t 43 % 2 = 1))
  have dm : (bt t 43 % 2 == 1) = decide (bt t 43 % 2 = 1) := rfl
  go_upto_region 17 with fail
  generalize Y4.setCell ⟨B, 7, none⟩ (.bool (decide (bt t 43 % 2 = 1))) = Y5 at *
  clear c7 f7 S4 dm a43
  go_wp2_with fail
  refine Calls.mono (HC44.out _) ?_
  rintro e Y6 ⟨rfl, q⟩
  have S6 : Hid _ := S5.out.kept q
  clear q S5 HC44
  go_wp2_with fail
  refine Calls.mono (HC46.out _) ?_
  rintro e Y7 ⟨rfl, q⟩
  have S7 : Hid _ := S6.out.kept q
  clear q S6 HC46
  have c9 := S7.out.box.c9
  have f9 := S7.out.box.f9
  have S8 : Hid _ := S7.out.set9 (wordN (bt t) 44 * 65536 + wordN (bt t) 46)
  go_upto_region 18 with fail
  generalize Y7.setCell ⟨B, 9, none⟩ (.int .i64 (wordN (bt t) 44 * 65536 + wordN (bt t) 46)) = Y8 at *
  clear c9 f9 S7 j44
  have c10 := S8.out.box.c10
  have f10 := S8.out.box.f10
  have SX : Hid (SS6 w.heap.size w w.heap.size B (Y8.setCell ⟨B, 10, none⟩ (.string (t.extract 48 (40 + an)))) ⟨first / 1048576 % 256, first % 1048576, bt t 40, bt t 7, t.extract 8 24, t.extract 24 40, true, decide (bt t 43 % 2 = 1), wordN (bt t) 42 / 8, wordN (bt t) 44 * 65536 + wordN (bt t) 46, t.extract 48 (40 + an)⟩) := S8.out.set10 (t.extract 48 (40 + an))
  go_upto_region 19 with fail
  generalize Y8.setCell ⟨B, 10, none⟩ (.string (t.extract 48 (40 + an))) = Y9 at *
  clear c10 f10 S8 L4
  have hok : Hid (∀ Wx, Calls Try.prog 91 #[p6C ⟨first / 1048576 % 256, first % 1048576, bt t 40, bt t 7, t.extract 8 24, t.extract 24 40, true, decide (bt t 43 % 2 = 1), wordN (bt t) 42 / 8, wordN (bt t) 44 * 65536 + wordN (bt t) 46, t.extract 48 (40 + an)⟩] Wx fun e w' => e = .returned (.bool (v6Ok (v6Cut t))) ∧ Below Wx.heap.size Wx w') := fun Wx => by
    have := specV6Right_any ⟨first / 1048576 % 256, first % 1048576, bt t 40, bt t 7, t.extract 8 24, t.extract 24 40, true, decide (bt t 43 % 2 = 1), wordN (bt t) 42 / 8, wordN (bt t) 44 * 65536 + wordN (bt t) 46, t.extract 48 (40 + an)⟩ Wx (by simp only [ByteArray.size_extract]; omega) (by simp only [ByteArray.size_extract]; omega) (by simp only [ByteArray.size_extract]; omega)
    rw [HCu.out]; exact this
  have HOk2 : Hid (code = 0 → ans = p6CO ⟨first / 1048576 % 256, first % 1048576, bt t 40, bt t 7, t.extract 8 24, t.extract 24 40, true, decide (bt t 43 % 2 = 1), wordN (bt t) 42 / 8, wordN (bt t) 44 * 65536 + wordN (bt t) 46, t.extract 48 (40 + an)⟩ 0) := fun hc => by rw [HOk.out hc, HCu.out]
  clear HOk HCu
  generalize v6Ok (v6Cut t) = ok at *
  unfold p6C at hok
  dsimp only at hok
  obtain ⟨c0, f0, c1, f1, c2, f2, c3, f3, c4, f4, c5, f5, c6, f6, c7, f7, c8, f8, c9, f9, c10, f10⟩ := SX.out.box
  dsimp only at c0 c1 c2 c3 c4 c5 c6 c7 c8 c9 c10
  go_wp2_with fail
  refine Calls.mono (hok.out _) ?_
  rintro e Z3 ⟨rfl, q⟩
  clear c0 f0 c1 f1 c2 f2 c3 f3 c4 f4 c5 f5 c6 f6 c7 f7 c8 f8 c9 f9 c10 f10
  have SY : Hid _ := SX.out.kept q
  clear q SX hok
  obtain ⟨o0, y0, o1, y1, o2, y2, o3, y3, o4, y4, o5, y5, o6, y6, o7, y7, o8, y8, o9, y9, o10, y10, o11, y11⟩ := SY.out.out
  cases ok with
  | false =>
    have HV : Hid (ans = zr6 1) := HBad.out 1 (by rw [HCode.out]; rfl) (by decide)
    clear HBad HOk2 HCode
    go_wp2_with fail
    exact bodyPost_ret (v := zr6 1) (by simp [results, Try.results47, go_sem, zr6, o0, o1, o2, o3, o4, o5, o6, o7, o8, o9, o10, o11]) rfl ⟨by rw [HV.out], ((((((((((((SY.out.bel.setCell SY.out.nO _).setCell SY.out.nO _).setCell SY.out.nO _).setCell SY.out.nO _).setCell SY.out.nO _).setCell SY.out.nO _).setCell SY.out.nO _).setCell SY.out.nO _).setCell SY.out.nO _).setCell SY.out.nO _).setCell SY.out.nO _).setCell SY.out.nO _)⟩
  | true =>
    have HV : Hid (ans = _) := HOk2.out (by rw [HCode.out]; rfl)
    obtain ⟨c0, f0, c1, f1, c2, f2, c3, f3, c4, f4, c5, f5, c6, f6, c7, f7, c8, f8, c9, f9, c10, f10⟩ := SY.out.box
    dsimp only at c0 c1 c2 c3 c4 c5 c6 c7 c8 c9 c10
    clear HBad HOk2 HCode
    go_wp2_with fail
    exact bodyPost_ret (v := .agg #[.int .i64 (first / 1048576 % 256), .int .i64 (first % 1048576), .int .i64 (bt t 40), .int .i64 (bt t 7), .string (t.extract 8 24), .string (t.extract 24 40), .bool (true), .bool (decide (bt t 43 % 2 = 1)), .int .i64 (wordN (bt t) 42 / 8), .int .i64 (wordN (bt t) 44 * 65536 + wordN (bt t) 46), .string (t.extract 48 (40 + an)), .int .i64 0]) (by simp [results, Try.results47, go_sem, o0, o1, o2, o3, o4, o5, o6, o7, o8, o9, o10, o11]) rfl ⟨by rw [HV.out]; rfl, ((((((((((((SY.out.bel.setCell SY.out.nO _).setCell SY.out.nO _).setCell SY.out.nO _).setCell SY.out.nO _).setCell SY.out.nO _).setCell SY.out.nO _).setCell SY.out.nO _).setCell SY.out.nO _).setCell SY.out.nO _).setCell SY.out.nO _).setCell SY.out.nO _).setCell SY.out.nO _)⟩

end Go.Proofs.Ytofhcplnnamcdaa
