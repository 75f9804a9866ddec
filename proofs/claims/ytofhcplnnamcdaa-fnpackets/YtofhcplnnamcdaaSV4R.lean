/- SV4R: what the specification's V4Read answers. -/
import Derived.Test.YtofhcplnnamcdaaSV4B
import Derived.Test.YtofhcplnnamcdaaBitMath
import Derived.Test.YtofhcplnnamcdaaBitK
import Derived.Test.YtofhcplnnamcdaaGrowT
import Derived.Deep.RegionWith
import Derived.Deep.DeepCutAuto
namespace Go.Proofs.Ytofhcplnnamcdaa
open Go.RowKit Go.PlainAid
set_option linter.unusedVariables false
set_option linter.unusedSimpArgs false

/-- A code beside nothing. -/
def z4 (c : Int) : Value := .agg #[.int .i64 0, .int .i64 0, .bool false, .bool false, .int .i64 0, .int .i64 0, .int .i64 0, .string ⟨#[]⟩, .string ⟨#[]⟩, .string ⟨#[]⟩, .string ⟨#[]⟩, .int .i64 c]
theorem z4_eq (c : Int) : p4CO p4Zero c = z4 c := rfl

theorem read4_bad {t : ByteArray} {c : Int} (h : v4CodeV t = c) (hc : c ≠ 0) : p4CO (v4ReadV t) (v4CodeV t) = z4 c := by
  unfold v4ReadV; rw [h, if_neg hc]; rfl
theorem read4_ok {t : ByteArray} (h : v4CodeV t = 0) : p4CO (v4ReadV t) (v4CodeV t) = p4CO (v4Cut t) 0 := by
  unfold v4ReadV; rw [h, if_pos rfl]

theorem and15 (x : Int) (h0 : 0 ≤ x) (h1 : x ≤ 255) : bits .and .u8 x 15 = x % 16 := by
  have h := bits_mask .u8 8 (by decide) (fun n h0 h1 => by rw [IntKind.wrap_u8]; omega) 4 (by decide) x h0 (by omega)
  rw [show ((2 : Int) ^ 4 - 1) = 15 by decide, show ((2 : Int) ^ 4) = 16 by decide] at h
  exact h

/-- The result's box, still bare. -/
structure BoxO4 (w : World) (B : Nat) : Prop where
  c0 : w.cell? ⟨B, 0, none⟩ = some (.int .i64 0)
  f0 : w.frozen? ⟨B, 0, none⟩ = false
  c1 : w.cell? ⟨B, 1, none⟩ = some (.int .i64 0)
  f1 : w.frozen? ⟨B, 1, none⟩ = false
  c2 : w.cell? ⟨B, 2, none⟩ = some (.bool false)
  f2 : w.frozen? ⟨B, 2, none⟩ = false
  c3 : w.cell? ⟨B, 3, none⟩ = some (.bool false)
  f3 : w.frozen? ⟨B, 3, none⟩ = false
  c4 : w.cell? ⟨B, 4, none⟩ = some (.int .i64 0)
  f4 : w.frozen? ⟨B, 4, none⟩ = false
  c5 : w.cell? ⟨B, 5, none⟩ = some (.int .i64 0)
  f5 : w.frozen? ⟨B, 5, none⟩ = false
  c6 : w.cell? ⟨B, 6, none⟩ = some (.int .i64 0)
  f6 : w.frozen? ⟨B, 6, none⟩ = false
  c7 : w.cell? ⟨B, 7, none⟩ = some (.string ⟨#[]⟩)
  f7 : w.frozen? ⟨B, 7, none⟩ = false
  c8 : w.cell? ⟨B, 8, none⟩ = some (.string ⟨#[]⟩)
  f8 : w.frozen? ⟨B, 8, none⟩ = false
  c9 : w.cell? ⟨B, 9, none⟩ = some (.string ⟨#[]⟩)
  f9 : w.frozen? ⟨B, 9, none⟩ = false
  c10 : w.cell? ⟨B, 10, none⟩ = some (.string ⟨#[]⟩)
  f10 : w.frozen? ⟨B, 10, none⟩ = false
  c11 : w.cell? ⟨B, 11, none⟩ = some (.int .i64 0)
  f11 : w.frozen? ⟨B, 11, none⟩ = false
theorem BoxO4.kept {w W : World} {B : Nat} (h : BoxO4 w B) (hB : Below w.heap.size w W) : BoxO4 W B := by
  have hb := World.block_lt_of_cell? w _ h.c0
  exact ⟨((bcell hB).1 B 0 hb).trans h.c0, ((bcell hB).2 B 0 hb).trans h.f0, ((bcell hB).1 B 1 hb).trans h.c1, ((bcell hB).2 B 1 hb).trans h.f1, ((bcell hB).1 B 2 hb).trans h.c2, ((bcell hB).2 B 2 hb).trans h.f2, ((bcell hB).1 B 3 hb).trans h.c3, ((bcell hB).2 B 3 hb).trans h.f3, ((bcell hB).1 B 4 hb).trans h.c4, ((bcell hB).2 B 4 hb).trans h.f4, ((bcell hB).1 B 5 hb).trans h.c5, ((bcell hB).2 B 5 hb).trans h.f5, ((bcell hB).1 B 6 hb).trans h.c6, ((bcell hB).2 B 6 hb).trans h.f6, ((bcell hB).1 B 7 hb).trans h.c7, ((bcell hB).2 B 7 hb).trans h.f7, ((bcell hB).1 B 8 hb).trans h.c8, ((bcell hB).2 B 8 hb).trans h.f8, ((bcell hB).1 B 9 hb).trans h.c9, ((bcell hB).2 B 9 hb).trans h.f9, ((bcell hB).1 B 10 hb).trans h.c10, ((bcell hB).2 B 10 hb).trans h.f10, ((bcell hB).1 B 11 hb).trans h.c11, ((bcell hB).2 B 11 hb).trans h.f11⟩
theorem BoxO4.new (w : World) {t : TypeId} : BoxO4 (w.alloc (.cells #[.int .i64 0, .int .i64 0, .bool false, .bool false, .int .i64 0, .int .i64 0, .int .i64 0, .string ⟨#[]⟩, .string ⟨#[]⟩, .string ⟨#[]⟩, .string ⟨#[]⟩, .int .i64 0] t)) w.heap.size := ⟨cell_new rfl, by simp, cell_new rfl, by simp, cell_new rfl, by simp, cell_new rfl, by simp, cell_new rfl, by simp, cell_new rfl, by simp, cell_new rfl, by simp, cell_new rfl, by simp, cell_new rfl, by simp, cell_new rfl, by simp, cell_new rfl, by simp, cell_new rfl, by simp⟩

/-- A packet's box, still bare. -/
structure BoxZ4 (w : World) (B : Nat) : Prop where
  c0 : w.cell? ⟨B, 0, none⟩ = some (.int .i64 0)
  f0 : w.frozen? ⟨B, 0, none⟩ = false
  c1 : w.cell? ⟨B, 1, none⟩ = some (.int .i64 0)
  f1 : w.frozen? ⟨B, 1, none⟩ = false
  c2 : w.cell? ⟨B, 2, none⟩ = some (.bool false)
  f2 : w.frozen? ⟨B, 2, none⟩ = false
  c3 : w.cell? ⟨B, 3, none⟩ = some (.bool false)
  f3 : w.frozen? ⟨B, 3, none⟩ = false
  c4 : w.cell? ⟨B, 4, none⟩ = some (.int .i64 0)
  f4 : w.frozen? ⟨B, 4, none⟩ = false
  c5 : w.cell? ⟨B, 5, none⟩ = some (.int .i64 0)
  f5 : w.frozen? ⟨B, 5, none⟩ = false
  c6 : w.cell? ⟨B, 6, none⟩ = some (.int .i64 0)
  f6 : w.frozen? ⟨B, 6, none⟩ = false
  c7 : w.cell? ⟨B, 7, none⟩ = some (.string ⟨#[]⟩)
  f7 : w.frozen? ⟨B, 7, none⟩ = false
  c8 : w.cell? ⟨B, 8, none⟩ = some (.string ⟨#[]⟩)
  f8 : w.frozen? ⟨B, 8, none⟩ = false
  c9 : w.cell? ⟨B, 9, none⟩ = some (.string ⟨#[]⟩)
  f9 : w.frozen? ⟨B, 9, none⟩ = false
  c10 : w.cell? ⟨B, 10, none⟩ = some (.string ⟨#[]⟩)
  f10 : w.frozen? ⟨B, 10, none⟩ = false
theorem BoxZ4.kept {w W : World} {B : Nat} (h : BoxZ4 w B) (hB : Below w.heap.size w W) : BoxZ4 W B := by
  have hb := World.block_lt_of_cell? w _ h.c0
  exact ⟨((bcell hB).1 B 0 hb).trans h.c0, ((bcell hB).2 B 0 hb).trans h.f0, ((bcell hB).1 B 1 hb).trans h.c1, ((bcell hB).2 B 1 hb).trans h.f1, ((bcell hB).1 B 2 hb).trans h.c2, ((bcell hB).2 B 2 hb).trans h.f2, ((bcell hB).1 B 3 hb).trans h.c3, ((bcell hB).2 B 3 hb).trans h.f3, ((bcell hB).1 B 4 hb).trans h.c4, ((bcell hB).2 B 4 hb).trans h.f4, ((bcell hB).1 B 5 hb).trans h.c5, ((bcell hB).2 B 5 hb).trans h.f5, ((bcell hB).1 B 6 hb).trans h.c6, ((bcell hB).2 B 6 hb).trans h.f6, ((bcell hB).1 B 7 hb).trans h.c7, ((bcell hB).2 B 7 hb).trans h.f7, ((bcell hB).1 B 8 hb).trans h.c8, ((bcell hB).2 B 8 hb).trans h.f8, ((bcell hB).1 B 9 hb).trans h.c9, ((bcell hB).2 B 9 hb).trans h.f9, ((bcell hB).1 B 10 hb).trans h.c10, ((bcell hB).2 B 10 hb).trans h.f10⟩
theorem BoxZ4.new (w : World) {t : TypeId} : BoxZ4 (w.alloc (.cells #[.int .i64 0, .int .i64 0, .bool false, .bool false, .int .i64 0, .int .i64 0, .int .i64 0, .string ⟨#[]⟩, .string ⟨#[]⟩, .string ⟨#[]⟩, .string ⟨#[]⟩] t)) w.heap.size := ⟨cell_new rfl, by simp, cell_new rfl, by simp, cell_new rfl, by simp, cell_new rfl, by simp, cell_new rfl, by simp, cell_new rfl, by simp, cell_new rfl, by simp, cell_new rfl, by simp, cell_new rfl, by simp, cell_new rfl, by simp, cell_new rfl, by simp⟩
def IsBare4 (n : Nat) : Value → World → Prop := fun v w => ∃ B, v = .pointer (some ⟨B, 0, none⟩) ∧ n ≤ B ∧ BoxZ4 w B
theorem stable_isBare4 (n : Nat) : Stable (IsBare4 n) := fun v w w' ⟨B, h1, h2, h3⟩ hb => ⟨B, h1, h2, h3.kept hb⟩
set_option maxHeartbeats 1000000 in
theorem set11_box {w : World} {B : Nat} (h : BoxZ4 w B) (p : P4) : BoxV4 (((((((((((w.setCell ⟨B, 0, none⟩ (.int .i64 p.tos)).setCell ⟨B, 1, none⟩ (.int .i64 p.id)).setCell ⟨B, 2, none⟩ (.bool p.whole)).setCell ⟨B, 3, none⟩ (.bool p.more)).setCell ⟨B, 4, none⟩ (.int .i64 p.off)).setCell ⟨B, 5, none⟩ (.int .i64 p.ttl)).setCell ⟨B, 6, none⟩ (.int .i64 p.proto)).setCell ⟨B, 7, none⟩ (.string p.src)).setCell ⟨B, 8, none⟩ (.string p.dst)).setCell ⟨B, 9, none⟩ (.string p.opts)).setCell ⟨B, 10, none⟩ (.string p.data)) B p := by
  obtain ⟨c0, f0, c1, f1, c2, f2, c3, f3, c4, f4, c5, f5, c6, f6, c7, f7, c8, f8, c9, f9, c10, f10⟩ := h
  constructor <;> simp [go_sem, c0, c1, c2, c3, c4, c5, c6, c7, c8, c9, c10]
theorem set_other {w : World} {B C : Nat} {o : Nat} {v : Value} (h : C ≠ B) (hO : BoxO4 w C) : BoxO4 (w.setCell ⟨B, o, none⟩ v) C := by
  have hc : ∀ j, (w.setCell ⟨B, o, none⟩ v).cell? ⟨C, j, none⟩ = w.cell? ⟨C, j, none⟩ := fun j => World.cell?_setCell_other w _ _ v (fun e => h (congrArg Addr.block e).symm)
  have hf : ∀ j, (w.setCell ⟨B, o, none⟩ v).frozen? ⟨C, j, none⟩ = w.frozen? ⟨C, j, none⟩ := fun j => by simp
  obtain ⟨c0, f0, c1, f1, c2, f2, c3, f3, c4, f4, c5, f5, c6, f6, c7, f7, c8, f8, c9, f9, c10, f10, c11, f11⟩ := hO
  exact ⟨(hc 0).trans c0, (hf 0).trans f0, (hc 1).trans c1, (hf 1).trans f1, (hc 2).trans c2, (hf 2).trans f2, (hc 3).trans c3, (hf 3).trans f3, (hc 4).trans c4, (hf 4).trans f4, (hc 5).trans c5, (hf 5).trans f5, (hc 6).trans c6, (hf 6).trans f6, (hc 7).trans c7, (hf 7).trans f7, (hc 8).trans c8, (hf 8).trans f8, (hc 9).trans c9, (hf 9).trans f9, (hc 10).trans c10, (hf 10).trans f10, (hc 11).trans c11, (hf 11).trans f11⟩

theorem str_slice (t : ByteArray) (l h : Nat) (W : World) (h1 : l ≤ h) (h2 : h ≤ t.size) : (Instr.slice 9 (.string t) (some (.int .i64 l)) (some (.int .i64 h)) none).run Try.prog W = .ok (.string (t.extract l h)) W := by
  have := run_slice_string (P := Try.prog) W 9 t .i64 .i64 (l : Int) (h : Int) Try.underlying9 (by omega) (by omega) (by omega)
  simpa using this

set_option maxRecDepth 100000 in
set_option maxHeartbeats 1000000 in
theorem specV4Read_any (t : ByteArray) (w : World) (hs : t.size ≤ 1048576) :
    Calls Try.prog 46 #[.string t] w fun e w' => e = .returned (p4CO (v4ReadV t) (v4CodeV t)) ∧ Below w.heap.size w w' := by
  have HZ : Hid (Below w.heap.size w (w.alloc (.cells #[.int .i64 0, .int .i64 0, .bool false, .bool false, .int .i64 0, .int .i64 0, .int .i64 0, .string ⟨#[]⟩, .string ⟨#[]⟩, .string ⟨#[]⟩, .string ⟨#[]⟩, .int .i64 0] 66))) := (Below.refl _ _).alloc (Nat.le_refl _) _
  have KZ : Hid (BoxO4 (w.alloc (.cells #[.int .i64 0, .int .i64 0, .bool false, .bool false, .int .i64 0, .int .i64 0, .int .i64 0, .string ⟨#[]⟩, .string ⟨#[]⟩, .string ⟨#[]⟩, .string ⟨#[]⟩, .int .i64 0] 66)) w.heap.size) := BoxO4.new w
  by_cases g1 : 20000 < t.size
  · have HV : Hid (p4CO (v4ReadV t) (v4CodeV t) = z4 2) := read4_bad (if_pos g1) (by decide)
    generalize p4CO (v4ReadV t) (v4CodeV t) = ans at *
    have g1' : (20000 : Int) < t.size := by omega
    go_enter Try.func46, Try.ntmps46
    go_wp2_with fail
    exact bodyPost_ret (v := z4 2) (by simp [results, Try.results46, go_sem, z4]) rfl ⟨by rw [HV.out], (Below.refl _ _).alloc (Nat.le_refl _) _⟩
  · by_cases g2 : t.size < 20
    · have HV : Hid (p4CO (v4ReadV t) (v4CodeV t) = z4 4) := read4_bad (by unfold v4CodeV; rw [if_neg g1, if_pos g2]) (by decide)
      generalize p4CO (v4ReadV t) (v4CodeV t) = ans at *
      have g1' : ¬ (20000 : Int) < t.size := by omega
      have g2' : (t.size : Int) < 20 := by omega
      go_enter Try.func46, Try.ntmps46
      go_wp2_with fail
      exact bodyPost_ret (v := z4 4) (by simp [results, Try.results46, go_sem, z4]) rfl ⟨by rw [HV.out], (Below.refl _ _).alloc (Nat.le_refl _) _⟩
    · have hb := get_bt t
      have b0 := bt_isByte t 0
      have b1 := bt_isByte t 1
      have b8 := bt_isByte t 8
      have b9 := bt_isByte t 9
      have e15 := and15 (bt t 0) b0.1 b0.2
      have HC : Hid (∀ k : Nat, k + 1 < 20 → ∀ W, Calls Try.prog 100 #[.string t, .int .i64 k] W fun e w' => e = .returned (.int .i64 (wordN (bt t) k)) ∧ Below W.heap.size W w') := fun k hk W => specAt_any t k W (by omega) (by unfold maxLen; omega)
      have HC2 : Hid _ := HC.out 2 (by decide)
      have HC6 : Hid _ := HC.out 6 (by decide)
      have HC4 : Hid _ := HC.out 4 (by decide)
      have r2 := wordN_range (bt_isByte t) 2
      have r6 := wordN_range (bt_isByte t) 6
      have r4 := wordN_range (bt_isByte t) 4
      obtain ⟨bad, hbad⟩ : ∃ b : Bool, b = decide (bt t 0 / 16 ≠ 4 ∨ 4 * (bt t 0 % 16) < 20 ∨ wordN (bt t) 2 < 4 * (bt t 0 % 16) ∨ 32768 ≤ wordN (bt t) 6) := ⟨_, rfl⟩
      have HBad : Hid (bad = decide (bt t 0 / 16 ≠ 4 ∨ 4 * (bt t 0 % 16) < 20 ∨ wordN (bt t) 2 < 4 * (bt t 0 % 16) ∨ 32768 ≤ wordN (bt t) 6)) := hbad
      have HCode : Hid (v4CodeV t = if bad then 3 else if (t.size : Int) < wordN (bt t) 2 then 4 else if sumV (t.extract 0 (4 * (bt t 0 % 16).toNat)) ≠ 65535 then 5 else if v4Ok (v4Cut t) then 0 else 1) := by
        unfold Hid v4CodeV; rw [if_neg g1, if_neg g2, hbad]; simp only [decide_eq_true_iff]
      have HRd : Hid (∀ c : Int, v4CodeV t = c → c ≠ 0 → p4CO (v4ReadV t) (v4CodeV t) = z4 c) := fun c h hc => read4_bad h hc
      have HRk : Hid (v4CodeV t = 0 → p4CO (v4ReadV t) (v4CodeV t) = p4CO (v4Cut t) 0) := read4_ok
      have HCut : Hid (v4Cut t = ⟨bt t 1, wordN (bt t) 4, decide (wordN (bt t) 6 / 16384 % 2 = 1), decide (wordN (bt t) 6 / 8192 % 2 = 1), wordN (bt t) 6 % 8192, bt t 8, bt t 9, t.extract 12 16, t.extract 16 20, t.extract 20 (4 * (bt t 0 % 16).toNat), t.extract (4 * (bt t 0 % 16).toNat) (wordN (bt t) 2).toNat⟩) := rfl
      generalize p4CO (v4ReadV t) (v4CodeV t) = ans at *
      generalize v4CodeV t = code at *
      generalize v4Cut t = cut at *
      obtain ⟨x2, hx2⟩ : ∃ x, x = wordN (bt t) 2 := ⟨_, rfl⟩
      obtain ⟨x4, hx4⟩ : ∃ x, x = wordN (bt t) 4 := ⟨_, rfl⟩
      obtain ⟨x6, hx6⟩ : ∃ x, x = wordN (bt t) 6 := ⟨_, rfl⟩
      rw [← hx2] at HBad HCode HCut HC2 r2
      rw [← hx4] at HCut HC4 r4
      rw [← hx6] at HBad HCut HC6 r6
      clear hx2 hx4 hx6 HC hbad
      have g1' : ¬ (20000 : Int) < t.size := by omega
      have g2' : ¬ (t.size : Int) < 20 := by omega
      go_enter Try.func46, Try.ntmps46
      go_wp2_with fail
      refine (HC2.out _).mono ?_
      rintro e w1 ⟨rfl, q1⟩
      have G1 : Hid (Below w.heap.size w w1) := HZ.out.trans (q1.mono HZ.out.size)
      have K1 : Hid (BoxO4 w1 w.heap.size) := KZ.out.kept q1
      clear q1
      go_wp2_with fail
      refine (HC6.out _).mono ?_
      rintro e w2 ⟨rfl, q2⟩
      have G2 : Hid (Below w.heap.size w w2) := G1.out.trans (q2.mono G1.out.size)
      have K2 : Hid (BoxO4 w2 w.heap.size) := K1.out.kept q2
      clear q2 G1 K1 HC2 HC6 HZ KZ
      obtain ⟨o0, y0, o1, y1, o2, y2, o3, y3, o4, y4, o5, y5, o6, y6, o7, y7, o8, y8, o9, y9, o10, y10, o11, y11⟩ := K2.out
      go_upto_region 8 with fail
      obtain ⟨hn, hhn⟩ : ∃ n : Nat, 4 * (bt t 0 % 16) = (n : Int) := ⟨(4 * (bt t 0 % 16)).toNat, by omega⟩
      have HHn : Hid (4 * (bt t 0 % 16) = (hn : Int)) := hhn
      clear hhn
      obtain ⟨an, han⟩ : ∃ n : Nat, x2 = (n : Int) := ⟨x2.toNat, by omega⟩
      have HAn : Hid (x2 = (an : Int)) := han
      clear han
      go_cut [3, 4, 40] (fun h a c wx => h = .int .i64 (hn : Int) ∧ a = .int .i64 (an : Int) ∧ c = .bool bad ∧ w2 = wx)
      case first =>
        replace HBad := HBad.out
        by_cases c1 : bt t 0 / 16 = 4
        · have d1 : (bt t 0 / 16 != 4) = false := by simp [c1]
          by_cases c2 : 4 * (bt t 0 % 16) < 20
          · have hB : bad = true := by rw [HBad]; simp [c2]
            clear HBad
            subst hB
            go_wp2_with fail
            go_meet
            exact ⟨by rw [HHn.out], by rw [HAn.out], rfl, rfl⟩
          · by_cases c3 : x2 < 4 * (bt t 0 % 16)
            · have hB : bad = true := by rw [HBad]; simp [c3]
              clear HBad
              subst hB
              go_wp2_with fail
              go_meet
              exact ⟨by rw [HHn.out], by rw [HAn.out], rfl, rfl⟩
            · have hB : bad = decide (32768 ≤ x6) := by rw [HBad]; simp [c1, c2, c3]
              clear HBad
              subst hB
              go_wp2_with fail
              go_meet
              exact ⟨by rw [HHn.out], by rw [HAn.out], rfl, rfl⟩
        · have d1 : (bt t 0 / 16 != 4) = true := by simp [c1]
          have hB : bad = true := by rw [HBad]; simp [c1]
          clear HBad
          subst hB
          go_wp2_with fail
          go_meet
          exact ⟨by rw [HHn.out], by rw [HAn.out], rfl, rfl⟩
      case rest =>
      obtain ⟨rfl, rfl, rfl, rfl⟩ := hcut
      have hhn := HHn.out
      have han := HAn.out
      have ehn : 4 * (bt t 0 % 16).toNat = hn := by omega
      have ean : x2.toNat = an := by omega
      rw [ehn] at HCode HCut
      rw [ean] at HCut
      rw [han] at HCode HBad
      rw [hhn] at HBad
      clear ehn ean
      cases bad with
      | true =>
        have HV : Hid (ans = z4 3) := HRd.out 3 HCode.out (by decide)
        clear HBad HCode HRd HRk HCut HC4
        go_wp2_with fail
        exact bodyPost_ret (v := z4 3) (by simp [results, Try.results46, go_sem, z4, o0, o1, o2, o3, o4, o5, o6, o7, o8, o9, o10, o11]) rfl ⟨by rw [HV.out], ((((((((((((G2.out.setCell (Nat.le_refl _) _).setCell (Nat.le_refl _) _).setCell (Nat.le_refl _) _).setCell (Nat.le_refl _) _).setCell (Nat.le_refl _) _).setCell (Nat.le_refl _) _).setCell (Nat.le_refl _) _).setCell (Nat.le_refl _) _).setCell (Nat.le_refl _) _).setCell (Nat.le_refl _) _).setCell (Nat.le_refl _) _).setCell (Nat.le_refl _) _)⟩
      | false =>
        have hnb := HBad.out.symm
        simp only [decide_eq_false_iff_not, not_or, Int.not_lt, Int.not_le, Decidable.not_not] at hnb
        obtain ⟨c1, c2, c3, c4⟩ := hnb
        replace HCode : Hid (code = if (t.size : Int) < (an : Int) then 4 else if sumV (t.extract 0 hn) ≠ 65535 then 5 else if v4Ok cut then 0 else 1) := HCode.out
        clear HBad
        by_cases c5 : (t.size : Int) < (an : Int)
        · have HV : Hid (ans = z4 4) := HRd.out 4 (by rw [HCode.out, if_pos c5]) (by decide)
          clear HCode HRd HRk HCut HC4
          go_wp2_with fail
          exact bodyPost_ret (v := z4 4) (by simp [results, Try.results46, go_sem, z4, o0, o1, o2, o3, o4, o5, o6, o7, o8, o9, o10, o11]) rfl ⟨by rw [HV.out], ((((((((((((G2.out.setCell (Nat.le_refl _) _).setCell (Nat.le_refl _) _).setCell (Nat.le_refl _) _).setCell (Nat.le_refl _) _).setCell (Nat.le_refl _) _).setCell (Nat.le_refl _) _).setCell (Nat.le_refl _) _).setCell (Nat.le_refl _) _).setCell (Nat.le_refl _) _).setCell (Nat.le_refl _) _).setCell (Nat.le_refl _) _).setCell (Nat.le_refl _) _)⟩
        · rw [if_neg c5] at HCode
          have HSum : Hid (∀ W, Calls Try.prog 54 #[.string (t.extract 0 hn)] W fun e w' => e = .returned (.int .i64 (sumV (t.extract 0 hn))) ∧ w' = W) := fun W => specSum1_any _ W (by rw [ByteArray.size_extract]; omega)
          generalize sumV (t.extract 0 hn) = sm at *
          by_cases c6 : sm = 65535
          · subst c6
            replace HCode : Hid (code = if v4Ok cut then 0 else 1) := HCode.out
            have HR : Hid (∀ W, Calls Try.prog 89 #[p4C cut] W fun e w' => e = .returned (.bool (v4Ok cut)) ∧ Below W.heap.size W w') := fun W => specV4Right_any cut W (by rw [HCut.out]; simp only [ByteArray.size_extract]; omega) (by rw [HCut.out]; simp only [ByteArray.size_extract]; omega) (by rw [HCut.out]; simp only [ByteArray.size_extract]; omega) (by rw [HCut.out]; simp only [ByteArray.size_extract]; omega)
            have HPC : Hid (p4C cut = .agg #[.int .i64 (bt t 1), .int .i64 x4, .bool (decide (x6 / 16384 % 2 = 1)), .bool (decide (x6 / 8192 % 2 = 1)), .int .i64 (x6 % 8192), .int .i64 (bt t 8), .int .i64 (bt t 9), .string (t.extract 12 16), .string (t.extract 16 20), .string (t.extract 20 hn), .string (t.extract hn an)]) := by unfold Hid; rw [HCut.out]; rfl
            have HPO : Hid (p4CO cut 0 = .agg #[.int .i64 (bt t 1), .int .i64 x4, .bool (decide (x6 / 16384 % 2 = 1)), .bool (decide (x6 / 8192 % 2 = 1)), .int .i64 (x6 % 8192), .int .i64 (bt t 8), .int .i64 (bt t 9), .string (t.extract 12 16), .string (t.extract 16 20), .string (t.extract 20 hn), .string (t.extract hn an), .int .i64 0]) := by unfold Hid; rw [HCut.out]; rfl
            rw [HPC.out] at HR
            generalize p4CO cut 0 = good at *
            generalize v4Ok cut = ok at *
            have m1 := bit_k 14 (by decide) x6 r6.1 (by omega)
            have m2 := bit_k 13 (by decide) x6 r6.1 (by omega)
            have m3 := mask_k 13 (by decide) x6 r6.1 (by omega)
            rw [show ((2 ^ 14 : Nat) : Int) = 16384 by decide] at m1
            rw [show ((2 ^ 13 : Nat) : Int) = 8192 by decide] at m2
            rw [show ((2 : Int) ^ 13 - 1) = 8191 by decide, show ((2 : Int) ^ 13) = 8192 by decide] at m3
            clear HCut HPC
            go_wp2_with fail
            refine (HSum.out _).mono ?_
            rintro e w3 ⟨rfl, rfl⟩
            clear HSum
            have i1 : (1 : Int) < t.size := by omega
            have i8 : (8 : Int) < t.size := by omega
            have i9 : (9 : Int) < t.size := by omega
            have L1 : ∀ W, (Instr.slice 9 (.string t) (some (.int .i64 12)) (some (.int .i64 16)) none).run Try.prog W = .ok (.string (t.extract 12 16)) W := fun W => str_slice t 12 16 W (by omega) (by omega)
            have L2 : ∀ W, (Instr.slice 9 (.string t) (some (.int .i64 16)) (some (.int .i64 20)) none).run Try.prog W = .ok (.string (t.extract 16 20)) W := fun W => str_slice t 16 20 W (by omega) (by omega)
            have L3 : ∀ W, (Instr.slice 9 (.string t) (some (.int .i64 20)) (some (.int .i64 (hn : Int))) none).run Try.prog W = .ok (.string (t.extract 20 hn)) W := fun W => str_slice t 20 hn W (by omega) (by omega)
            have L4 : ∀ W, (Instr.slice 9 (.string t) (some (.int .i64 (hn : Int))) (some (.int .i64 (an : Int))) none).run Try.prog W = .ok (.string (t.extract hn an)) W := fun W => str_slice t hn an W (by omega) (by omega)
            go_upto_region 14 with fail
            go_cut [6] (fun v wx => ∃ B, v = .pointer (some ⟨B, 0, none⟩) ∧ BoxV4 wx B ⟨bt t 1, x4, decide (x6 / 16384 % 2 = 1), decide (x6 / 8192 % 2 = 1), x6 % 8192, bt t 8, bt t 9, t.extract 12 16, t.extract 16 20, t.extract 20 hn, t.extract hn an⟩ ∧ BoxO4 wx w.heap.size ∧ Below w.heap.size w wx)
            case first =>
              rename_i J K9 hJ hK9
              have HW2 : Hid (w.heap.size < w3.heap.size) := World.block_lt_of_cell? w3 _ K2.out.c0
              refine wp_region_growT (Rs := [IsV (.string t), IsV (.int .u8 (bt t 1)), IsV (.int .i64 (bt t 1)), IsV (.string t), IsV (.int .i64 x4), IsV (.int .i64 x6), IsV (.int .i64 (bits .and .i64 x6 16384)), IsV (.bool (decide (x6 / 16384 % 2 = 1))), IsV (.int .i64 x6), IsV (.int .i64 (bits .and .i64 x6 8192)), IsV (.bool (decide (x6 / 8192 % 2 = 1))), IsV (.int .i64 x6), IsV (.int .i64 (x6 % 8192)), IsV (.string t), IsV (.int .u8 (bt t 8)), IsV (.int .i64 (bt t 8)), IsV (.string t), IsV (.int .u8 (bt t 9)), IsV (.int .i64 (bt t 9)), IsV (.string t), IsV (.string (t.extract 12 16)), IsV (.string t), IsV (.string (t.extract 16 20)), IsV (.string t), IsV (.int .i64 (hn : Int)), IsV (.string (t.extract 20 hn)), IsV (.string t), IsV (.int .i64 (hn : Int)), IsV (.int .i64 (an : Int)), IsV (.string (t.extract hn an)), IsV (.agg #[.int .i64 (bt t 1), .int .i64 x4, .bool (decide (x6 / 16384 % 2 = 1)), .bool (decide (x6 / 8192 % 2 = 1)), .int .i64 (x6 % 8192), .int .i64 (bt t 8), .int .i64 (bt t 9), .string (t.extract 12 16), .string (t.extract 16 20), .string (t.extract 20 hn), .string (t.extract hn an)]), IsBare4 w3.heap.size]) [53, 54, 55, 56, 57, 58, 59, 60, 61, 62, 63, 64, 65, 66, 67, 68, 69, 70, 71, 72, 73, 74, 75, 76, 77, 78, 79, 80, 81, 82, 83, 6] _ (by kernel_rfl) rfl (by kernel_rfl) rfl ?st ?steps ?lst
              case st => simp [stable_isV, stable_isBare4]
              case steps =>
                refine ⟨?s0, ?s1, ?s2, ?s3, ?s4, ?s5, ?s6, ?s7, ?s8, ?s9, ?s10, ?s11, ?s12, ?s13, ?s14, ?s15, ?s16, ?s17, ?s18, ?s19, ?s20, ?s21, ?s22, ?s23, ?s24, ?s25, ?s26, ?s27, ?s28, ?s29, ?s30, ?s31, trivial⟩
                case s0 =>
                  intro K' a wy ho hd hb2 hK
                  have h3 := ho 0 (by decide)
                  simp [slot] at h3
                  clear hd
                  go_simp
                  try go_bits
                  exact hK _ _ rfl (Below.refl _ _)
                case s1 =>
                  intro K' a wy ho hd hb2 hK
                  simp [Region.binds, rAt, IsV, slot] at hd
                  go_simp
                  try go_bits
                  exact hK _ _ rfl (Below.refl _ _)
                case s2 =>
                  intro K' a wy ho hd hb2 hK
                  simp [Region.binds, rAt, IsV, slot] at hd
                  go_simp
                  try go_bits
                  exact hK _ _ rfl (Below.refl _ _)
                case s3 =>
                  intro K' a wy ho hd hb2 hK
                  have h3 := ho 0 (by decide)
                  simp [slot] at h3
                  clear hd
                  go_simp
                  try go_bits
                  exact hK _ _ rfl (Below.refl _ _)
                case s4 =>
                  intro K' a wy ho hd hb2 hK
                  simp [Region.binds, rAt, IsV, slot] at hd
                  go_simp
                  refine (HC4.out wy).mono ?_
                  rintro e wz ⟨rfl, hz⟩
                  exact hK _ _ rfl hz
                case s5 =>
                  intro K' a wy ho hd hb2 hK
                  have h3 := ho 5 (by decide)
                  simp [slot] at h3
                  clear hd
                  go_simp
                  try go_bits
                  exact hK _ _ rfl (Below.refl _ _)
                case s6 =>
                  intro K' a wy ho hd hb2 hK
                  simp [Region.binds, rAt, IsV, slot] at hd
                  go_simp
                  try go_bits
                  exact hK _ _ rfl (Below.refl _ _)
                case s7 =>
                  intro K' a wy ho hd hb2 hK
                  simp [Region.binds, rAt, IsV, slot] at hd
                  go_simp
                  try go_bits
                  exact hK _ _ rfl (Below.refl _ _)
                case s8 =>
                  intro K' a wy ho hd hb2 hK
                  have h3 := ho 5 (by decide)
                  simp [slot] at h3
                  clear hd
                  go_simp
                  try go_bits
                  exact hK _ _ rfl (Below.refl _ _)
                case s9 =>
                  intro K' a wy ho hd hb2 hK
                  simp [Region.binds, rAt, IsV, slot] at hd
                  go_simp
                  try go_bits
                  exact hK _ _ rfl (Below.refl _ _)
                case s10 =>
                  intro K' a wy ho hd hb2 hK
                  simp [Region.binds, rAt, IsV, slot] at hd
                  go_simp
                  try go_bits
                  exact hK _ _ rfl (Below.refl _ _)
                case s11 =>
                  intro K' a wy ho hd hb2 hK
                  have h3 := ho 5 (by decide)
                  simp [slot] at h3
                  clear hd
                  go_simp
                  try go_bits
                  exact hK _ _ rfl (Below.refl _ _)
                case s12 =>
                  intro K' a wy ho hd hb2 hK
                  simp [Region.binds, rAt, IsV, slot] at hd
                  go_simp
                  try go_bits
                  exact hK _ _ rfl (Below.refl _ _)
                case s13 =>
                  intro K' a wy ho hd hb2 hK
                  have h3 := ho 0 (by decide)
                  simp [slot] at h3
                  clear hd
                  go_simp
                  try go_bits
                  exact hK _ _ rfl (Below.refl _ _)
                case s14 =>
                  intro K' a wy ho hd hb2 hK
                  simp [Region.binds, rAt, IsV, slot] at hd
                  go_simp
                  try go_bits
                  exact hK _ _ rfl (Below.refl _ _)
                case s15 =>
                  intro K' a wy ho hd hb2 hK
                  simp [Region.binds, rAt, IsV, slot] at hd
                  go_simp
                  try go_bits
                  exact hK _ _ rfl (Below.refl _ _)
                case s16 =>
                  intro K' a wy ho hd hb2 hK
                  have h3 := ho 0 (by decide)
                  simp [slot] at h3
                  clear hd
                  go_simp
                  try go_bits
                  exact hK _ _ rfl (Below.refl _ _)
                case s17 =>
                  intro K' a wy ho hd hb2 hK
                  simp [Region.binds, rAt, IsV, slot] at hd
                  go_simp
                  try go_bits
                  exact hK _ _ rfl (Below.refl _ _)
                case s18 =>
                  intro K' a wy ho hd hb2 hK
                  simp [Region.binds, rAt, IsV, slot] at hd
                  go_simp
                  try go_bits
                  exact hK _ _ rfl (Below.refl _ _)
                case s19 =>
                  intro K' a wy ho hd hb2 hK
                  have h3 := ho 0 (by decide)
                  simp [slot] at h3
                  clear hd
                  go_simp
                  try go_bits
                  exact hK _ _ rfl (Below.refl _ _)
                case s20 =>
                  intro K' a wy ho hd hb2 hK
                  simp [Region.binds, rAt, IsV, slot] at hd
                  go_simp
                  try go_bits
                  exact hK _ _ rfl (Below.refl _ _)
                case s21 =>
                  intro K' a wy ho hd hb2 hK
                  have h3 := ho 0 (by decide)
                  simp [slot] at h3
                  clear hd
                  go_simp
                  try go_bits
                  exact hK _ _ rfl (Below.refl _ _)
                case s22 =>
                  intro K' a wy ho hd hb2 hK
                  simp [Region.binds, rAt, IsV, slot] at hd
                  go_simp
                  try go_bits
                  exact hK _ _ rfl (Below.refl _ _)
                case s23 =>
                  intro K' a wy ho hd hb2 hK
                  have h3 := ho 0 (by decide)
                  simp [slot] at h3
                  clear hd
                  go_simp
                  try go_bits
                  exact hK _ _ rfl (Below.refl _ _)
                case s24 =>
                  intro K' a wy ho hd hb2 hK
                  have h3 := ho 3 (by decide)
                  simp [slot] at h3
                  clear hd
                  go_simp
                  try go_bits
                  exact hK _ _ rfl (Below.refl _ _)
                case s25 =>
                  intro K' a wy ho hd hb2 hK
                  simp [Region.binds, rAt, IsV, slot] at hd
                  go_simp
                  try go_bits
                  exact hK _ _ rfl (Below.refl _ _)
                case s26 =>
                  intro K' a wy ho hd hb2 hK
                  have h3 := ho 0 (by decide)
                  simp [slot] at h3
                  clear hd
                  go_simp
                  try go_bits
                  exact hK _ _ rfl (Below.refl _ _)
                case s27 =>
                  intro K' a wy ho hd hb2 hK
                  have h3 := ho 3 (by decide)
                  simp [slot] at h3
                  clear hd
                  go_simp
                  try go_bits
                  exact hK _ _ rfl (Below.refl _ _)
                case s28 =>
                  intro K' a wy ho hd hb2 hK
                  have h3 := ho 4 (by decide)
                  simp [slot] at h3
                  clear hd
                  go_simp
                  try go_bits
                  exact hK _ _ rfl (Below.refl _ _)
                case s29 =>
                  intro K' a wy ho hd hb2 hK
                  simp [Region.binds, rAt, IsV, slot] at hd
                  go_simp
                  try go_bits
                  exact hK _ _ rfl (Below.refl _ _)
                case s30 =>
                  intro K' a wy ho hd hb2 hK
                  simp [Region.binds, rAt, IsV, slot] at hd
                  go_simp
                  try go_bits
                  exact hK _ _ rfl (Below.refl _ _)
                case s31 =>
                  intro K' a wy ho hd hb2 hK
                  go_simp
                  exact hK _ _ ⟨wy.heap.size, rfl, hb2.size, BoxZ4.new wy⟩ ((Below.refl _ _).alloc (Nat.le_refl _) _)
              case lst =>
                intro X a K' wz ha hsl hR hb3 hK
                have HAct : Hid (a = _) := ha
                clear ha
                obtain ⟨z0, z1, z2, z3, z4, z5, z6, z7, z8, z9, z10, z11, z12, z13, z14, z15, z16, z17, z18, z19, z20, z21, z22, z23, z24, z25, z26, z27, z28, z29, z30, ⟨B, z31, hB, hz⟩, -⟩ := hR
                simp only [IsV] at z0 z1 z2 z3 z4 z5 z6 z7 z8 z9 z10 z11 z12 z13 z14 z15 z16 z17 z18 z19 z20 z21 z22 z23 z24 z25 z26 z27 z28 z29 z30
                have s6 := hsl 31 (by decide)
                have s83 := hsl 30 (by decide)
                rw [z31] at s6
                rw [z30] at s83
                simp [slot] at s6 s83
                clear hsl
                have hne : w.heap.size ≠ B := by have := HW2.out; omega
                have HZ4 : Hid (BoxZ4 wz B) := hz
                obtain ⟨p0, q0, p1, q1, p2, q2, p3, q3, p4, q4, p5, q5, p6, q6, p7, q7, p8, q8, p9, q9, p10, q10⟩ := hz
                go_simp
                refine hK _ _ ?_
                rw [HAct.out]
                simp only [putsFrom, z0, z1, z2, z3, z4, z5, z6, z7, z8, z9, z10, z11, z12, z13, z14, z15, z16, z17, z18, z19, z20, z21, z22, z23, z24, z25, z26, z27, z28, z29, z30, z31]
                clear z0 z1 z2 z3 z4 z5 z6 z7 z8 z9 z10 z11 z12 z13 z14 z15 z16 z17 z18 z19 z20 z21 z22 z23 z24 z25 z26 z27 z28 z29 z30 z31
                go_simp
                refine hK9 _ _ (hJ _ _ ?_)
                (repeat apply Exists.intro)
                refine ⟨⟨B, rfl, set11_box HZ4.out ⟨bt t 1, x4, decide (x6 / 16384 % 2 = 1), decide (x6 / 8192 % 2 = 1), x6 % 8192, bt t 8, bt t 9, t.extract 12 16, t.extract 16 20, t.extract 20 hn, t.extract hn an⟩, (set_other hne (set_other hne (set_other hne (set_other hne (set_other hne (set_other hne (set_other hne (set_other hne (set_other hne (set_other hne (set_other hne (K2.out.kept ((Below.refl _ w3).drew.trans hb3))))))))))))), ((((((((((((G2.out.trans (((Below.refl _ w3).drew.trans hb3).mono G2.out.size)).setCell (show w.heap.size ≤ B by have := HW2.out; omega) _).setCell (show w.heap.size ≤ B by have := HW2.out; omega) _).setCell (show w.heap.size ≤ B by have := HW2.out; omega) _).setCell (show w.heap.size ≤ B by have := HW2.out; omega) _).setCell (show w.heap.size ≤ B by have := HW2.out; omega) _).setCell (show w.heap.size ≤ B by have := HW2.out; omega) _).setCell (show w.heap.size ≤ B by have := HW2.out; omega) _).setCell (show w.heap.size ≤ B by have := HW2.out; omega) _).setCell (show w.heap.size ≤ B by have := HW2.out; omega) _).setCell (show w.heap.size ≤ B by have := HW2.out; omega) _).setCell (show w.heap.size ≤ B by have := HW2.out; omega) _)⟩, rfl⟩
            case rest =>
            obtain ⟨B, rfl, hbx, hox, hbel⟩ := hcut
            have G5 : Hid (Below w.heap.size w wc) := hbel
            have K5 : Hid (BoxV4 wc B ⟨bt t 1, x4, decide (x6 / 16384 % 2 = 1), decide (x6 / 8192 % 2 = 1), x6 % 8192, bt t 8, bt t 9, t.extract 12 16, t.extract 16 20, t.extract 20 hn, t.extract hn an⟩) := hbx
            have O5 : Hid (BoxO4 wc w.heap.size) := hox
            obtain ⟨k0, k1, k2, k3, k4, k5, k6, k7, k8, k9, k10⟩ := hbx
            clear hox hbel o0 y0 o1 y1 o2 y2 o3 y3 o4 y4 o5 y5 o6 y6 o7 y7 o8 y8 o9 y9 o10 y10 o11 y11 G2 K2
            go_wp2_with fail
            refine (HR.out _).mono ?_
            rintro e w6 ⟨rfl, q6⟩
            have G6 : Hid (Below w.heap.size w w6) := G5.out.trans (q6.mono G5.out.size)
            have K6 := K5.out.kept q6
            have O6 : Hid (BoxO4 w6 w.heap.size) := O5.out.kept q6
            clear q6 k0 k1 k2 k3 k4 k5 k6 k7 k8 k9 k10
            obtain ⟨k0, k1, k2, k3, k4, k5, k6, k7, k8, k9, k10⟩ := K6
            obtain ⟨o0, y0, o1, y1, o2, y2, o3, y3, o4, y4, o5, y5, o6, y6, o7, y7, o8, y8, o9, y9, o10, y10, o11, y11⟩ := O6.out
            cases ok with
            | false =>
              have HV : Hid (ans = z4 1) := HRd.out 1 HCode.out (by decide)
              clear HCode HRd HRk HPO HR
              go_wp2_with fail
              exact bodyPost_ret (v := z4 1) (by simp [results, Try.results46, go_sem, z4, o0, o1, o2, o3, o4, o5, o6, o7, o8, o9, o10, o11]) rfl ⟨by rw [HV.out], ((((((((((((G6.out.setCell (Nat.le_refl _) _).setCell (Nat.le_refl _) _).setCell (Nat.le_refl _) _).setCell (Nat.le_refl _) _).setCell (Nat.le_refl _) _).setCell (Nat.le_refl _) _).setCell (Nat.le_refl _) _).setCell (Nat.le_refl _) _).setCell (Nat.le_refl _) _).setCell (Nat.le_refl _) _).setCell (Nat.le_refl _) _).setCell (Nat.le_refl _) _)⟩
            | true =>
              have HV : Hid (ans = good) := HRk.out HCode.out
              clear HCode HRd HRk HR
              go_wp2_with fail
              exact bodyPost_ret (v := .agg #[.int .i64 (bt t 1), .int .i64 x4, .bool (decide (x6 / 16384 % 2 = 1)), .bool (decide (x6 / 8192 % 2 = 1)), .int .i64 (x6 % 8192), .int .i64 (bt t 8), .int .i64 (bt t 9), .string (t.extract 12 16), .string (t.extract 16 20), .string (t.extract 20 hn), .string (t.extract hn an), .int .i64 0]) (by simp [results, Try.results46, go_sem, o0, o1, o2, o3, o4, o5, o6, o7, o8, o9, o10, o11]) rfl ⟨by rw [HV.out, HPO.out], ((((((((((((G6.out.setCell (Nat.le_refl _) _).setCell (Nat.le_refl _) _).setCell (Nat.le_refl _) _).setCell (Nat.le_refl _) _).setCell (Nat.le_refl _) _).setCell (Nat.le_refl _) _).setCell (Nat.le_refl _) _).setCell (Nat.le_refl _) _).setCell (Nat.le_refl _) _).setCell (Nat.le_refl _) _).setCell (Nat.le_refl _) _).setCell (Nat.le_refl _) _)⟩
          · have HV : Hid (ans = z4 5) := HRd.out 5 (by rw [HCode.out, if_pos c6]) (by decide)
            have d6 : (sm != 65535) = true := by simp [c6]
            clear HCode HRd HRk HCut HC4
            go_wp2_with fail
            refine (HSum.out _).mono ?_
            rintro e w3 ⟨rfl, rfl⟩
            go_wp2_with fail
            exact bodyPost_ret (v := z4 5) (by simp [results, Try.results46, go_sem, z4, o0, o1, o2, o3, o4, o5, o6, o7, o8, o9, o10, o11]) rfl ⟨by rw [HV.out], ((((((((((((G2.out.setCell (Nat.le_refl _) _).setCell (Nat.le_refl _) _).setCell (Nat.le_refl _) _).setCell (Nat.le_refl _) _).setCell (Nat.le_refl _) _).setCell (Nat.le_refl _) _).setCell (Nat.le_refl _) _).setCell (Nat.le_refl _) _).setCell (Nat.le_refl _) _).setCell (Nat.le_refl _) _).setCell (Nat.le_refl _) _).setCell (Nat.le_refl _) _)⟩

end Go.Proofs.Ytofhcplnnamcdaa
