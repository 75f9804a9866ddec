/- Texts of addresses: what the program's zeroRow answers. -/
import Derived.Test.YtebhljogijemoaaDoorAddrText
namespace Go.Proofs.YtebhljogijemoaaDoor
open Go.RowKit Go.PlainAid
set_option linter.unusedVariables false
set_option linter.unusedSimpArgs false

/-- The longest row of two or more groups that are 0 among those that begin below i. -/
def rowN (g : Nat → Int) (i : Nat) : Nat × Nat := if (bestN g i).2 < 2 then (0, 0) else bestN g i

theorem rowN_step (g : Nat → Int) (i : Nat) : rowN g (i + 1) = if 2 ≤ runL g i (8 - i) ∧ (rowN g i).2 < runL g i (8 - i) then (i, runL g i (8 - i)) else rowN g i := by
  have hb : bestN g (i + 1) = if (bestN g i).2 < runL g i (8 - i) then (i, runL g i (8 - i)) else bestN g i := rfl
  generalize runL g i (8 - i) = r at *
  unfold rowN
  by_cases h1 : (bestN g i).2 < r
  · rw [hb, if_pos h1]
    by_cases h2 : (bestN g i).2 < 2
    · rw [if_pos h2]
      by_cases h3 : 2 ≤ r
      · rw [if_neg (by simp; omega), if_pos ⟨h3, by simp; omega⟩]
      · rw [if_pos (by simp; omega), if_neg (fun h => h3 h.1)]
    · rw [if_neg h2, if_neg (by simp; omega), if_pos ⟨by omega, h1⟩]
  · rw [hb, if_neg h1]
    by_cases h2 : (bestN g i).2 < 2
    · rw [if_pos h2, if_neg (fun h => by omega)]
    · rw [if_neg h2, if_neg (fun h => h1 h.2)]

theorem rowN_le (g : Nat → Int) (i : Nat) (hi : i ≤ 8) : (rowN g i).1 ≤ 7 ∧ (rowN g i).2 ≤ 8 := by
  have := bestN_le g i hi
  unfold rowN; split
  · exact ⟨Nat.zero_le _, Nat.zero_le _⟩
  · exact this

set_option maxRecDepth 100000 in
set_option maxHeartbeats 1000000 in
theorem implZeros_any (s : ByteArray) (w : World) (hs : s.size = 16) :
    Calls Tryd.prog 35 #[.string s] w fun e w' => e = .returned (.tuple #[.int .i64 (zerosV s).1, .int .i64 (zerosV s).2]) ∧ Below w.heap.size w w' := by
  have HS : Hid (s.size = 16) := hs
  have hm : s.size ≤ maxLen := by unfold maxLen; omega
  have HM : Hid (s.size ≤ maxLen) := hm
  clear hs hm
  go_enter Tryd.func35, Tryd.ntmps35
  go_wp2_with fail
  go_loopw [2, 3, 6] (fun a m k wr => ∃ i : Nat, i ≤ 8 ∧ k = .int .i64 i ∧ a = .int .i64 (rowN (grp s) i).1 ∧ m = .int .i64 (rowN (grp s) i).2 ∧ Below w.heap.size w wr) (fun _ _ k _ => 8 - (intOf k).toNat)
  case atStart => exact ⟨0, Nat.zero_le _, rfl, rfl, rfl, Below.refl _ _⟩
  case round =>
    obtain ⟨i, hi, rfl, rfl, rfl, hbel⟩ := hrel
    have HL : Hid (Below w.heap.size w wr) := hbel
    have hle := rowN_le (grp s) i hi
    clear hbel
    by_cases h8 : i < 8
    · have HB : Hid _ := rowN_step (grp s) i
      have hsz := HL.out.size
      have d8 : decide ((i : Int) < 8) = true := by simp; omega
      go_wp2_with fail
      go_loopw [5] (fun c wi => ∃ n : Nat, i + n ≤ 8 ∧ c = .int .i64 n ∧ runL (grp s) i (8 - i) = n + runL (grp s) (i + n) (8 - (i + n)) ∧ Below w.heap.size w wi) (fun c _ => 8 - (intOf c).toNat)
      case atStart => exact ⟨0, by omega, rfl, by simp, HL.out⟩
      case round =>
        obtain ⟨n, hn, rfl, hr, hbel⟩ := hrel
        have HR : Hid _ := hr
        have HL2 : Hid _ := hbel
        clear hr hbel HL
        by_cases h9 : i + n < 8
        · obtain ⟨f, hf⟩ : ∃ f, 8 - (i + n) = f + 1 := ⟨8 - (i + n) - 1, by omega⟩
          have HC : Hid (∀ W, Calls Tryd.prog 34 #[.string s, .int .i64 (2 * ((i : Int) + (n : Int)))] W fun e w' => e = .returned (.int .i64 (grp s (i + n))) ∧ w' = W) := fun W => by
            have := wordFromS_any s (2 * (i + n)) W (by have := HS.out; omega) HM.out
            rw [show ((2 * (i + n) : Nat) : Int) = 2 * ((i : Int) + (n : Int)) by omega] at this
            exact this
          by_cases hg : grp s (i + n) = 0
          · have HS1 : Hid _ := runL_step (g := grp s) (i := i + n) (f := f) hg
            have HF : Hid (8 - (i + n) = f + 1) := hf
            have hg' : (grp s (i + n) == 0) = true := by simp [hg]
            clear hg hf
            go_wp2_with (go_at_call 34; refine (HC.out _).mono ?_; rintro e w3 ⟨rfl, rfl⟩)
            go_roundw
            case rel => exact ⟨n + 1, by omega, by go_num, by rw [HR.out, HF.out, HS1.out, show 8 - (i + (n + 1)) = f by have := HF.out; omega, show i + (n + 1) = i + n + 1 by omega]; omega, HL2.out⟩
            case measure => simp [intOf]; omega
          · have HE : Hid (runL (grp s) i (8 - i) = n) := by unfold Hid; rw [HR.out, hf, runL_stop hg]; omega
            have hg' : (grp s (i + n) == 0) = false := by simp [hg]
            clear hg hf
            by_cases hmn : 2 ≤ n ∧ (rowN (grp s) i).2 < n
            · have HB2 : Hid (rowN (grp s) (i + 1) = (i, n)) := by unfold Hid; rw [HB.out, HE.out, if_pos hmn]
              obtain ⟨hm1, hm2⟩ := hmn
              go_wp2_with (go_at_call 34; refine (HC.out _).mono ?_; rintro e w3 ⟨rfl, rfl⟩)
              go_roundw
              case rel => exact ⟨i + 1, by omega, by go_num, by rw [HB2.out], by rw [HB2.out], HL2.out⟩
              case measure => simp [intOf]; omega
            · have HB2 : Hid (rowN (grp s) (i + 1) = rowN (grp s) i) := by unfold Hid; rw [HB.out, HE.out, if_neg hmn]
              by_cases hm1 : 2 ≤ n
              · have hm2 : ¬ (rowN (grp s) i).2 < n := fun h => hmn ⟨hm1, h⟩
                clear hmn
                go_wp2_with (go_at_call 34; refine (HC.out _).mono ?_; rintro e w3 ⟨rfl, rfl⟩)
                go_roundw
                case rel => exact ⟨i + 1, by omega, by go_num, by rw [HB2.out], by rw [HB2.out], HL2.out⟩
                case measure => simp [intOf]; omega
              · clear hmn
                go_wp2_with (go_at_call 34; refine (HC.out _).mono ?_; rintro e w3 ⟨rfl, rfl⟩)
                go_roundw
                case rel => exact ⟨i + 1, by omega, by go_num, by rw [HB2.out], by rw [HB2.out], HL2.out⟩
                case measure => simp [intOf]; omega
        · have HE : Hid (runL (grp s) i (8 - i) = n) := by unfold Hid; rw [HR.out, show 8 - (i + n) = 0 by omega]; rfl
          by_cases hmn : 2 ≤ n ∧ (rowN (grp s) i).2 < n
          · have HB2 : Hid (rowN (grp s) (i + 1) = (i, n)) := by unfold Hid; rw [HB.out, HE.out, if_pos hmn]
            obtain ⟨hm1, hm2⟩ := hmn
            go_wp2
            go_roundw
            case rel => exact ⟨i + 1, by omega, by go_num, by rw [HB2.out], by rw [HB2.out], HL2.out⟩
            case measure => simp [intOf]; omega
          · have HB2 : Hid (rowN (grp s) (i + 1) = rowN (grp s) i) := by unfold Hid; rw [HB.out, HE.out, if_neg hmn]
            by_cases hm1 : 2 ≤ n
            · have hm2 : ¬ (rowN (grp s) i).2 < n := fun h => hmn ⟨hm1, h⟩
              clear hmn
              go_wp2
              go_roundw
              case rel => exact ⟨i + 1, by omega, by go_num, by rw [HB2.out], by rw [HB2.out], HL2.out⟩
              case measure => simp [intOf]; omega
            · clear hmn
              go_wp2
              go_roundw
              case rel => exact ⟨i + 1, by omega, by go_num, by rw [HB2.out], by rw [HB2.out], HL2.out⟩
              case measure => simp [intOf]; omega
    · have hi8 : i = 8 := by omega
      subst hi8
      have HZ : Hid (zerosV s = rowN (grp s) 8) := rfl
      go_wp2
      go_ret2
      exact ⟨by rw [HZ.out]; rfl, HL.out⟩

end Go.Proofs.YtebhljogijemoaaDoor
