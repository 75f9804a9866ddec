/- The text of an address: what the specification's l02Zeros and AddrText answer. -/
import Derived.Test.YtebhljogijemoaaDoorText
import Derived.Test.YtebhljogijemoaaDoorBits
import Derived.Deep.LoopGhost
namespace Go.Proofs.YtebhljogijemoaaDoor
open Go.RowKit Go.PlainAid
set_option linter.unusedVariables false
set_option linter.unusedSimpArgs false

/-- How many groups from place i on, at most f, are 0. -/
def runL (g : Nat → Int) (i : Nat) : Nat → Nat
  | 0 => 0
  | f + 1 => if g i = 0 then 1 + runL g (i + 1) f else 0

theorem runL_le (g : Nat → Int) : ∀ f i, runL g i f ≤ f
  | 0, _ => by simp [runL]
  | f + 1, i => by have := runL_le g f (i + 1); unfold runL; split <;> omega

/-- The longest row of groups that are 0 among those that begin below i. -/
def bestN (g : Nat → Int) : Nat → Nat × Nat
  | 0 => (0, 0)
  | i + 1 => if (bestN g i).2 < runL g i (8 - i) then (i, runL g i (8 - i)) else bestN g i

theorem bestN_le (g : Nat → Int) : ∀ i, i ≤ 8 → (bestN g i).1 ≤ 7 ∧ (bestN g i).2 ≤ 8
  | 0, _ => by simp [bestN]
  | i + 1, h => by
    have := bestN_le g i (by omega)
    have := runL_le g (8 - i) i
    show (if _ then _ else _ : Nat × Nat).1 ≤ 7 ∧ (if _ then _ else _ : Nat × Nat).2 ≤ 8
    split
    · exact ⟨by show i ≤ 7; omega, by show runL g i (8 - i) ≤ 8; omega⟩
    · omega

/-- The groups of an address of IPv6. -/
def grp (s : ByteArray) (i : Nat) : Int := wordN (bt s) (2 * i)

/-- The row of groups that is shortened. -/
def zerosV (s : ByteArray) : Nat × Nat := if (bestN (grp s) 8).2 < 2 then (0, 0) else bestN (grp s) 8

theorem runL_step {g : Nat → Int} {i f : Nat} (h : g i = 0) : runL g i (f + 1) = 1 + runL g (i + 1) f := if_pos h
theorem runL_stop {g : Nat → Int} {i f : Nat} (h : g i ≠ 0) : runL g i (f + 1) = 0 := if_neg h

set_option maxRecDepth 100000 in
set_option maxHeartbeats 2000000 in
theorem specZeros_any (s : ByteArray) (w : World) (hs : s.size = 16) :
    Calls Tryd.prog 17 #[.string s] w fun e w' => e = .returned (.tuple #[.int .i64 (zerosV s).1, .int .i64 (zerosV s).2]) ∧ Below w.heap.size w w' := by
  have HS : Hid (s.size = 16) := hs
  have hm : s.size ≤ maxLen := by unfold maxLen; omega
  have HM : Hid (s.size ≤ maxLen) := hm
  clear hs hm
  go_enter Tryd.func17, Tryd.ntmps17
  go_wp2_with fail
  go_loopw [4, 5, 6] (fun a m k wr => ∃ i : Nat, i ≤ 8 ∧ k = .int .i64 i ∧ a = .int .i64 (bestN (grp s) i).1 ∧ m = .int .i64 (bestN (grp s) i).2 ∧ Below w.heap.size w wr) (fun _ _ k _ => 8 - (intOf k).toNat)
  case atStart => exact ⟨0, Nat.zero_le _, rfl, rfl, rfl, Below.refl _ _⟩
  case round =>
    obtain ⟨i, hi, rfl, rfl, rfl, hbel⟩ := hrel
    have HL : Hid (Below w.heap.size w wr) := hbel
    have hle := bestN_le (grp s) i hi
    clear hbel
    by_cases h8 : i < 8
    · have HB : Hid (bestN (grp s) (i + 1) = if (bestN (grp s) i).2 < runL (grp s) i (8 - i) then (i, runL (grp s) i (8 - i)) else bestN (grp s) i) := rfl
      have hsz := HL.out.size
      have d8 : decide ((i : Int) < 8) = true := by simp; omega
      go_wp2_with fail
      go_loopw [7] (fun c wi => ∃ n : Nat, i + n ≤ 8 ∧ c = .int .i64 n ∧ runL (grp s) i (8 - i) = n + runL (grp s) (i + n) (8 - (i + n)) ∧ Below w.heap.size w wi) (fun c _ => 8 - (intOf c).toNat)
      case atStart => exact ⟨0, by omega, rfl, by simp, HL.out⟩
      case round =>
        obtain ⟨n, hn, rfl, hr, hbel⟩ := hrel
        have HR : Hid _ := hr
        have HL2 : Hid _ := hbel
        clear hr hbel HL
        by_cases h9 : i + n < 8
        · obtain ⟨f, hf⟩ : ∃ f, 8 - (i + n) = f + 1 := ⟨8 - (i + n) - 1, by omega⟩
          have HC : Hid (∀ W, Calls Tryd.prog 19 #[.string s, .int .i64 (2 * ((i : Int) + (n : Int)))] W fun e w' => e = .returned (.int .i64 (grp s (i + n))) ∧ Below W.heap.size W w') := fun W => by
            have := specAt_any s (2 * (i + n)) W (by have := HS.out; omega) HM.out
            rw [show ((2 * (i + n) : Nat) : Int) = 2 * ((i : Int) + (n : Int)) by omega] at this
            exact this
          by_cases hg : grp s (i + n) = 0
          · have HS1 : Hid _ := runL_step (g := grp s) (i := i + n) (f := f) hg
            have HF : Hid (8 - (i + n) = f + 1) := hf
            have hg' : (grp s (i + n) == 0) = true := by simp [hg]
            clear hg hf
            go_wp2_with (go_at_call 19; refine (HC.out _).mono ?_; rintro e w3 ⟨rfl, q3⟩)
            go_roundw
            case rel => exact ⟨n + 1, by omega, by go_num, by rw [HR.out, HF.out, HS1.out, show 8 - (i + (n + 1)) = f by have := HF.out; omega, show i + (n + 1) = i + n + 1 by omega]; omega, HL2.out.trans (q3.mono HL2.out.size)⟩
            case measure => simp [intOf]; omega
          · have HE : Hid (runL (grp s) i (8 - i) = n) := by unfold Hid; rw [HR.out, hf, runL_stop hg]; omega
            have hg' : (grp s (i + n) == 0) = false := by simp [hg]
            clear hg hf
            by_cases hmn : (bestN (grp s) i).2 < n
            · have HB2 : Hid (bestN (grp s) (i + 1) = (i, n)) := by unfold Hid; rw [HB.out, HE.out, if_pos hmn]
              go_wp2_with (go_at_call 19; refine (HC.out _).mono ?_; rintro e w3 ⟨rfl, q3⟩)
              go_roundw
              case rel => exact ⟨i + 1, by omega, by go_num, by rw [HB2.out], by rw [HB2.out], HL2.out.trans (q3.mono HL2.out.size)⟩
              case measure => simp [intOf]; omega
            · have HB2 : Hid (bestN (grp s) (i + 1) = bestN (grp s) i) := by unfold Hid; rw [HB.out, HE.out, if_neg hmn]
              go_wp2_with (go_at_call 19; refine (HC.out _).mono ?_; rintro e w3 ⟨rfl, q3⟩)
              go_roundw
              case rel => exact ⟨i + 1, by omega, by go_num, by rw [HB2.out], by rw [HB2.out], HL2.out.trans (q3.mono HL2.out.size)⟩
              case measure => simp [intOf]; omega
        · have HE : Hid (runL (grp s) i (8 - i) = n) := by unfold Hid; rw [HR.out, show 8 - (i + n) = 0 by omega]; rfl
          by_cases hmn : (bestN (grp s) i).2 < n
          · have HB2 : Hid (bestN (grp s) (i + 1) = (i, n)) := by unfold Hid; rw [HB.out, HE.out, if_pos hmn]
            go_wp2
            go_roundw
            case rel => exact ⟨i + 1, by omega, by go_num, by rw [HB2.out], by rw [HB2.out], HL2.out⟩
            case measure => simp [intOf]; omega
          · have HB2 : Hid (bestN (grp s) (i + 1) = bestN (grp s) i) := by unfold Hid; rw [HB.out, HE.out, if_neg hmn]
            go_wp2
            go_roundw
            case rel => exact ⟨i + 1, by omega, by go_num, by rw [HB2.out], by rw [HB2.out], HL2.out⟩
            case measure => simp [intOf]; omega
    · have hi8 : i = 8 := by omega
      subst hi8
      by_cases h2 : (bestN (grp s) 8).2 < 2
      · have HZ : Hid (zerosV s = (0, 0)) := if_pos h2
        go_wp2
        go_ret2
        exact ⟨by rw [HZ.out]; rfl, HL.out⟩
      · have HZ : Hid (zerosV s = bestN (grp s) 8) := if_neg h2
        go_wp2
        go_ret2
        exact ⟨by rw [HZ.out]; rfl, HL.out⟩

/-- The text of the first k numbers of an address of IPv4. -/
def fourN (s : ByteArray) : Nat → List UInt8
  | 0 => []
  | k + 1 => fourN s k ++ (if k = 0 then [] else [46]) ++ decL (bt s k).toNat

/-- The text of the groups from i on of an address of IPv6, the row (at1, many) shortened; f: how many are left at most. -/
def restF (s : ByteArray) (at1 many : Nat) : Nat → Nat → List UInt8
  | 0, _ => []
  | f + 1, i =>
    if 8 ≤ i then []
    else if 0 < many ∧ i = at1 then [58, 58] ++ restF s at1 many f (i + many)
    else (if 0 < i ∧ (many = 0 ∨ i ≠ at1 + many) then [58] else []) ++ groupL (grp s i).toNat ++ restF s at1 many f (i + 1)

/-- The text of an address. -/
def addrTextL (s : ByteArray) : List UInt8 := if s.size = 4 then fourN s 4 else if s.size = 16 then restF s (zerosV s).1 (zerosV s).2 8 0 else []

theorem decL_length (n : Nat) : (decL n).length ≤ 20 := by
  unfold decL; split
  · simp
  · exact dgF_length 20 n

theorem fourN_length (s : ByteArray) : ∀ k, (fourN s k).length ≤ 21 * k
  | 0 => by simp [fourN]
  | k + 1 => by
    have := fourN_length s k
    have := decL_length (bt s k).toNat
    unfold fourN
    split <;> simp <;> omega

theorem grp_range (s : ByteArray) (i : Nat) : 0 ≤ grp s i ∧ grp s i ≤ 65535 := wordN_range (bt_isByte s) _
theorem zerosV_le (s : ByteArray) : (zerosV s).1 ≤ 7 ∧ (zerosV s).2 ≤ 8 := by
  unfold zerosV; split
  · simp
  · exact bestN_le _ 8 (by omega)

theorem restF_end (s : ByteArray) (at1 many f i : Nat) (h : 8 ≤ i) : restF s at1 many f i = [] := by cases f <;> simp [restF, h]
theorem restF_row {s : ByteArray} {at1 many f i : Nat} (h : i < 8) (h2 : 0 < many ∧ i = at1) : restF s at1 many (f + 1) i = [58, 58] ++ restF s at1 many f (i + many) := by
  conv => lhs; unfold restF
  rw [if_neg (by omega), if_pos h2]
theorem restF_one {s : ByteArray} {at1 many f i : Nat} (h : i < 8) (h2 : ¬ (0 < many ∧ i = at1)) : restF s at1 many (f + 1) i = (if 0 < i ∧ (many = 0 ∨ i ≠ at1 + many) then [58] else []) ++ groupL (grp s i).toNat ++ restF s at1 many f (i + 1) := by
  conv => lhs; unfold restF
  rw [if_neg (by omega), if_neg h2]

set_option maxRecDepth 100000 in
set_option maxHeartbeats 2000000 in
theorem specText4_any (s : ByteArray) (w : World) (hs : s.size = 4) :
    Calls Tryd.prog 6 #[.string s] w fun e w' => e = .returned (.string (ofL (addrTextL s))) ∧ Below w.heap.size w w' := by
  have HV : Hid (addrTextL s = fourN s 4) := if_pos hs
  have hok : addrOk s = true := addrOk_yes (.inl hs)
  have h4 : (s.size : Int) = 4 := by omega
  have hgb := get_bt s
  have HS : Hid (s.size = 4) := hs
  clear hs
  go_enter Tryd.func6, Tryd.ntmps6
  go_wp2_with fail
  refine (specAddrRight_any s _).mono ?_
  rw [hok]
  rintro e w ⟨rfl, rfl⟩
  clear hok
  go_wp2_with fail
  go_loopw [3, 4] (fun o k wr => ∃ i : Nat, i ≤ 4 ∧ k = .int .i64 i ∧ o = .string (ofL (fourN s i)) ∧ Below w.heap.size w wr) (fun _ k _ => 4 - (intOf k).toNat)
  case atStart => exact ⟨0, Nat.zero_le _, rfl, rfl, Below.refl _ _⟩
  case round =>
    obtain ⟨i, hi, rfl, rfl, hbel⟩ := hrel
    have HL : Hid (Below w.heap.size w wr) := hbel
    clear hbel
    by_cases h : i < 4
    · obtain ⟨x, hx⟩ := Int.eq_ofNat_of_zero_le (bt_nonneg s i)
      have hx0 := bt_nonneg s i
      have hx1 := bt_le s i
      have HX : Hid (bt s i = (x : Int)) := hx
      have hN : Hid (fourN s (i + 1) = fourN s i ++ (if i = 0 then [] else [46]) ++ decL x) := by unfold Hid; rw [show x = (bt s i).toNat by omega]; rfl
      have hl := fourN_length s i
      have hd := decL_length x
      have hcall : Hid (∀ W, Calls Tryd.prog 16 #[.int .i64 (bt s i)] W fun e w' => e = .returned (.string (ofL (decL x))) ∧ Below W.heap.size W w') := fun W => by rw [hx]; exact specDec_any x W (by omega)
      obtain ⟨T, hT⟩ : ∃ T, T = fourN s i := ⟨_, rfl⟩
      rw [← hT] at hl ⊢
      have HT : Hid (T = fourN s i) := hT
      obtain ⟨D, hD⟩ : ∃ D, D = decL x := ⟨_, rfl⟩
      rw [← hD] at hd hcall
      have HD : Hid (D = decL x) := hD
      have hi' : (i : Int) < (s.size : Int) := by omega
      have hi'' : i < s.size := by omega
      clear hT hD hx
      have ha1 : ∀ W, (Op.stringOp .add (ofL T) ⟨#[46]⟩).run Tryd.prog W = .ok (.string (ofL (T ++ [46]))) W := fun W => by
        rw [run_string_add_sum W _ _ (by rw [ofL_size]; show T.length + 1 ≤ _; omega), show (⟨#[46]⟩ : ByteArray) = ofL [46] from rfl, ofL_append]
      have ha2 : ∀ W, (Op.stringOp .add (ofL (T ++ [46])) (ofL D)).run Tryd.prog W = .ok (.string (ofL (T ++ [46] ++ D))) W := fun W => by
        rw [run_string_add_sum W _ _ (by rw [ofL_size, ofL_size]; simp; omega), ofL_append]
      have ha3 : ∀ W, (Op.stringOp .add (ofL T) (ofL D)).run Tryd.prog W = .ok (.string (ofL (T ++ D))) W := fun W => by
        rw [run_string_add_sum W _ _ (by rw [ofL_size, ofL_size]; omega), ofL_append]
      by_cases h0 : i = 0
      · have h0' : ¬ (0 : Int) < (i : Int) := by omega
        have HR : Hid (fourN s (i + 1) = T ++ D) := by unfold Hid; rw [hN.out, if_pos h0, HT.out, HD.out]; simp
        clear h0 hN HT HD
        go_wp2_with (go_at_call 16; refine (hcall.out _).mono ?_; rintro e w3 ⟨rfl, q3⟩)
        go_roundw
        case rel => exact ⟨i + 1, by omega, by go_num, by rw [HR.out], HL.out.trans (q3.mono HL.out.size)⟩
        case measure => simp [intOf]; omega
      · have h0' : (0 : Int) < (i : Int) := by omega
        have HR : Hid (fourN s (i + 1) = T ++ [46] ++ D) := by unfold Hid; rw [hN.out, if_neg h0, HT.out, HD.out]
        clear h0 hN HT HD
        go_wp2_with (go_at_call 16; refine (hcall.out _).mono ?_; rintro e w3 ⟨rfl, q3⟩)
        go_roundw
        case rel => exact ⟨i + 1, by omega, by go_num, by rw [HR.out]; simp, HL.out.trans (q3.mono HL.out.size)⟩
        case measure => simp [intOf]; omega
    · have hi4 : i = 4 := by omega
      subst hi4
      go_wp2
      go_ret
      exact ⟨ret_string (by rw [HV.out]), HL.out⟩

set_option maxRecDepth 100000 in
set_option maxHeartbeats 2000000 in
theorem specText16_any (s : ByteArray) (w : World) (hs : s.size = 16) :
    Calls Tryd.prog 6 #[.string s] w fun e w' => e = .returned (.string (ofL (addrTextL s))) ∧ Below w.heap.size w w' := by
  have HV : Hid (addrTextL s = restF s (zerosV s).1 (zerosV s).2 8 0) := by unfold Hid addrTextL; rw [if_neg (by omega), if_pos hs]
  have hok : addrOk s = true := addrOk_yes (.inr hs)
  have h4 : ((s.size : Int) == 4) = false := by simp; omega
  have HM : Hid (s.size ≤ maxLen) := by unfold Hid maxLen; omega
  have HS : Hid (s.size = 16) := hs
  have HZ : Hid (∀ W, Calls Tryd.prog 17 #[.string s] W fun e w' => e = .returned (.tuple #[.int .i64 (zerosV s).1, .int .i64 (zerosV s).2]) ∧ Below W.heap.size W w') := fun W => specZeros_any s W hs
  have hle := zerosV_le s
  generalize hz : zerosV s = z at *
  obtain ⟨at1, many⟩ := z
  simp only at hle HZ HV
  clear hz hs
  go_enter Tryd.func6, Tryd.ntmps6
  go_wp2_with fail
  refine (specAddrRight_any s _).mono ?_
  rw [hok]
  rintro e w ⟨rfl, rfl⟩
  clear hok
  go_wp2_with fail
  refine (HZ.out _).mono ?_
  rintro e w1 ⟨rfl, q1⟩
  have H1 : Hid (Below w.heap.size w w1) := q1
  clear q1 HZ
  go_wp2_with fail
  go_loopw [3, 7] (fun o k wr => ∃ (i f : Nat) (T : List UInt8), 8 ≤ i + f ∧ i ≤ 16 ∧ f ≤ 8 ∧ k = .int .i64 i ∧ o = .string (ofL T) ∧ T.length + 5 * f ≤ 40 ∧ restF s at1 many 8 0 = T ++ restF s at1 many f i ∧ Below w.heap.size w wr) (fun _ k _ => 16 - (intOf k).toNat)
  case atStart => exact ⟨0, 8, [], by omega, by omega, by omega, rfl, rfl, by simp, by simp, H1.out⟩
  case round =>
    obtain ⟨i, f, T, hif, hi, hf, rfl, rfl, hT, hr, hbel⟩ := hrel
    have HR : Hid _ := hr
    have HL : Hid (Below w.heap.size w wr) := hbel
    clear hr hbel H1
    by_cases h8 : i < 8
    · obtain ⟨f, rfl⟩ : ∃ f', f = f' + 1 := ⟨f - 1, by omega⟩
      by_cases hrow : 0 < many ∧ i = at1
      · have HE : Hid _ := restF_row (s := s) (at1 := at1) (many := many) (f := f) h8 hrow
        obtain ⟨hm0, hia⟩ := hrow
        have e1 : ((i : Int) == (at1 : Int)) = true := by simp [hia]
        have hm0' : (0 : Int) < (many : Int) := by omega
        have ha1 : ∀ W, (Op.stringOp .add (ofL T) ⟨#[58, 58]⟩).run Tryd.prog W = .ok (.string (ofL (T ++ [58, 58]))) W := fun W => by
          rw [run_string_add_sum W _ _ (by rw [ofL_size]; show T.length + 2 ≤ _; omega), show (⟨#[58, 58]⟩ : ByteArray) = ofL [58, 58] from rfl, ofL_append]
        clear hia
        go_wp2
        go_roundw
        case rel => exact ⟨i + many, f, T ++ [58, 58], by omega, by omega, by omega, by go_num, rfl, by simp; omega, by rw [HR.out, HE.out]; simp, HL.out⟩
        case measure => simp [intOf]; omega
      · have HE : Hid _ := restF_one (s := s) (at1 := at1) (many := many) (f := f) h8 hrow
        obtain ⟨x, hx⟩ := Int.eq_ofNat_of_zero_le (grp_range s i).1
        have hx1 := (grp_range s i).2
        obtain ⟨G, hG⟩ : ∃ G, G = groupL x := ⟨_, rfl⟩
        have hGl : G.length ≤ 4 := by rw [hG]; exact grpN_length x 4
        have HGD : Hid (G = groupL (grp s i).toNat) := by unfold Hid; rw [hG, hx]; rfl
        have HC : Hid (∀ W, Calls Tryd.prog 19 #[.string s, .int .i64 (2 * (i : Int))] W fun e w' => e = .returned (.int .i64 x) ∧ Below W.heap.size W w') := fun W => by
          have := specAt_any s (2 * i) W (by have := HS.out; omega) HM.out
          rw [show ((2 * i : Nat) : Int) = 2 * (i : Int) by omega, show wordN (bt s) (2 * i) = (x : Int) from hx] at this
          exact this
        have HGC : Hid (∀ W, Calls Tryd.prog 18 #[.int .i64 x] W fun e w' => e = .returned (.string (ofL G)) ∧ Below W.heap.size W w') := fun W => by rw [hG]; exact specGroup_any x W (by omega)
        have ha1 : ∀ W, (Op.stringOp .add (ofL T) ⟨#[58]⟩).run Tryd.prog W = .ok (.string (ofL (T ++ [58]))) W := fun W => by
          rw [run_string_add_sum W _ _ (by rw [ofL_size]; show T.length + 1 ≤ _; omega), show (⟨#[58]⟩ : ByteArray) = ofL [58] from rfl, ofL_append]
        have ha2 : ∀ W, (Op.stringOp .add (ofL (T ++ [58])) (ofL G)).run Tryd.prog W = .ok (.string (ofL (T ++ [58] ++ G))) W := fun W => by
          rw [run_string_add_sum W _ _ (by rw [ofL_size, ofL_size]; simp; omega), ofL_append]
        have ha3 : ∀ W, (Op.stringOp .add (ofL T) (ofL G)).run Tryd.prog W = .ok (.string (ofL (T ++ G))) W := fun W => by
          rw [run_string_add_sum W _ _ (by rw [ofL_size, ofL_size]; omega), ofL_append]
        clear hG hx hx1
        by_cases hm : many = 0
        · have em : ((many : Int) == 0) = true := by simp [hm]
          have em' : ¬ (0 : Int) < (many : Int) := by omega
          by_cases h0 : i = 0
          · have e0 : ¬ (0 : Int) < (i : Int) := by omega
            have HG : Hid (restF s at1 many 8 0 = T ++ G ++ restF s at1 many f (i + 1)) := by unfold Hid; rw [HR.out, HE.out, if_neg (by omega), ← HGD.out]; simp
            clear HR HE hm h0 hrow
            go_wp2_with (first | (go_at_call 19; refine (HC.out _).mono ?_; rintro e w3 ⟨rfl, q3⟩) | (go_at_call 18; refine (HGC.out _).mono ?_; rintro e w4 ⟨rfl, q4⟩))
            go_roundw
            case rel => exact ⟨i + 1, f, T ++ G, by omega, by omega, by omega, by go_num, rfl, by simp; omega, HG.out, (HL.out.trans (q3.mono HL.out.size)).trans (q4.mono (Nat.le_trans HL.out.size q3.size))⟩
            case measure => simp [intOf]; omega
          · have e0 : (0 : Int) < (i : Int) := by omega
            have HG : Hid (restF s at1 many 8 0 = T ++ [58] ++ G ++ restF s at1 many f (i + 1)) := by unfold Hid; rw [HR.out, HE.out, if_pos ⟨by omega, .inl hm⟩, ← HGD.out]; simp
            clear HR HE hm h0 hrow
            go_wp2_with (first | (go_at_call 19; refine (HC.out _).mono ?_; rintro e w3 ⟨rfl, q3⟩) | (go_at_call 18; refine (HGC.out _).mono ?_; rintro e w4 ⟨rfl, q4⟩))
            go_roundw
            case rel => exact ⟨i + 1, f, T ++ [58] ++ G, by omega, by omega, by omega, by go_num, by simp, by simp; omega, HG.out, (HL.out.trans (q3.mono HL.out.size)).trans (q4.mono (Nat.le_trans HL.out.size q3.size))⟩
            case measure => simp [intOf]; omega
        · have em : ((many : Int) == 0) = false := by simp [hm]
          have em' : (0 : Int) < (many : Int) := by omega
          have hia : i ≠ at1 := fun e => hrow ⟨by omega, e⟩
          have ea : ((i : Int) == (at1 : Int)) = false := by simp; omega
          by_cases h0 : i = 0
          · have e0 : ¬ (0 : Int) < (i : Int) := by omega
            have HG : Hid (restF s at1 many 8 0 = T ++ G ++ restF s at1 many f (i + 1)) := by unfold Hid; rw [HR.out, HE.out, if_neg (by omega), ← HGD.out]; simp
            clear HR HE hm h0 hrow hia
            go_wp2_with (first | (go_at_call 19; refine (HC.out _).mono ?_; rintro e w3 ⟨rfl, q3⟩) | (go_at_call 18; refine (HGC.out _).mono ?_; rintro e w4 ⟨rfl, q4⟩))
            go_roundw
            case rel => exact ⟨i + 1, f, T ++ G, by omega, by omega, by omega, by go_num, rfl, by simp; omega, HG.out, (HL.out.trans (q3.mono HL.out.size)).trans (q4.mono (Nat.le_trans HL.out.size q3.size))⟩
            case measure => simp [intOf]; omega
          · have e0 : (0 : Int) < (i : Int) := by omega
            by_cases hsum : i = at1 + many
            · have es : ((i : Int) != (at1 : Int) + (many : Int)) = false := by simp; omega
              have HG : Hid (restF s at1 many 8 0 = T ++ G ++ restF s at1 many f (i + 1)) := by unfold Hid; rw [HR.out, HE.out, if_neg (by omega), ← HGD.out]; simp
              clear HR HE hm h0 hrow hia hsum
              go_wp2_with (first | (go_at_call 19; refine (HC.out _).mono ?_; rintro e w3 ⟨rfl, q3⟩) | (go_at_call 18; refine (HGC.out _).mono ?_; rintro e w4 ⟨rfl, q4⟩))
              go_roundw
              case rel => exact ⟨i + 1, f, T ++ G, by omega, by omega, by omega, by go_num, rfl, by simp; omega, HG.out, (HL.out.trans (q3.mono HL.out.size)).trans (q4.mono (Nat.le_trans HL.out.size q3.size))⟩
              case measure => simp [intOf]; omega
            · have es : ((i : Int) != (at1 : Int) + (many : Int)) = true := by simp; omega
              have HG : Hid (restF s at1 many 8 0 = T ++ [58] ++ G ++ restF s at1 many f (i + 1)) := by unfold Hid; rw [HR.out, HE.out, if_pos ⟨by omega, .inr hsum⟩, ← HGD.out]; simp
              clear HR HE hm h0 hrow hia hsum
              go_wp2_with (first | (go_at_call 19; refine (HC.out _).mono ?_; rintro e w3 ⟨rfl, q3⟩) | (go_at_call 18; refine (HGC.out _).mono ?_; rintro e w4 ⟨rfl, q4⟩))
              go_roundw
              case rel => exact ⟨i + 1, f, T ++ [58] ++ G, by omega, by omega, by omega, by go_num, by simp, by simp; omega, HG.out, (HL.out.trans (q3.mono HL.out.size)).trans (q4.mono (Nat.le_trans HL.out.size q3.size))⟩
              case measure => simp [intOf]; omega
    · have HE : Hid _ := restF_end s at1 many f i (by omega)
      go_wp2
      go_ret
      exact ⟨ret_string (by rw [HV.out, HR.out, HE.out, List.append_nil]), HL.out⟩

theorem specAddrText_any (s : ByteArray) (w : World) :
    Calls Tryd.prog 6 #[.string s] w fun e w' => e = .returned (.string (ofL (addrTextL s))) ∧ Below w.heap.size w w' := by
  by_cases h4 : s.size = 4
  · exact specText4_any s w h4
  · by_cases h16 : s.size = 16
    · exact specText16_any s w h16
    · have hok : addrOk s = false := addrOk_no (by omega)
      have HV : Hid (ofL (addrTextL s) = ⟨#[]⟩) := by unfold Hid addrTextL; rw [if_neg h4, if_neg h16]; rfl
      clear h4 h16
      go_enter Tryd.func6, Tryd.ntmps6
      go_wp2_with fail
      refine (specAddrRight_any s _).mono ?_
      rw [hok]
      rintro e w ⟨rfl, rfl⟩
      go_wp2
      go_ret
      exact ⟨ret_string HV.out.symm, Below.refl _ _⟩

end Go.Proofs.YtebhljogijemoaaDoor
