/- Texts of addresses of IPv6: what the program's sixText and AddrText answer. -/
import Derived.Test.YtebhljogijemoaaDoorIText4
import Derived.Test.YtebhljogijemoaaDoorHex16
import Derived.BigQuiet
import Derived.Lib.QuietBelow
namespace Go.Proofs.YtebhljogijemoaaDoor
open Go.RowKit Go.PlainAid
set_option linter.unusedVariables false
set_option linter.unusedSimpArgs false

set_option maxHeartbeats 400000 in
theorem tz64_16 (W : World) (h : W.cell? ⟨5, 15, none⟩ = some (.int .u8 4)) :
    Calls Tryd.prog 87 #[.int .u64 16] W fun e w' => e = .returned (.int .i64 4) ∧ w' = W := by
  have hw : IntKind.u64.wrap (-16) = 18446744073709551600 := by decide
  have hand : bits .and .u64 16 18446744073709551600 = 16 := by decide
  have hmul : IntKind.u64.wrap 4573923408821661840 = 4573923408821661840 := by decide
  go_enter Tryd.func87, Tryd.ntmps87
  go_wp2_with fail
  go_ret
  exact ⟨rfl, rfl⟩

set_option maxHeartbeats 400000 in
theorem tz16 (W : World) (h : W.cell? ⟨5, 15, none⟩ = some (.int .u8 4)) :
    Calls Tryd.prog 78 #[.int .u64 16] W fun e w' => e = .returned (.int .i64 4) ∧ w' = W := by
  have H : Hid (W.cell? ⟨5, 15, none⟩ = some (.int .u8 4)) := h
  clear h
  go_enter Tryd.func78, Tryd.ntmps78
  go_wp2_with fail
  refine (tz64_16 W H.out).mono ?_
  rintro e w2 ⟨rfl, rfl⟩
  go_wp2_with fail
  go_ret
  exact ⟨rfl, rfl⟩

theorem runL_sum (g : Nat → Int) : ∀ i, i ≤ 8 → (bestN g i).1 + (bestN g i).2 ≤ 8
  | 0, _ => by simp [bestN]
  | i + 1, h => by
    have := runL_sum g i (by omega)
    have := runL_le g (8 - i) i
    show (if _ then _ else _ : Nat × Nat).1 + (if _ then _ else _ : Nat × Nat).2 ≤ 8
    split
    · show i + runL g i (8 - i) ≤ 8; omega
    · omega

theorem zerosV_sum (s : ByteArray) : (zerosV s).1 + (zerosV s).2 ≤ 8 ∧ ((zerosV s).2 = 0 → (zerosV s).1 = 0) := by
  unfold zerosV
  have := runL_sum (grp s) 8 (by omega)
  split
  · exact ⟨by simp, fun _ => rfl⟩
  · exact ⟨this, fun h => by omega⟩

/-- The texts of the groups. -/
def gl (s : ByteArray) (i : Nat) : List UInt8 := groupL (grp s i).toNat

def segL (s : ByteArray) (i n : Nat) : List ByteArray := (List.range n).map fun j => ofL (gl s (i + j))

def joinG (s : ByteArray) (i n : Nat) : List UInt8 := Lib.join ((segL s i n).map (·.data.toList)) [58]

theorem rest_none (s : ByteArray) : restF s 0 0 8 0 = joinG s 0 8 := by
  simp [restF, joinG, segL, Lib.join, List.intercalate, List.intersperse, List.range_succ, gl, ofL]

theorem rest_row (s : ByteArray) (a m : Nat) (hm : 0 < m) (h : a + m ≤ 8) : restF s a m 8 0 = joinG s 0 a ++ [58, 58] ++ joinG s (a + m) (8 - (a + m)) := by
  have ha : a = 0 ∨ a = 1 ∨ a = 2 ∨ a = 3 ∨ a = 4 ∨ a = 5 ∨ a = 6 ∨ a = 7 := by omega
  have hm' : m = 1 ∨ m = 2 ∨ m = 3 ∨ m = 4 ∨ m = 5 ∨ m = 6 ∨ m = 7 ∨ m = 8 := by omega
  rcases ha with e | e | e | e | e | e | e | e <;> subst e <;> rcases hm' with e | e | e | e | e | e | e | e <;> subst e <;>
    first
      | (exfalso; omega)
      | simp [restF, joinG, segL, Lib.join, List.intercalate, List.intersperse, List.range_succ, gl, ofL]

theorem Tryd.size9 (w : World) : (Go.sizeOf 9).run Tryd.prog w = .ok 1 w := by
  have h : (Tryd.prog.info? 9).map (fun i => i.size) = some 1 := by kernel_rfl
  cases hq : Tryd.prog.info? 9 with
  | none => simp [hq] at h
  | some i => simp [hq] at h; simp [sizeOf, typeInfo, hq, h]

theorem slice8_to (G a : Nat) (ha : a ≤ 8) (W : World) : (Instr.sliceAt 50 (.pointer (some ⟨G, 0, none⟩)) none (some (.int .i64 (a : Int))) none).run Tryd.prog W = .ok (.slice (some ⟨G, 0, none⟩) a 8) W := by
  have h1 : Tryd.prog.arrayLen 50 = 8 := by kernel_rfl
  have h2 : Tryd.prog.elem 50 = 9 := by kernel_rfl
  have h3 : Tryd.prog.underlying 50 = some (.array (Tryd.prog.arrayLen 50) (Tryd.prog.elem 50)) := by kernel_rfl
  rw [run_sliceAt_array_h W 50 ⟨G, 0, none⟩ h3 .i64 (a : Int) (by omega) (by rw [h1]; omega), h1, h2, Tryd.size9]
  show Result.ok (slicedAt ⟨G, 0, none⟩ 0 (a : Int).toNat 8 1) W = _
  unfold slicedAt
  have ha0 : Addr.add ⟨G, 0, none⟩ (0 * 1) = ⟨G, 0, none⟩ := by simp only [Addr.add]; split <;> simp_all
  rw [Int.toNat_natCast, if_neg (by omega), ha0]; simp

theorem slice8_from (G q : Nat) (hq : q ≤ 8) (W : World) : (Instr.sliceAt 50 (.pointer (some ⟨G, 0, none⟩)) (some (.int .i64 (q : Int))) none none).run Tryd.prog W = .ok (.slice (some ⟨G, if q = 8 then 0 else q, none⟩) (8 - q) (8 - q)) W := by
  have h1 : Tryd.prog.arrayLen 50 = 8 := by kernel_rfl
  have h2 : Tryd.prog.elem 50 = 9 := by kernel_rfl
  have h3 : Tryd.prog.underlying 50 = some (.array (Tryd.prog.arrayLen 50) (Tryd.prog.elem 50)) := by kernel_rfl
  rw [run_sliceAt_array_l W 50 ⟨G, 0, none⟩ h3 .i64 (q : Int) (by omega) (by rw [h1]; omega), h1, h2, Tryd.size9]
  show Result.ok (slicedAt ⟨G, 0, none⟩ (q : Int).toNat 8 8 1) W = _
  unfold slicedAt
  have ha0 : Addr.add ⟨G, 0, none⟩ q = ⟨G, q, none⟩ := by simp only [Addr.add, Nat.zero_add]; split <;> simp_all
  rw [Int.toNat_natCast, Nat.mul_one]
  by_cases h : q = 8
  · rw [if_pos h.symm, if_pos h]
  · rw [if_neg (fun e => h e.symm), if_neg h, ha0]

theorem gl_length (s : ByteArray) (i : Nat) : (gl s i).length ≤ 4 := grpN_length _ 4

theorem joinG_length (s : ByteArray) (i : Nat) : ∀ n, n ≤ 8 → (joinG s i n).length ≤ 40 := by
  intro n hn
  have g := gl_length s
  have g0 := g i; have g1 := g (i + 1); have g2 := g (i + 2); have g3 := g (i + 3); have g4 := g (i + 4); have g5 := g (i + 5); have g6 := g (i + 6); have g7 := g (i + 7)
  have hn' : n = 0 ∨ n = 1 ∨ n = 2 ∨ n = 3 ∨ n = 4 ∨ n = 5 ∨ n = 6 ∨ n = 7 ∨ n = 8 := by omega
  rcases hn' with e | e | e | e | e | e | e | e | e <;> subst e <;> simp [joinG, segL, Lib.join, List.intercalate, List.intersperse, List.range_succ, ofL] <;> omega

/-- The groups from place i on, n of them, joined. -/
theorem join_seg (s : ByteArray) (G i n c : Nat) (w : World) (hn : i + n ≤ 8) (hc : n ≤ c) (h : HoldsT w G 8 (gl s)) :
    Calls Tryd.prog 32 #[.slice (some ⟨G, i, none⟩) n c, .string ⟨#[58]⟩] w fun e w' => e = .returned (.string (ofL (joinG s i n))) ∧ Below w.heap.size w w' := by
  have hl : (segL s i n).length = n := by simp [segL]
  have := Tryd.strings_Join G i c (segL s i n) ⟨#[58]⟩ w (by
    intro j x hj
    have hjn : j < n := by
      by_cases h' : j < n
      · exact h'
      · rw [List.getElem?_eq_none (by rw [hl]; omega)] at hj; simp at hj
    simp [segL, hjn] at hj
    rw [(h.get (i + j) (by omega)).1, ← hj]) (World.block_lt_of_cell? _ _ (h.get 0 (by omega)).1) (by rw [hl]; omega) (by rw [hl]; exact hc) (by
    have := joinG_length s i n (by omega)
    show (joinG s i n).length ≤ _; omega)
  rw [hl] at this
  exact this

set_option maxRecDepth 100000 in
set_option maxHeartbeats 1000000 in
theorem implText6_any (s : ByteArray) (w : World) (hs : s.size = 16) (htab : ∀ W, Below w.heap.size w W → W.cell? ⟨5, 15, none⟩ = some (.int .u8 4)) :
    Calls Tryd.prog 14 #[.string s] w fun e w' => e = .returned (.string (ofL (restF s (zerosV s).1 (zerosV s).2 8 0))) ∧ Below w.heap.size w w' := by
  have HF : Hid (∀ n : Nat, n ≤ 65535 → ∀ W, Below w.heap.size w W → Calls Tryd.prog 33 #[.int .i64 n, .int .i64 16] W fun e w' => e = .returned (.string (ofL (groupL n))) ∧ Below W.heap.size W w') := fun n hn W hW =>
    formatInt16 n W hn (fun W2 h2 => tz16 W2 (htab W2 (hW.trans (h2.mono hW.size))))
  have HZ : Hid (∀ W, Calls Tryd.prog 35 #[.string s] W fun e w' => e = .returned (.tuple #[.int .i64 (zerosV s).1, .int .i64 (zerosV s).2]) ∧ Below W.heap.size W w') := fun W => implZeros_any s W hs
  have hsum := zerosV_sum s
  generalize hz : zerosV s = z at *
  obtain ⟨at1, many⟩ := z
  simp only at hsum HZ
  have HS : Hid (s.size = 16) := hs
  have HM : Hid (s.size ≤ maxLen) := by unfold Hid maxLen; omega
  have hh0 : Hid (HoldsT (w.alloc (.cells #[.string ⟨#[]⟩, .string ⟨#[]⟩, .string ⟨#[]⟩, .string ⟨#[]⟩, .string ⟨#[]⟩, .string ⟨#[]⟩, .string ⟨#[]⟩, .string ⟨#[]⟩] 50)) w.heap.size 8 (fun i => if i < 0 then gl s i else [])) := ⟨fun i hi => by
    have : i = 0 ∨ i = 1 ∨ i = 2 ∨ i = 3 ∨ i = 4 ∨ i = 5 ∨ i = 6 ∨ i = 7 := by omega
    rcases this with h | h | h | h | h | h | h | h <;> subst h <;> simp [ofL]⟩
  have HB0 : Hid (Below w.heap.size w (w.alloc (.cells #[.string ⟨#[]⟩, .string ⟨#[]⟩, .string ⟨#[]⟩, .string ⟨#[]⟩, .string ⟨#[]⟩, .string ⟨#[]⟩, .string ⟨#[]⟩, .string ⟨#[]⟩] 50))) := (Below.refl _ _).alloc (Nat.le_refl _) _
  clear htab hs hz
  go_enter Tryd.func14, Tryd.ntmps14
  go_wp2_with fail
  go_loopw [7] (fun i wr => ∃ k : Nat, k ≤ 8 ∧ i = .int .i64 k ∧ HoldsT wr w.heap.size 8 (fun i => if i < k then gl s i else []) ∧ Below w.heap.size w wr) (fun i _ => 8 - (intOf i).toNat)
  case atStart => exact ⟨0, Nat.zero_le _, rfl, hh0.out, HB0.out⟩
  case round =>
    obtain ⟨k, hk, rfl, hh, hbel⟩ := hrel
    have HH : Hid (HoldsT wr w.heap.size 8 (fun i => if i < k then gl s i else [])) := hh
    have HL : Hid (Below w.heap.size w wr) := hbel
    clear hh hbel hh0 HB0
    by_cases hlt : k < 8
    · obtain ⟨x, hx⟩ := Int.eq_ofNat_of_zero_le (grp_range s k).1
      have hx1 := (grp_range s k).2
      have HX : Hid (grp s k = (x : Int)) := hx
      have hcw : Hid (∀ W, Calls Tryd.prog 34 #[.string s, .int .i64 (2 * (k : Int))] W fun e w' => e = .returned (.int .i64 x) ∧ w' = W) := fun W => by
        have := wordFromS_any s (2 * k) W (by have := HS.out; omega) HM.out
        rw [show ((2 * k : Nat) : Int) = 2 * (k : Int) by omega, show wordN (bt s) (2 * k) = (x : Int) from hx] at this
        exact this
      have hcall : Hid (Calls Tryd.prog 33 #[.int .i64 x, .int .i64 16] wr fun e w' => e = .returned (.string (ofL (groupL x))) ∧ Below wr.heap.size wr w') := HF.out x (by omega) wr HL.out
      have hGr : w.heap.size < wr.heap.size := World.block_lt_of_cell? _ _ (HH.out.get 0 (by omega)).1
      clear hx
      go_wp2_with fail
      refine (hcw.out _).mono ?_
      rintro e wx ⟨rfl, rfl⟩
      go_wp2_with fail
      refine Calls.mono hcall.out ?_
      rintro e w2 ⟨rfl, q2⟩
      have H2 := HH.out.below hGr q2
      have HB2 : Hid (Below w.heap.size w w2) := HL.out.trans (q2.mono HL.out.size)
      obtain ⟨hc1, hc2⟩ := H2.get k hlt
      have H3 : Hid (HoldsT (w2.setCell ⟨w.heap.size, k, none⟩ (.string (ofL (groupL x)))) w.heap.size 8 (fun i => if i < k + 1 then gl s i else [])) := (H2.set k hlt (groupL x)).congr (fun i _ => by
        by_cases e : i = k
        · rw [if_pos e, if_pos (by omega), e]; unfold gl; rw [HX.out]; rfl
        · rw [if_neg e]
          by_cases h2 : i < k
          · rw [if_pos h2, if_pos (by omega)]
          · rw [if_neg h2, if_neg (by omega)])
      clear H2 q2 hcall
      go_wp2_with fail
      go_roundw
      case rel => exact ⟨k + 1, by omega, by go_num, H3.out, HB2.out.setCell (by simp) _⟩
      case measure => simp [intOf]; omega
    · have hk8 : k = 8 := by omega
      subst hk8
      have HG : Hid (HoldsT wr w.heap.size 8 (gl s)) := HH.out.congr (fun i hi => by rw [if_pos hi])
      clear HH
      go_wp2_with fail
      refine (HZ.out _).mono ?_
      rintro e w2 ⟨rfl, q2⟩
      have hGr : w.heap.size < wr.heap.size := World.block_lt_of_cell? _ _ (HG.out.get 0 (by omega)).1
      have HG2 : Hid (HoldsT w2 w.heap.size 8 (gl s)) := HG.out.below hGr q2
      have HB2 : Hid (Below w.heap.size w w2) := HL.out.trans (q2.mono HL.out.size)
      have hG2 : w.heap.size < w2.heap.size := Nat.lt_of_lt_of_le hGr q2.size
      clear q2 HG HL HZ HF
      by_cases hm : many = 0
      · have ha0 : at1 = 0 := hsum.2 hm
        subst hm ha0
        have HV : Hid (restF s 0 0 8 0 = joinG s 0 8) := rest_none s
        have HJ : Hid (Calls Tryd.prog 32 #[.slice (some ⟨w.heap.size, 0, none⟩) 8 8, .string ⟨#[58]⟩] w2 fun e w' => e = .returned (.string (ofL (joinG s 0 8))) ∧ Below w2.heap.size w2 w') := join_seg s w.heap.size 0 8 8 w2 (by omega) (by omega) HG2.out
        clear hsum
        go_wp2_with fail
        refine Calls.mono HJ.out ?_
        rintro e w3 ⟨rfl, q3⟩
        go_wp2_with fail
        go_ret
        exact ⟨ret_string (by rw [HV.out]), HB2.out.trans (q3.mono HB2.out.size)⟩
      · have em : ((many : Int) == 0) = false := by simp; omega
        have hsum' := hsum.1
        have HV : Hid (restF s at1 many 8 0 = joinG s 0 at1 ++ [58, 58] ++ joinG s (at1 + many) (8 - (at1 + many))) := rest_row s at1 many (by omega) hsum'
        have hs1 := slice8_to w.heap.size at1 (by omega)
        have hs2 := slice8_from w.heap.size (at1 + many) (by omega)
        rw [show ((at1 + many : Nat) : Int) = (at1 : Int) + (many : Int) by omega] at hs2
        obtain ⟨q, hq⟩ : ∃ q, q = if at1 + many = 8 then 0 else at1 + many := ⟨_, rfl⟩
        rw [← hq] at hs2
        obtain ⟨n2, hn2⟩ : ∃ n2, n2 = 8 - (at1 + many) := ⟨_, rfl⟩
        rw [← hn2] at hs2 HV
        have hl1 := joinG_length s 0 at1 (by omega)
        have hl2 := joinG_length s (at1 + many) n2 (by omega)
        have HJ1 : Hid (∀ W, Below w2.heap.size w2 W → Calls Tryd.prog 32 #[.slice (some ⟨w.heap.size, 0, none⟩) at1 8, .string ⟨#[58]⟩] W fun e w' => e = .returned (.string (ofL (joinG s 0 at1))) ∧ Below W.heap.size W w') := fun W hW => join_seg s w.heap.size 0 at1 8 W (by omega) (by omega) (HG2.out.below hG2 hW)
        have HJ2 : Hid (∀ W, Below w2.heap.size w2 W → Calls Tryd.prog 32 #[.slice (some ⟨w.heap.size, q, none⟩) n2 n2, .string ⟨#[58]⟩] W fun e w' => e = .returned (.string (ofL (joinG s (at1 + many) n2))) ∧ Below W.heap.size W w') := fun W hW => by
          by_cases h8 : at1 + many = 8
          · have h0 : n2 = 0 := by omega
            rw [h0]
            have := join_seg s w.heap.size q 0 0 W (by rw [hq, if_pos h8]; omega) (by omega) (HG2.out.below hG2 hW)
            rwa [show joinG s q 0 = joinG s (at1 + many) 0 from rfl] at this
          · rw [show q = at1 + many by rw [hq, if_neg h8]]
            exact join_seg s w.heap.size (at1 + many) n2 n2 W (by omega) (by omega) (HG2.out.below hG2 hW)
        obtain ⟨J1, hJ1⟩ : ∃ J1, J1 = joinG s 0 at1 := ⟨_, rfl⟩
        obtain ⟨J2, hJ2⟩ : ∃ J2, J2 = joinG s (at1 + many) n2 := ⟨_, rfl⟩
        rw [← hJ1] at HJ1 HV hl1
        rw [← hJ2] at HJ2 HV hl2
        have ha1 : ∀ W, (Op.stringOp .add (ofL J1) ⟨#[58, 58]⟩).run Tryd.prog W = .ok (.string (ofL (J1 ++ [58, 58]))) W := fun W => by
          rw [run_string_add_sum W _ _ (by rw [ofL_size]; show J1.length + 2 ≤ _; omega), show (⟨#[58, 58]⟩ : ByteArray) = ofL [58, 58] from rfl, ofL_append]
        have ha2 : ∀ W, (Op.stringOp .add (ofL (J1 ++ [58, 58])) (ofL J2)).run Tryd.prog W = .ok (.string (ofL (J1 ++ [58, 58] ++ J2))) W := fun W => by
          rw [run_string_add_sum W _ _ (by rw [ofL_size, ofL_size]; simp; omega), ofL_append]
        clear hq hn2 hJ1 hJ2 hsum hG2 hGr
        go_wp2_with fail
        refine wp_region_quiet_below (by kernel_rfl) (by kernel_rfl) ?_
        repeat (go_big_quiet_step ((first | (go_at_call_of 32 (Value.slice (some ⟨w.heap.size, 0, none⟩) at1 8); exact Calls.regrown_of (HJ1.out _ (below_regrown _ _ _))) | (go_at_call_of 32 (Value.slice (some ⟨w.heap.size, q, none⟩) n2 n2); exact Calls.regrown_of (HJ2.out _ (below_regrown _ _ _))))))
        refine wpQuiet_nil ?_
        rintro w4 ⟨⟨dq, osq⟩, rfl⟩
        go_wp2_with fail
        go_ret
        exact ⟨ret_string (by rw [HV.out]; simp), HB2.out.trans ((below_regrown w2 dq osq).mono HB2.out.size)⟩

theorem implAddrText_any (s : ByteArray) (w : World) (htab : Lib.TabIs Tryd.prog w "internal/strconv.uint64pow10" .u64 Lib.pow10Tab) (htz : ∀ W, Below w.heap.size w W → W.cell? ⟨5, 15, none⟩ = some (.int .u8 4)) :
    Calls Tryd.prog 5 #[.string s] w fun e w' => e = .returned (.string (ofL (addrTextL s))) ∧ Below w.heap.size w w' := by
  have HT : Hid (Lib.TabIs Tryd.prog w "internal/strconv.uint64pow10" .u64 Lib.pow10Tab) := htab
  have HZ : Hid (∀ W, Below w.heap.size w W → W.cell? ⟨5, 15, none⟩ = some (.int .u8 4)) := htz
  clear htab htz
  by_cases h4 : s.size = 4
  · have HV : Hid (addrTextL s = fourN s 4) := by unfold Hid addrTextL; rw [if_pos h4]
    have e4 : (s.size : Int) = 4 := by omega
    have HS : Hid (s.size = 4) := h4
    clear h4
    go_enter Tryd.func5, Tryd.ntmps5
    go_wp2_with fail
    refine (implText4_any s w HS.out HT.out).mono ?_
    rintro e w2 ⟨rfl, q2⟩
    go_wp2_with fail
    go_ret
    exact ⟨ret_string (by rw [HV.out]), q2⟩
  · by_cases h16 : s.size = 16
    · have HV : Hid (addrTextL s = restF s (zerosV s).1 (zerosV s).2 8 0) := by unfold Hid addrTextL; rw [if_neg h4, if_pos h16]
      have e16 : (s.size : Int) = 16 := by omega
      have HS : Hid (s.size = 16) := h16
      clear h4 h16
      go_enter Tryd.func5, Tryd.ntmps5
      go_wp2_with fail
      refine (implText6_any s w HS.out HZ.out).mono ?_
      rintro e w2 ⟨rfl, q2⟩
      go_wp2_with fail
      go_ret
      exact ⟨ret_string (by rw [HV.out]), q2⟩
    · have HV : Hid (ofL (addrTextL s) = ⟨#[]⟩) := by unfold Hid addrTextL; rw [if_neg h4, if_neg h16]; rfl
      have e4 : ((s.size : Int) == 4) = false := by simp; omega
      have e16 : ((s.size : Int) == 16) = false := by simp; omega
      clear h4 h16
      go_enter Tryd.func5, Tryd.ntmps5
      go_wp2_with fail
      go_ret
      exact ⟨ret_string HV.out.symm, Below.refl _ _⟩

end Go.Proofs.YtebhljogijemoaaDoor
