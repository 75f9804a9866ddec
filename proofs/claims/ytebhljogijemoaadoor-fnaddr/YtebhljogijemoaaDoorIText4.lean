/- Texts of addresses of IPv4: what the program's fourText answers. -/
import Derived.Test.YtebhljogijemoaaDoorITexts
import Derived.Test.YtebhljogijemoaaDoorShelf
import Derived.Lib.AppendIntMem
namespace Go.Proofs.YtebhljogijemoaaDoor
open Go.RowKit Go.PlainAid
set_option linter.unusedVariables false
set_option linter.unusedSimpArgs false

/-- A row of n texts in block B that may be written. -/
structure HoldsT (w : World) (B n : Nat) (f : Nat → List UInt8) : Prop where
  get : ∀ i, i < n → w.cell? ⟨B, i, none⟩ = some (.string (ofL (f i))) ∧ w.frozen? ⟨B, i, none⟩ = false

theorem HoldsT.set {w : World} {B n : Nat} {f : Nat → List UInt8} (h : HoldsT w B n f) (j : Nat) (hj : j < n) (x : List UInt8) : HoldsT (w.setCell ⟨B, j, none⟩ (.string (ofL x))) B n (fun i => if i = j then x else f i) := by
  refine ⟨fun i hi => ⟨?_, by rw [World.frozen?_setCell]; exact (h.get i hi).2⟩⟩
  by_cases e : i = j
  · subst e; show _ = some (Value.string (ofL (if i = i then x else f i))); rw [if_pos rfl]; exact World.cell?_setCell_same _ _ _ (h.get i hi).1
  · show _ = some (Value.string (ofL (if i = j then x else f i))); rw [if_neg e, World.cell?_setCell_other _ _ _ _ (fun e2 => e (by injection e2 with _ h2; exact h2.symm))]; exact (h.get i hi).1

theorem HoldsT.congr {w : World} {B n : Nat} {f g : Nat → List UInt8} (h : HoldsT w B n f) (e : ∀ i, i < n → f i = g i) : HoldsT w B n g := ⟨fun i hi => by rw [← e i hi]; exact h.get i hi⟩

theorem HoldsT.below {w w3 : World} {B n : Nat} {f : Nat → List UInt8} (h : HoldsT w B n f) (hB : B < w.heap.size) (hb : Below w.heap.size w w3) : HoldsT w3 B n f :=
  ⟨fun i hi => ⟨((bcell hb).1 B i hB).trans (h.get i hi).1, ((bcell hb).2 B i hB).trans (h.get i hi).2⟩⟩

theorem grow_below (w : World) (k : Nat) (os : Array Obj) : Below w.heap.size w (Sort.grow (w.drewN k) os) :=
  ⟨rfl, rfl, rfl, by simp [Sort.grow, World.drewN], fun j hj => by simp [Sort.grow, World.drewN, Array.getElem?_append, hj]⟩

theorem itoa_dec : ∀ n : Nat, n ≤ 255 → Lib.itoa (n : Int) = decL n := by
  intro n hn
  have hd : ∀ m : Nat, m < 10 → Lib.decDigits m = [UInt8.ofNat (48 + m)] := fun m hm => by rw [Lib.decDigits, dif_pos hm]
  have hs : ∀ m : Nat, ¬ m < 10 → Lib.decDigits m = Lib.decDigits (m / 10) ++ [UInt8.ofNat (48 + m % 10)] := fun m hm => by rw [Lib.decDigits, dif_neg hm]
  show (if (n : Int) < 0 then 45 :: Lib.decDigits (n : Int).natAbs else Lib.decDigits (n : Int).toNat) = decL n
  rw [if_neg (by omega), Int.toNat_natCast]
  unfold decL
  by_cases h0 : n = 0
  · subst h0; rw [if_pos rfl, hd 0 (by omega)]; rfl
  · rw [if_neg h0, dgF_step h0]
    by_cases h1 : n < 10
    · rw [hd n h1, show n / 10 = 0 by omega, dgF_zero, show n % 10 = n by omega]; rfl
    · rw [hs n h1, dgF_step (by omega)]
      by_cases h2 : n / 10 < 10
      · rw [hd _ h2, show n / 10 / 10 = 0 by omega, dgF_zero, show n / 10 % 10 = n / 10 by omega]; rfl
      · rw [hs _ h2, dgF_step (by omega), hd _ (by omega : n / 10 / 10 < 10), show n / 10 / 10 / 10 = 0 by omega, dgF_zero, show n / 10 / 10 % 10 = n / 10 / 10 by omega]; rfl

set_option maxRecDepth 100000 in
set_option maxHeartbeats 1000000 in
theorem implText4_any (s : ByteArray) (w : World) (hs : s.size = 4) (htab : Lib.TabIs Tryd.prog w "internal/strconv.uint64pow10" .u64 Lib.pow10Tab) :
    Calls Tryd.prog 13 #[.string s] w fun e w' => e = .returned (.string (ofL (fourN s 4))) ∧ Below w.heap.size w w' := by
  have HI : Hid (∀ n : Nat, n ≤ 255 → ∀ W, Below w.heap.size w W → Calls Tryd.prog 31 #[.int .i64 n] W fun e w' => e = .returned (.string (ofL (decL n))) ∧ Below W.heap.size W w') := fun n hn W hW => by
    have := Tryd.strconv_Itoa (n : Int) (by omega) (by omega) W (Lib.tabBelow_of_tabIs htab W hW)
    rw [itoa_dec n hn] at this
    refine this.mono ?_
    rintro e w' ⟨he, k, os, rfl⟩
    exact ⟨he, grow_below W k os⟩
  have HS : Hid (s.size = 4) := hs
  have hs' : (s.size : Int) = 4 := by omega
  have hgb := get_bt s
  have hh0 : Hid (HoldsT (w.alloc (.cells #[.string ⟨#[]⟩, .string ⟨#[]⟩, .string ⟨#[]⟩, .string ⟨#[]⟩] 47)) w.heap.size 4 (fun i => if i < 0 then decL (bt s i).toNat else [])) := ⟨fun i hi => by
    have : i = 0 ∨ i = 1 ∨ i = 2 ∨ i = 3 := by omega
    rcases this with h | h | h | h <;> subst h <;> simp [ofL]⟩
  have HB0 : Hid (Below w.heap.size w (w.alloc (.cells #[.string ⟨#[]⟩, .string ⟨#[]⟩, .string ⟨#[]⟩, .string ⟨#[]⟩] 47))) := (Below.refl _ _).alloc (Nat.le_refl _) _
  clear htab hs
  go_enter Tryd.func13, Tryd.ntmps13
  go_wp2_with fail
  go_loopw [5] (fun i wr => ∃ k : Nat, k ≤ 4 ∧ i = .int .i64 k ∧ HoldsT wr w.heap.size 4 (fun i => if i < k then decL (bt s i).toNat else []) ∧ Below w.heap.size w wr) (fun i _ => 4 - (intOf i).toNat)
  case atStart => exact ⟨0, Nat.zero_le _, rfl, hh0.out, HB0.out⟩
  case round =>
    obtain ⟨k, hk, rfl, hh, hbel⟩ := hrel
    have HH : Hid (HoldsT wr w.heap.size 4 (fun i => if i < k then decL (bt s i).toNat else [])) := hh
    have HL : Hid (Below w.heap.size w wr) := hbel
    clear hh hbel hh0 HB0
    by_cases hlt : k < 4
    · obtain ⟨x, hx⟩ := Int.eq_ofNat_of_zero_le (bt_nonneg s k)
      have hx1 := bt_le s k
      have hks : (k : Int) < (s.size : Int) := by have := HS.out; omega
      have HX : Hid (bt s k = (x : Int)) := hx
      have hcall : Hid (Calls Tryd.prog 31 #[.int .i64 (bt s k)] wr fun e w' => e = .returned (.string (ofL (decL x))) ∧ Below wr.heap.size wr w') := by unfold Hid; rw [hx]; exact HI.out x (by omega) wr HL.out
      have hGr : w.heap.size < wr.heap.size := World.block_lt_of_cell? _ _ (HH.out.get 0 (by omega)).1
      have hx0 := bt_nonneg s k
      clear hx
      go_wp2_with fail
      refine Calls.mono hcall.out ?_
      rintro e w2 ⟨rfl, q2⟩
      have H2 := HH.out.below hGr q2
      have HB2 : Hid (Below w.heap.size w w2) := HL.out.trans (q2.mono HL.out.size)
      obtain ⟨hc1, hc2⟩ := H2.get k hlt
      have H3 : Hid (HoldsT (w2.setCell ⟨w.heap.size, k, none⟩ (.string (ofL (decL x)))) w.heap.size 4 (fun i => if i < k + 1 then decL (bt s i).toNat else [])) := (H2.set k hlt (decL x)).congr (fun i _ => by
        by_cases e : i = k
        · rw [if_pos e, if_pos (by omega), e, HX.out]; rfl
        · rw [if_neg e]
          by_cases h2 : i < k
          · rw [if_pos h2, if_pos (by omega)]
          · rw [if_neg h2, if_neg (by omega)])
      clear H2 q2 hcall
      go_wp2_with fail
      go_roundw
      case rel => exact ⟨k + 1, by omega, by go_num, H3.out, HB2.out.setCell (by simp) _⟩
      case measure => simp [intOf]; omega
    · have hk4 : k = 4 := by omega
      subst hk4
      have hGr : w.heap.size < wr.heap.size := World.block_lt_of_cell? _ _ (HH.out.get 0 (by omega)).1
      have HV : (Lib.join ([ofL (decL (bt s 0).toNat), ofL (decL (bt s 1).toNat), ofL (decL (bt s 2).toNat), ofL (decL (bt s 3).toNat)].map (·.data.toList)) (⟨#[46]⟩ : ByteArray).data.toList = fourN s 4) := by
        simp [Lib.join, List.intercalate, List.intersperse, ofL, fourN]
      have HJ : Hid (Calls Tryd.prog 32 #[.slice (some ⟨w.heap.size, 0, none⟩) 4 4, .string ⟨#[46]⟩] wr fun e w' => e = .returned (.string (ofL (fourN s 4))) ∧ Below wr.heap.size wr w') := by
        have := Tryd.strings_Join w.heap.size 0 4 [ofL (decL (bt s 0).toNat), ofL (decL (bt s 1).toNat), ofL (decL (bt s 2).toNat), ofL (decL (bt s 3).toNat)] ⟨#[46]⟩ wr (by
          intro j x hj
          have hj4 : j < 4 := by
            by_cases h : j < 4
            · exact h
            · rw [List.getElem?_eq_none (by simp; omega)] at hj; simp at hj
          have := (HH.out.get j hj4).1
          rw [if_pos hj4] at this
          rw [Nat.zero_add, this]
          have hj' : j = 0 ∨ j = 1 ∨ j = 2 ∨ j = 3 := by omega
          rcases hj' with h | h | h | h <;> subst h <;> simp at hj <;> rw [← hj]) hGr (by simp) (by simp) (by
          have := decL_length (bt s 0).toNat; have := decL_length (bt s 1).toNat; have := decL_length (bt s 2).toNat; have := decL_length (bt s 3).toNat
          simp [Lib.join, List.intercalate, List.intersperse, ofL]; omega)
        rw [HV] at this
        exact this
      clear HV
      go_wp2_with fail
      refine Calls.mono HJ.out ?_
      rintro e w2 ⟨rfl, q2⟩
      go_wp2_with fail
      go_ret
      exact ⟨rfl, HL.out.trans (q2.mono HL.out.size)⟩

end Go.Proofs.YtebhljogijemoaaDoor
