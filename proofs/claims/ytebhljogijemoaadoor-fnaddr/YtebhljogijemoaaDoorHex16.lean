/- A number below 65536 in hexadecimal digits: what the library's formatBits answers at the base 16. -/
import Derived.Test.YtebhljogijemoaaDoorText
import Derived.Deep.DeepCutAuto
namespace Go.Proofs.YtebhljogijemoaaDoor
open Go.RowKit Go.PlainAid
set_option linter.unusedVariables false
set_option linter.unusedSimpArgs false

/-- The bytes of a row of 65 in which the last k hexadecimal digits of x stand at the end. -/
def hexArr (x k : Nat) (j : Nat) : Int := if 65 ≤ j + k ∧ j < 65 then ((hexC (x / 16 ^ (64 - j) % 16)).toNat : Int) else 0

theorem hexArr_byte (x k : Nat) : isByte (hexArr x k) := fun j => by
  unfold hexArr; split
  · have := (hexC (x / 16 ^ (64 - j) % 16)).toNat_lt; omega
  · omega

/-- A row of n bytes in block B that may be written. -/
structure HoldsX (w : World) (B n : Nat) (f : Nat → Int) : Prop where
  get : ∀ i, i < n → w.cell? ⟨B, i, none⟩ = some (.int .u8 (f i)) ∧ w.frozen? ⟨B, i, none⟩ = false

theorem HoldsX.setD {w : World} {B x k : Nat} (h : HoldsX w B 65 (hexArr x k)) (hk : k < 65) : HoldsX (w.setCell ⟨B, 64 - k, none⟩ (.int .u8 ((hexC (x / 16 ^ k % 16)).toNat : Int))) B 65 (hexArr x (k + 1)) := by
  refine ⟨fun i hi => ⟨?_, by rw [World.frozen?_setCell]; exact (h.get i hi).2⟩⟩
  by_cases e : i = 64 - k
  · subst e
    rw [show hexArr x (k + 1) (64 - k) = ((hexC (x / 16 ^ k % 16)).toNat : Int) by unfold hexArr; rw [if_pos (by omega), show 64 - (64 - k) = k by omega]]
    exact World.cell?_setCell_same _ _ _ (h.get (64 - k) hi).1
  · rw [World.cell?_setCell_other _ _ _ _ (fun e2 => e (by injection e2 with _ h2; exact h2.symm)), (h.get i hi).1]
    unfold hexArr
    by_cases h2 : 65 ≤ i + k
    · rw [if_pos ⟨h2, hi⟩, if_pos (by omega)]
    · rw [if_neg (by omega), if_neg (by omega)]

/-- The digits that stand in the row behind place 64 - k. -/
def digsL (x k : Nat) : List UInt8 := (List.range (k + 1)).map fun j => hexC (x / 16 ^ (k - j) % 16)

theorem HoldsX.convD {w : World} {B x k : Nat} (h : HoldsX w B 65 (hexArr x (k + 1))) (hk : k ≤ 3) (n cap : Nat) (hn : n = k + 1) :
    (convert 22 9 (.slice (some ⟨B, 64 - k, none⟩) n cap)).run Tryd.prog w = .ok (.string (ofL (digsL x k))) w := by
  have hl : (digsL x k).length = k + 1 := by simp [digsL]
  have := run_convert_bytes_back (P := Tryd.prog) w 22 9 5 ⟨B, 64 - k, none⟩ cap (digsL x k) Tryd.underlying22 Tryd.underlying5 Tryd.underlying9 (by
    intro j hj
    have hj' : j < k + 1 := by rw [hl] at hj; exact hj
    have ha : Addr.add ⟨B, 64 - k, none⟩ j = ⟨B, 64 - k + j, none⟩ := by simp only [Addr.add]; split <;> simp_all
    rw [ha, (h.get (64 - k + j) (by omega)).1]
    unfold hexArr
    rw [if_pos (by omega)]
    simp only [digsL, List.getElem_map, List.getElem_range]
    rw [show 64 - (64 - k + j) = k - j by omega])
  rw [hl] at this
  rw [hn]
  exact this

theorem digs_group (x k : Nat) (hk : k ≤ 3) (h0 : k = 0 ∨ 16 ^ k ≤ x) (h1 : x < 16 ^ (k + 1)) : digsL x k = groupL x := by
  have hk4 : k = 0 ∨ k = 1 ∨ k = 2 ∨ k = 3 := by omega
  rcases hk4 with h | h | h | h <;> subst h
  · have a : x / 4096 % 16 = 0 := by omega
    have b : x / 256 % 16 = 0 := by omega
    have c : x / 16 % 16 = 0 := by omega
    simp [digsL, groupL, grpN, gst, List.range_succ, a, b, c]
  · have a : x / 4096 % 16 = 0 := by omega
    have b : x / 256 % 16 = 0 := by omega
    have c : x / 16 % 16 ≠ 0 := by omega
    simp [digsL, groupL, grpN, gst, List.range_succ, a, b, c]
  · have a : x / 4096 % 16 = 0 := by omega
    have b : x / 256 % 16 ≠ 0 := by omega
    simp [digsL, groupL, grpN, gst, List.range_succ, a, b]
  · have a : x / 4096 % 16 ≠ 0 := by omega
    simp [digsL, groupL, grpN, gst, List.range_succ, a]

theorem digs_get : ∀ (n : Nat) (h : n < (ByteArray.mk #[48, 49, 50, 51, 52, 53, 54, 55, 56, 57, 97, 98, 99, 100, 101, 102, 103, 104, 105, 106, 107, 108, 109, 110, 111, 112, 113, 114, 115, 116, 117, 118, 119, 120, 121, 122]).size), (((ByteArray.mk #[48, 49, 50, 51, 52, 53, 54, 55, 56, 57, 97, 98, 99, 100, 101, 102, 103, 104, 105, 106, 107, 108, 109, 110, 111, 112, 113, 114, 115, 116, 117, 118, 119, 120, 121, 122])[n]'h).toNat : Int) = ((hexC n).toNat : Int) := by
  intro n h
  have h36 : n < 36 := h
  have : ∀ n : Fin 36, (((ByteArray.mk #[48, 49, 50, 51, 52, 53, 54, 55, 56, 57, 97, 98, 99, 100, 101, 102, 103, 104, 105, 106, 107, 108, 109, 110, 111, 112, 113, 114, 115, 116, 117, 118, 119, 120, 121, 122])[n.val]'(by exact n.isLt)).toNat : Int) = ((hexC n.val).toNat : Int) := by decide +kernel
  exact this ⟨n, h36⟩

theorem and_15u (n : Int) : bits .and .u64 n 15 = n % 16 := by
  have h127 : (BitVec.ofInt 64 15).toNat = 2 ^ 4 - 1 := by decide
  have key : (BitVec.ofInt 64 n &&& BitVec.ofInt 64 15).toNat = (n % ((2 ^ 64 : Nat) : Int)).toNat % 2 ^ 4 := by
    rw [BitVec.toNat_and, BitVec.toNat_ofInt, h127, Nat.and_two_pow_sub_one_eq_mod]
  show IntKind.u64.wrap ((BitVec.ofInt 64 n &&& BitVec.ofInt 64 15).toNat : Nat) = n % 16
  rw [key, IntKind.wrap_u64]
  omega

theorem Tryd.size8x (w : World) : (Go.sizeOf 5).run Tryd.prog w = .ok 1 w := by
  have h : (Tryd.prog.info? 5).map (fun i => i.size) = some 1 := by kernel_rfl
  cases hq : Tryd.prog.info? 5 with
  | none => simp [hq] at h
  | some i => simp [hq] at h; simp [sizeOf, typeInfo, hq, h]

theorem slice65 (G q : Nat) (hq : q ≤ 64) (W : World) : (Instr.sliceAt 97 (.pointer (some ⟨G, 0, none⟩)) (some (.int .i64 (q : Int))) none none).run Tryd.prog W = .ok (.slice (some ⟨G, q, none⟩) (65 - q) (65 - q)) W := by
  have h1 : Tryd.prog.arrayLen 97 = 65 := by kernel_rfl
  have h2 : Tryd.prog.elem 97 = 5 := by kernel_rfl
  have h3 : Tryd.prog.underlying 97 = some (.array (Tryd.prog.arrayLen 97) (Tryd.prog.elem 97)) := by kernel_rfl
  rw [run_sliceAt_array_l W 97 ⟨G, 0, none⟩ h3 .i64 (q : Int) (by omega) (by rw [h1]; omega), h1, h2, Tryd.size8x]
  have ha : Addr.add ⟨G, 0, none⟩ q = ⟨G, q, none⟩ := by simp only [Addr.add, Nat.zero_add]; split <;> simp_all
  show Result.ok (slicedAt ⟨G, 0, none⟩ (q : Int).toNat 65 65 1) W = _
  unfold slicedAt
  rw [Int.toNat_natCast, if_neg (by omega), Nat.mul_one, ha]

set_option maxRecDepth 100000 in
set_option maxHeartbeats 1000000 in
theorem formatBits16 (x : Nat) (w : World) (hx : x ≤ 65535) (hT : ∀ W, Below w.heap.size w W → Calls Tryd.prog 78 #[.int .u64 16] W fun e w' => e = .returned (.int .i64 4) ∧ w' = W) :
    Calls Tryd.prog 61 #[.slice none 0 0, .int .u64 x, .int .i64 16, .bool false, .bool false] w fun e w' => e = .returned (.tuple #[.slice none 0 0, .string (ofL (groupL x))]) ∧ Below w.heap.size w w' := by
  have HT : Hid (∀ W, Below w.heap.size w W → Calls Tryd.prog 78 #[.int .u64 16] W fun e w' => e = .returned (.int .i64 4) ∧ w' = W) := hT
  clear hT
  go_enter Tryd.func61, Tryd.ntmps61
  have hand : bits .and .i64 16 15 = 0 := by decide
  have hdg := digs_get
  have h15 := and_15u
  go_wp2_with (first | (go_at_call 77; go_in))
  have HB0 : Hid (Below w.heap.size w (w.alloc (.cells Tryd.zeroCells97 97))) := (Below.refl _ _).alloc (Nat.le_refl _) _
  have HH0 : Hid (HoldsX (w.alloc (.cells Tryd.zeroCells97 97)) w.heap.size 65 (hexArr x 0)) := ⟨fun i hi => by
    have hz : Tryd.zeroCells97 = Array.replicate 65 (.int .u8 0) := by kernel_rfl
    rw [show hexArr x 0 i = 0 by unfold hexArr; rw [if_neg (by omega)], hz]
    simp [hi]⟩
  generalize w.alloc (.cells Tryd.zeroCells97 97) = W at HB0 HH0 ⊢
  refine (HT.out W HB0.out).mono ?_
  rintro e W1 ⟨rfl, rfl⟩
  go_wp2_with fail
  go_loopw [1, 13] (fun u i wr => ∃ k : Nat, k ≤ 3 ∧ (k = 0 ∨ 16 ^ k ≤ x) ∧ u = .int .u64 (x / 16 ^ k : Nat) ∧ i = .int .i64 (65 - k : Nat) ∧ HoldsX wr w.heap.size 65 (hexArr x k) ∧ Below w.heap.size w wr) (fun u _ _ => (intOf u).toNat)
  case atStart => exact ⟨0, Nat.zero_le _, .inl rfl, by simp, rfl, HH0.out, HB0.out⟩
  case round =>
    obtain ⟨k, hk, hkx, rfl, rfl, hh, hbel⟩ := hrel
    have HH : Hid (HoldsX wr w.heap.size 65 (hexArr x k)) := hh
    have HL : Hid (Below w.heap.size w wr) := hbel
    clear hh hbel HH0 HB0
    have HS : Hid (HoldsX (wr.setCell ⟨w.heap.size, 64 - k, none⟩ (.int .u8 ((hexC (x / 16 ^ k % 16)).toNat : Int))) w.heap.size 65 (hexArr x (k + 1))) := HH.out.setD (by omega)
    have hc := HH.out.get (64 - k) (by omega)
    obtain ⟨hc1, hc2⟩ := hc
    obtain ⟨y, hy⟩ : ∃ y, y = x / 16 ^ k := ⟨_, rfl⟩
    have hyx : y ≤ x := by rw [hy]; exact Nat.div_le_self _ _
    have hkn : Hid (k = 3 → y < 16) := fun e => by subst e; omega
    have hnx : Hid (x / 16 ^ (k + 1) = y / 16) := by unfold Hid; rw [Nat.pow_succ, ← Nat.div_div_eq_div_mul, hy]
    have hge : Hid (16 ≤ y → 16 ^ (k + 1) ≤ x) := fun h => by
      rw [hy] at h
      have h2 := (Nat.le_div_iff_mul_le (Nat.pow_pos (by decide))).1 h
      rw [Nat.pow_succ]; omega
    have hlt : Hid (y < 16 → x < 16 ^ (k + 1)) := fun h => by
      rw [hy] at h
      have h2 := (Nat.div_lt_iff_lt_mul (Nat.pow_pos (by decide))).1 h
      rw [Nat.pow_succ]; omega
    rw [← hy] at HS ⊢
    clear hy
    obtain ⟨q, hq⟩ : ∃ q, q = 64 - k := ⟨_, rfl⟩
    have hqi : ((65 - k : Nat) : Int) = (q : Int) + 1 := by omega
    rw [← hq] at HS hc1 hc2
    rw [hqi]
    have hq64 : q ≤ 64 := by omega
    have HQ : Hid (q = 64 - k) := hq
    clear hq hqi
    by_cases h16 : 16 ≤ y
    · have h16' : (16 : Int) ≤ (y : Int) := by omega
      have hk2 : k ≤ 2 := by
        by_cases e : k = 3
        · have := hkn.out e; omega
        · omega
      go_wp2
      go_roundw
      case rel => exact ⟨k + 1, by omega, .inr (hge.out h16), by rw [hnx.out]; rfl, by have := HQ.out; rw [show 65 - (k + 1) = q by omega], HS.out, HL.out.setCell (by simp) _⟩
      case measure => simp [intOf]; omega
    · have h16' : ¬ (16 : Int) ≤ (y : Int) := by omega
      have hsl := slice65 w.heap.size q hq64
      have hy16 : y % 16 = y := Nat.mod_eq_of_lt (by omega)
      rw [hy16] at HS
      have hcv := HS.out.convD hk (65 - q) (65 - q) (by have := HQ.out; omega)
      rw [← HQ.out] at hcv
      have HG : Hid (digsL x k = groupL x) := digs_group x k hk hkx (hlt.out (by omega))
      go_wp2
      go_ret2
      exact ⟨by rw [HG.out]; rfl, HL.out.setCell (by simp) _⟩

theorem innerFormatInt16 (x : Nat) (w : World) (hx : x ≤ 65535) (hT : ∀ W, Below w.heap.size w W → Calls Tryd.prog 78 #[.int .u64 16] W fun e w' => e = .returned (.int .i64 4) ∧ w' = W) :
    Calls Tryd.prog 47 #[.int .i64 x, .int .i64 16] w fun e w' => e = .returned (.string (ofL (groupL x))) ∧ Below w.heap.size w w' := by
  have HT : Hid (∀ W, Below w.heap.size w W → Calls Tryd.prog 78 #[.int .u64 16] W fun e w' => e = .returned (.int .i64 4) ∧ w' = W) := hT
  clear hT
  have hneg : decide ((x : Int) < 0) = false := by simp
  go_enter Tryd.func47, Tryd.ntmps47
  go_wp2_with fail
  refine (formatBits16 x w hx HT.out).mono ?_
  rintro e w2 ⟨rfl, q2⟩
  go_wp2_with fail
  go_ret
  exact ⟨rfl, q2⟩

theorem formatInt16 (x : Nat) (w : World) (hx : x ≤ 65535) (hT : ∀ W, Below w.heap.size w W → Calls Tryd.prog 78 #[.int .u64 16] W fun e w' => e = .returned (.int .i64 4) ∧ w' = W) :
    Calls Tryd.prog 33 #[.int .i64 x, .int .i64 16] w fun e w' => e = .returned (.string (ofL (groupL x))) ∧ Below w.heap.size w w' := by
  have HT : Hid (∀ W, Below w.heap.size w W → Calls Tryd.prog 78 #[.int .u64 16] W fun e w' => e = .returned (.int .i64 4) ∧ w' = W) := hT
  clear hT
  go_enter Tryd.func33, Tryd.ntmps33
  go_wp2_with fail
  refine (innerFormatInt16 x w hx HT.out).mono ?_
  rintro e w2 ⟨rfl, q2⟩
  go_wp2_with fail
  go_ret
  exact ⟨rfl, q2⟩

end Go.Proofs.YtebhljogijemoaaDoor
