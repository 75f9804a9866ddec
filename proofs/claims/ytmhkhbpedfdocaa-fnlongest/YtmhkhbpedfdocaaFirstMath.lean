/- The first bits of an address, bit by bit. -/
import Derived.Test.YtmhkhbpedfdocaaFirst
namespace Go.Proofs.Ytmhkhbpedfdocaa
open Go.RowKit Go.PlainAid
set_option linter.unusedVariables false
set_option linter.unusedSimpArgs false

theorem andNot_bits : ∀ (x : Fin 256) (r m : Fin 8), r.val ≠ 0 → bits .andNot .u8 (x.val : Int) (255 / 2 ^ r.val) / 2 ^ (7 - m.val) % 2 = if m.val < r.val then (x.val : Int) / 2 ^ (7 - m.val) % 2 else 0 := by decide +kernel

theorem firstF_bit (s : ByteArray) (b k : Nat) : bitN (firstF s b) k = if k < b then bitN (bt s) k else 0 := by
  unfold bitN
  by_cases h1 : k / 8 < b / 8
  · rw [if_pos (by omega), show firstF s b (k / 8) = bt s (k / 8) from if_pos h1]
  · by_cases h2 : k / 8 = b / 8 ∧ b % 8 ≠ 0
    · have hf : firstF s b (k / 8) = bits .andNot .u8 (bt s (k / 8)) (255 / 2 ^ (b % 8)) := by unfold firstF; rw [if_neg h1, if_pos h2]
      have hb := bt_isByte s (k / 8)
      obtain ⟨x, hx⟩ := Int.eq_ofNat_of_zero_le hb.1
      have := andNot_bits ⟨x, by omega⟩ ⟨b % 8, by omega⟩ ⟨k % 8, by omega⟩ h2.2
      simp only at this
      rw [hf, hx, this]
      by_cases h3 : k % 8 < b % 8
      · rw [if_pos h3, if_pos (by omega)]
      · rw [if_neg h3, if_neg (by omega)]
    · have hf : firstF s b (k / 8) = 0 := by unfold firstF; rw [if_neg h1, if_neg h2]
      rw [if_neg (by omega), hf]; simp

theorem byte_bits {x y : Int} (hx0 : 0 ≤ x) (hx : x ≤ 255) (hy0 : 0 ≤ y) (hy : y ≤ 255) (h : ∀ m, m < 8 → x / 2 ^ (7 - m) % 2 = y / 2 ^ (7 - m) % 2) : x = y := by
  have h0 := h 0 (by omega); have h1 := h 1 (by omega); have h2 := h 2 (by omega); have h3 := h 3 (by omega)
  have h4 := h 4 (by omega); have h5 := h 5 (by omega); have h6 := h 6 (by omega); have h7 := h 7 (by omega)
  simp only [Nat.sub_zero, Nat.reduceSub, Int.reducePow, Int.ediv_one] at h0 h1 h2 h3 h4 h5 h6 h7
  omega

theorem bytes_bits {a p : ByteArray} (hs : a.size = p.size) (h : ∀ k, k < 8 * p.size → bitN (bt a) k = bitN (bt p) k) : a = p := by
  refine ba_ext hs (fun i hi => byte_bits (bt_isByte a i).1 (bt_isByte a i).2 (bt_isByte p i).1 (bt_isByte p i).2 (fun m hm => ?_))
  have := h (8 * i + m) (by omega)
  unfold bitN at this
  rwa [show (8 * i + m) / 8 = i by omega, show (8 * i + m) % 8 = m by omega] at this

theorem firstV_bt (a : ByteArray) (b i : Nat) (hi : i < a.size) : bt (firstV a b) i = firstF a b i := bytesOf_bt hi (firstF_byte a b i).1 (firstF_byte a b i).2

theorem firstV_bit (a : ByteArray) (b k : Nat) (hk : k < 8 * a.size) : bitN (bt (firstV a b)) k = if k < b then bitN (bt a) k else 0 := by
  rw [← firstF_bit]; unfold bitN; rw [firstV_bt a b _ (by omega)]

theorem firstV_size (a : ByteArray) (b : Nat) : (firstV a b).size = a.size := bytesOf_size _ _

theorem firstV_iff {a p : ByteArray} (b : Nat) (hs : a.size = p.size) : firstV a b = p ↔ ∀ k, k < 8 * p.size → bitN (bt p) k = if k < b then bitN (bt a) k else 0 := by
  constructor
  · intro h k hk
    rw [← firstV_bit a b k (by omega), h]
  · intro h
    exact bytes_bits ((firstV_size a b).trans hs) (fun k hk => by rw [h k hk, firstV_bit a b k (by omega)])

theorem zerosN_iff {f : Nat → Int} : ∀ (n k : Nat), zerosN f k n = true ↔ ∀ i, k ≤ i → i < k + n → bitN f i = 0
  | 0, k => by simp [zerosN]; omega
  | n + 1, k => by
    show (bitN f k == 0 && zerosN f (k + 1) n) = true ↔ _
    rw [Bool.and_eq_true, zerosN_iff n (k + 1), beq_iff_eq]
    constructor
    · rintro ⟨h0, h⟩ i h1 h2
      by_cases e : i = k
      · rw [e]; exact h0
      · exact h i (by omega) (by omega)
    · intro h
      exact ⟨h k (by omega) (by omega), fun i h1 h2 => h i (by omega) (by omega)⟩

theorem sameN_iff {f g : Nat → Int} : ∀ (n k : Nat), sameN f g k n = true ↔ ∀ i, k ≤ i → i < k + n → bitN f i = bitN g i
  | 0, k => by simp [sameN]; omega
  | n + 1, k => by
    show (bitN f k == bitN g k && sameN f g (k + 1) n) = true ↔ _
    rw [Bool.and_eq_true, sameN_iff n (k + 1), beq_iff_eq]
    constructor
    · rintro ⟨h0, h⟩ i h1 h2
      by_cases e : i = k
      · rw [e]; exact h0
      · exact h i (by omega) (by omega)
    · intro h
      exact ⟨h k (by omega) (by omega), fun i h1 h2 => h i (by omega) (by omega)⟩

theorem first_right {s : ByteArray} {b : Nat} (hb : b ≤ 8 * s.size) : firstV s b = s ↔ zerosN (bt s) b (8 * s.size - b) = true := by
  rw [firstV_iff b rfl, zerosN_iff]
  constructor
  · intro h i h1 h2
    have := h i (by omega)
    rwa [if_neg (by omega)] at this
  · intro h k hk
    by_cases e : k < b
    · rw [if_pos e]
    · rw [if_neg e]; exact h k (by omega) (by omega)

theorem first_has {p a : ByteArray} {b : Nat} (hb : b ≤ 8 * p.size) (hz : zerosN (bt p) b (8 * p.size - b) = true) (hs : a.size = p.size) : firstV a b = p ↔ sameN (bt p) (bt a) 0 b = true := by
  rw [firstV_iff b hs, sameN_iff]
  rw [zerosN_iff] at hz
  constructor
  · intro h i h1 h2
    have := h i (by omega)
    rwa [if_pos (by omega)] at this
  · intro h k hk
    by_cases e : k < b
    · rw [if_pos e]; exact h k (by omega) (by omega)
    · rw [if_neg e]; exact hz k (by omega) (by omega)

end Go.Proofs.Ytmhkhbpedfdocaa
