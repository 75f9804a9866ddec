/- Sums of texts that are put together: a check behind a text, a word that is turned in it. -/
import Derived.Test.YtmmojboagplopaaGreatDoorAdd
namespace Go.Proofs.YtmmojboagplopaaGreatDoor
open Go.RowKit Go.PlainAid

theorem bt_append (a b : ByteArray) (i : Nat) : bt (a ++ b) i = if i < a.size then bt a i else bt b (i - a.size) := by
  have hs : (a ++ b).size = a.size + b.size := ByteArray.size_append
  by_cases h : i < a.size
  · rw [if_pos h]; unfold bt; rw [dif_pos (by omega), dif_pos h, ByteArray.getElem_append_left h]
  · rw [if_neg h]; unfold bt
    by_cases h2 : i < (a ++ b).size
    · rw [dif_pos h2, dif_pos (by omega), ByteArray.getElem_append_right (by omega)]
    · rw [dif_neg h2, dif_neg (by omega)]

theorem bt_extract (a : ByteArray) (s e i : Nat) (he : e ≤ a.size) : bt (a.extract s e) i = if s + i < e then bt a (s + i) else 0 := by
  have hs : (a.extract s e).size = min e a.size - s := ByteArray.size_extract
  by_cases h : s + i < e
  · rw [if_pos h]; unfold bt; rw [dif_pos (by omega), dif_pos (by omega), ByteArray.getElem_extract]
  · rw [if_neg h]; unfold bt; rw [dif_neg (by omega)]

theorem twoV_size (n : Int) : (twoV n).size = 2 := rfl

theorem bt_two (n : Int) (h0 : 0 ≤ n) (h1 : n ≤ 65535) : bt (twoV n) 0 = n / 256 ∧ bt (twoV n) 1 = n % 256 := by
  constructor
  · unfold bt; rw [dif_pos (by rw [twoV_size]; omega)]; exact u8_ofNat _ (by omega) (by omega)
  · unfold bt; rw [dif_pos (by rw [twoV_size]; omega)]; exact u8_ofNat _ (by omega) (by omega)

theorem sumN_congr {f g : Nat → Int} : ∀ (k : Nat), (∀ i, i < 2 * k → f i = g i) → sumN f k = sumN g k
  | 0, _ => rfl
  | k + 1, h => by
    unfold sumN
    rw [sumN_congr k (fun i hi => h i (by omega))]
    unfold wordN
    rw [h (2 * k) (by omega), h (2 * k + 1) (by omega)]

/-- A word put behind a text of an even number of bytes is added to its sum. -/
theorem sumV_check (t : ByteArray) (n : Int) (K : Nat) (ht : t.size = 2 * K) (h0 : 0 ≤ n) (h1 : n ≤ 65535) : sumV (t ++ twoV n) = add1 (sumV t) n := by
  have hs : (t ++ twoV n).size = 2 * K + 2 := by rw [ByteArray.size_append, twoV_size, ht]
  unfold sumV
  rw [hs, ht, show (2 * K + 2 + 1) / 2 = K + 1 by omega, show (2 * K + 1) / 2 = K by omega]
  show add1 (sumN (bt (t ++ twoV n)) K) (wordN (bt (t ++ twoV n)) (2 * K)) = _
  rw [sumN_congr (g := bt t) K (fun i hi => by rw [bt_append, if_pos (by omega)])]
  congr 1
  unfold wordN
  rw [bt_append, bt_append, if_neg (by omega), if_neg (by omega), ht, show 2 * K - 2 * K = 0 by omega, show 2 * K + 1 - 2 * K = 1 by omega, (bt_two n h0 h1).1, (bt_two n h0 h1).2]
  omega

/-- A text in which the word at place 2 j is n now. -/
def turnV (t : ByteArray) (j : Nat) (n : Int) : ByteArray := t.extract 0 (2 * j) ++ twoV n ++ t.extract (2 * j + 2) t.size

section
variable {t : ByteArray} {j K : Nat} {n : Int}

theorem turn_size (ht : t.size = 2 * K) (hj : j < K) : (turnV t j n).size = 2 * K := by
  unfold turnV
  rw [ByteArray.size_append, ByteArray.size_append, twoV_size, ByteArray.size_extract, ByteArray.size_extract, ht]; omega

theorem turn_other (ht : t.size = 2 * K) (hj : j < K) (i : Nat) (hi : i < 2 * j ∨ 2 * j + 2 ≤ i) : bt (turnV t j n) i = bt t i := by
  have s1 : (t.extract 0 (2 * j)).size = 2 * j := by rw [ByteArray.size_extract, ht]; omega
  have s2 : (t.extract 0 (2 * j) ++ twoV n).size = 2 * j + 2 := by rw [ByteArray.size_append, s1, twoV_size]
  unfold turnV
  rw [bt_append, s2]
  rcases hi with hi | hi
  · rw [if_pos (by omega), bt_append, s1, if_pos hi, bt_extract t 0 (2 * j) i (by omega), if_pos (by omega), Nat.zero_add]
  · rw [if_neg (by omega), bt_extract t _ _ _ (Nat.le_refl _)]
    by_cases h : 2 * j + 2 + (i - (2 * j + 2)) < t.size
    · rw [if_pos h]; congr 1; omega
    · rw [if_neg h, bt_end t (by omega)]

theorem turn_word (ht : t.size = 2 * K) (hj : j < K) (h0 : 0 ≤ n) (h1 : n ≤ 65535) : wordN (bt (turnV t j n)) (2 * j) = n := by
  have s1 : (t.extract 0 (2 * j)).size = 2 * j := by rw [ByteArray.size_extract, ht]; omega
  have s2 : (t.extract 0 (2 * j) ++ twoV n).size = 2 * j + 2 := by rw [ByteArray.size_append, s1, twoV_size]
  have e0 : bt (turnV t j n) (2 * j) = n / 256 := by
    unfold turnV
    rw [bt_append, s2, if_pos (by omega), bt_append, s1, if_neg (by omega), show 2 * j - 2 * j = 0 by omega, (bt_two n h0 h1).1]
  have e1 : bt (turnV t j n) (2 * j + 1) = n % 256 := by
    unfold turnV
    rw [bt_append, s2, if_pos (by omega), bt_append, s1, if_neg (by omega), show 2 * j + 1 - 2 * j = 1 by omega, (bt_two n h0 h1).2]
  unfold wordN
  rw [e0, e1]
  omega
end

theorem add1_mod (a b : Int) : ∃ z, add1 a b = a + b + 65535 * z := by
  unfold add1; split
  · exact ⟨-1, by omega⟩
  · exact ⟨0, by omega⟩

/-- Sums that differ in one word differ by it, but for turns of 65535. -/
theorem sumN_turn {f g : Nat → Int} {j : Nat} (h : ∀ i, (i < 2 * j ∨ 2 * j + 2 ≤ i) → f i = g i) : ∀ k, j < k → ∃ z, sumN g k = sumN f k - wordN f (2 * j) + wordN g (2 * j) + 65535 * z
  | 0, h0 => by omega
  | k + 1, hk => by
    obtain ⟨z1, e1⟩ := add1_mod (sumN f k) (wordN f (2 * k))
    obtain ⟨z2, e2⟩ := add1_mod (sumN g k) (wordN g (2 * k))
    unfold sumN
    by_cases hjk : j = k
    · subst hjk
      have := sumN_congr (f := f) (g := g) j (fun i hi => h i (.inl hi))
      exact ⟨z2 - z1, by rw [e1, e2]; omega⟩
    · obtain ⟨z, e⟩ := sumN_turn h k (by omega)
      have e3 : wordN f (2 * k) = wordN g (2 * k) := by unfold wordN; rw [h _ (.inr (by omega)), h _ (.inr (by omega))]
      exact ⟨z2 - z1 + z, by rw [e1, e2]; omega⟩

theorem add1_full (s : Int) : add1 s (65535 - s) = 65535 := by unfold add1; rw [if_neg (by omega)]; omega

/-- A check that is turned with a word is right again, unless all is 0. -/
theorem turn_right {t : ByteArray} {j K : Nat} {n : Int} (ht : t.size = 2 * K) (hj : j < K) (h0 : 0 ≤ n) (h1 : n ≤ 65535) (hz : sumV (turnV t j n) ≠ 0) :
    sumV (turnV t j n ++ twoV (65535 - add1 (add1 (sumV t) (65535 - wordN (bt t) (2 * j))) n)) = 65535 := by
  have rs := sumV_range t
  have rw1 := wordN_range (bt_isByte t) (2 * j)
  have ra := add1_range rs.1 rs.2 (show 0 ≤ 65535 - wordN (bt t) (2 * j) by omega) (by omega)
  have rb := add1_range ra.1 ra.2 h0 h1
  rw [sumV_check _ _ K (turn_size ht hj) (by omega) (by omega)]
  have ru := sumV_range (turnV t j n)
  obtain ⟨z, e⟩ := sumN_turn (f := bt t) (g := bt (turnV t j n)) (j := j) (fun i hi => (turn_other ht hj i hi).symm) K hj
  rw [turn_word ht hj h0 h1] at e
  have e1 : sumV (turnV t j n) = sumN (bt (turnV t j n)) K := by unfold sumV; rw [turn_size ht hj, show (2 * K + 1) / 2 = K by omega]
  have e2 : sumV t = sumN (bt t) K := by unfold sumV; rw [ht, show (2 * K + 1) / 2 = K by omega]
  obtain ⟨z1, a1⟩ := add1_mod (sumV t) (65535 - wordN (bt t) (2 * j))
  obtain ⟨z2, a2⟩ := add1_mod (add1 (sumV t) (65535 - wordN (bt t) (2 * j))) n
  rw [← e1, ← e2] at e
  generalize sumV (turnV t j n) = U at *
  generalize sumV t = S at *
  generalize wordN (bt t) (2 * j) = W at *
  generalize add1 (add1 S (65535 - W)) n = C at *
  generalize add1 S (65535 - W) = D at *
  have hC : U + (65535 - C) = 65535 * (z - z1 - z2) := by omega
  unfold add1
  split <;> omega

end Go.Proofs.YtmmojboagplopaaGreatDoor
