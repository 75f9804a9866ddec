/- BitK: one bit of a number. -/
import Derived.Test.YtofenlclefkgdaaMerged5
namespace Go.Proofs.Ytofenlclefkgdaa
open Go.RowKit Go.PlainAid

theorem and_pow (n k : Nat) : n &&& 2 ^ k = n / 2 ^ k % 2 * 2 ^ k := by
 have hk := Nat.testBit_eq_decide_div_mod_eq (x := n) (i := k)
 refine Nat.eq_of_testBit_eq fun i => ?_
 rw [Nat.testBit_and, Nat.testBit_two_pow]
 rcases Nat.mod_two_eq_zero_or_one (n / 2 ^ k) with h | h
 ·rw [h, Nat.zero_mul, Nat.zero_testBit]
  by_cases e : k = i
  ·subst e; rw [hk, h]; rfl
  ·simp [e]
 ·rw [h, Nat.one_mul, Nat.testBit_two_pow]
  by_cases e : k = i
  ·subst e; rw [hk, h]; simp
  ·simp [e]
theorem bit_k (k : Nat) (hk : k < 62) (x : Int) (h0 : 0 ≤ x) (h1 : x < 4611686018427387904) : (bits .and .i64 x (2 ^ k : Nat) != 0) = decide (x / (2 ^ k : Nat) % 2 = 1) := by
 obtain ⟨n, rfl⟩ := Int.eq_ofNat_of_zero_le h0
 have hp : (2 : Nat) ^ k < 2 ^ 63 := Nat.pow_lt_pow_right (by decide) (by omega)
 have h := (bits_nat .i64 63 (by decide) wraps_i64 n (2 ^ k) (by omega) hp).1
 rw [h, and_pow]
 have e2 : ((n : Int) / ((2 ^ k : Nat) : Int) % 2 = 1) ↔ (n / 2 ^ k % 2 = 1) := by omega
 have hpos : 0 < 2 ^ k := Nat.pow_pos (by decide)
 rcases Nat.mod_two_eq_zero_or_one (n / 2 ^ k) with hb | hb
 ·rw [decide_eq_false (fun h => by have := e2.1 h; omega), hb, Nat.zero_mul]; rfl
 ·rw [decide_eq_true (e2.2 hb), hb, Nat.one_mul]
  simp only [bne_iff_ne, ne_eq]
  omega

end Go.Proofs.Ytofenlclefkgdaa
