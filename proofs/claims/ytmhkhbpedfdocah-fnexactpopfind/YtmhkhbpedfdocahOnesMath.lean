/- OnesMath: how the library counts the bits of a number, and how the program finds the first place that is bare: plain mathematics. -/
import Derived.Test.YtmhkhbpedfdocahCount
import Derived.Laws.BitsAllLaws
namespace Go.Proofs.Ytmhkhbpedfdocah
open Go.RowKit Go.PlainAid
set_option linter.unusedVariables false
set_option linter.unusedSimpArgs false

def oA (x : Nat) : Nat := Nat.add (Nat.land (Nat.div x 2) 6148914691236517205) (Nat.land x 6148914691236517205)
def oB (x : Nat) : Nat := Nat.add (Nat.land (Nat.div x 4) 3689348814741910323) (Nat.land x 3689348814741910323)
def oC (x : Nat) : Nat := Nat.land (Nat.add (Nat.div x 16) x) 1085102592571150095
def oD (x : Nat) : Nat := Nat.add x (Nat.div x 256)
def oE (x : Nat) : Nat := Nat.add x (Nat.div x 65536)
def oF (x : Nat) : Nat := Nat.add x (Nat.div x 4294967296)
def oG (x : Nat) : Nat := Nat.land x 127
def ocN (x : Nat) : Nat := oG (oF (oE (oD (oC (oB (oA x))))))

/-- Is what is reckoned of every number of d bits behind x the count c and its own? -/
def chkN : Nat → Nat → Nat → Bool
  | 0, x, c => Nat.beq (ocN x) c
  | d + 1, x, c => and (chkN d (Nat.mul 2 x) c) (chkN d (Nat.add (Nat.mul 2 x) 1) (Nat.add c 1))

theorem chk_all : chkN 16 0 0 = true := by decide +kernel

theorem cntMask_low (m : Nat) : ∀ (b d : Nat), b ≤ d → cntMask (m % 2 ^ d) b = cntMask m b
  | 0, _, _ => rfl
  | b + 1, d, h => by
    unfold cntMask
    rw [cntMask_low m b d (by omega)]
    congr 1
    obtain ⟨c, rfl⟩ : ∃ c, d = b + 1 + c := ⟨d - (b + 1), by omega⟩
    have h2 : ∀ z, 2 ^ (b + 1 + c) * z = 2 ^ b * (2 * (2 ^ c * z)) := fun z => by
      rw [Nat.pow_add, Nat.pow_succ]
      simp only [Nat.mul_assoc]
    have e : m % 2 ^ (b + 1 + c) = m - 2 ^ b * (2 * (2 ^ c * (m / 2 ^ (b + 1 + c)))) := by
      have h1 := Nat.mod_add_div m (2 ^ (b + 1 + c))
      rw [h2] at h1
      omega
    have hle : 2 ^ b * (2 * (2 ^ c * (m / 2 ^ (b + 1 + c)))) ≤ m := by
      have h1 := Nat.mod_add_div m (2 ^ (b + 1 + c))
      rw [h2] at h1
      omega
    rw [e]
    generalize 2 ^ c * (m / 2 ^ (b + 1 + c)) = z at *
    have h3 : m = (m - 2 ^ b * (2 * z)) + 2 ^ b * (2 * z) := by omega
    have h4 : m / 2 ^ b = (m - 2 ^ b * (2 * z)) / 2 ^ b + 2 * z := by
      conv => lhs; rw [h3]
      rw [Nat.add_mul_div_left _ _ (Nat.two_pow_pos b)]
    omega

theorem cntMask_top (y d : Nat) (h : y < 2 ^ d) : ∀ b, d ≤ b → cntMask y b = cntMask y d := by
  intro b hb
  induction b with
  | zero => rw [show d = 0 by omega]
  | succ b ih =>
    by_cases e : d = b + 1
    · rw [e]
    · have : y / 2 ^ b = 0 := Nat.div_eq_of_lt (Nat.lt_of_lt_of_le h (Nat.pow_le_pow_right (by omega) (by omega)))
      show cntMask y b + y / 2 ^ b % 2 = _
      rw [ih (by omega), this]; simp

theorem chkN_all : ∀ d x c, chkN d x c = true → ∀ y, y < 2 ^ d → ocN (2 ^ d * x + y) = c + cntMask y d
  | 0, x, c, h, y, hy => by
    have h1 : ocN x = c := Nat.eq_of_beq_eq_true h
    have h0 : y = 0 := by simpa using hy
    subst h0; simp [cntMask, h1]
  | d + 1, x, c, h, y, hy => by
    have h' : (chkN d (2 * x) c && chkN d (2 * x + 1) (c + 1)) = true := h
    rw [Bool.and_eq_true] at h'
    rw [Nat.pow_succ] at hy ⊢
    by_cases e : y < 2 ^ d
    · have := chkN_all d (2 * x) c h'.1 y e
      rw [show 2 ^ d * 2 * x + y = 2 ^ d * (2 * x) + y by rw [Nat.mul_assoc], this, cntMask_top y d e (d + 1) (by omega)]
    · obtain ⟨z, rfl⟩ : ∃ z, y = 2 ^ d + z := ⟨y - 2 ^ d, by omega⟩
      have hz : z < 2 ^ d := by omega
      have := chkN_all d (2 * x + 1) (c + 1) h'.2 z hz
      rw [show 2 ^ d * 2 * x + (2 ^ d + z) = 2 ^ d * (2 * x + 1) + z by rw [Nat.mul_add, Nat.mul_assoc]; omega, this]
      have e1 : cntMask (2 ^ d + z) (d + 1) = cntMask (2 ^ d + z) d + (2 ^ d + z) / 2 ^ d % 2 := rfl
      have e2 : cntMask (2 ^ d + z) d = cntMask z d := by
        rw [← cntMask_low (2 ^ d + z) d d (Nat.le_refl _), Nat.add_mod_left, Nat.mod_eq_of_lt hz]
      have e3 : (2 ^ d + z) / 2 ^ d = 1 := by rw [Nat.add_div_left _ (Nat.two_pow_pos d), Nat.div_eq_of_lt hz]
      rw [e1, e2, e3]; omega

theorem ocN_cnt (x : Nat) (h : x < 65536) : ocN x = cntMask x 16 := by
  have := chkN_all 16 0 0 chk_all x h
  simpa using this

/-- The same over integers, as it is reckoned. -/
def ocI (x : Int) : Int :=
  let a := IntKind.u64.wrap (bits .and .u64 (x / 2) 6148914691236517205 + bits .and .u64 x 6148914691236517205)
  let b := IntKind.u64.wrap (bits .and .u64 (a / 4) 3689348814741910323 + bits .and .u64 a 3689348814741910323)
  let c := bits .and .u64 (IntKind.u64.wrap (b / 16 + b)) 1085102592571150095
  let d := IntKind.u64.wrap (c + c / 256)
  let e := IntKind.u64.wrap (d + d / 65536)
  let f := IntKind.u64.wrap (e + e / 4294967296)
  bits .and .i64 (wrap64 f) 127

theorem wrap_u64_nat (n : Nat) (h : n < 18446744073709551616) : IntKind.u64.wrap (n : Int) = (n : Int) := by rw [IntKind.wrap_u64]; omega

theorem ocI_nat (x : Nat) (h : x < 65536) : ocI x = ((ocN x : Nat) : Int) := by
  have ea : IntKind.u64.wrap (bits .and .u64 ((x : Int) / 2) 6148914691236517205 + bits .and .u64 (x : Int) 6148914691236517205) = ((oA x : Nat) : Int) := by
    have h1 := u64_and_nat (x / 2) 6148914691236517205 (by omega) (by omega)
    have h2 := u64_and_nat x 6148914691236517205 (by omega) (by omega)
    have l1 := Nat.and_le_left (n := x / 2) (m := 6148914691236517205)
    have l2 := Nat.and_le_left (n := x) (m := 6148914691236517205)
    rw [show ((x / 2 : Nat) : Int) = (x : Int) / 2 by omega] at h1
    have h1' : bits .and .u64 ((x : Int) / 2) 6148914691236517205 = ((x / 2 &&& 6148914691236517205 : Nat) : Int) := h1
    have h2' : bits .and .u64 (x : Int) 6148914691236517205 = ((x &&& 6148914691236517205 : Nat) : Int) := h2
    rw [h1', h2', ← Int.natCast_add, wrap_u64_nat _ (by omega)]; rfl
  have la : oA x < 200000 := by
    have l1 := Nat.and_le_left (n := x / 2) (m := 6148914691236517205)
    have l2 := Nat.and_le_left (n := x) (m := 6148914691236517205)
    show (x / 2 &&& 6148914691236517205) + (x &&& 6148914691236517205) < _
    omega
  have eb : ∀ y : Nat, y < 200000 → IntKind.u64.wrap (bits .and .u64 ((y : Int) / 4) 3689348814741910323 + bits .and .u64 (y : Int) 3689348814741910323) = ((oB y : Nat) : Int) ∧ oB y < 400000 := fun y hy => by
    have h1 := u64_and_nat (y / 4) 3689348814741910323 (by omega) (by omega)
    have h2 := u64_and_nat y 3689348814741910323 (by omega) (by omega)
    have l1 := Nat.and_le_left (n := y / 4) (m := 3689348814741910323)
    have l2 := Nat.and_le_left (n := y) (m := 3689348814741910323)
    rw [show ((y / 4 : Nat) : Int) = (y : Int) / 4 by omega] at h1
    have h1' : bits .and .u64 ((y : Int) / 4) 3689348814741910323 = ((y / 4 &&& 3689348814741910323 : Nat) : Int) := h1
    have h2' : bits .and .u64 (y : Int) 3689348814741910323 = ((y &&& 3689348814741910323 : Nat) : Int) := h2
    refine ⟨by rw [h1', h2', ← Int.natCast_add, wrap_u64_nat _ (by omega)]; rfl, ?_⟩
    show (y / 4 &&& 3689348814741910323) + (y &&& 3689348814741910323) < _
    omega
  have ec : ∀ y : Nat, y < 400000 → bits .and .u64 (IntKind.u64.wrap ((y : Int) / 16 + (y : Int))) 1085102592571150095 = ((oC y : Nat) : Int) ∧ oC y < 500000 := fun y hy => by
    have h1 := u64_and_nat (y / 16 + y) 1085102592571150095 (by omega) (by omega)
    have l1 := Nat.and_le_left (n := y / 16 + y) (m := 1085102592571150095)
    rw [show (y : Int) / 16 + (y : Int) = ((y / 16 + y : Nat) : Int) by omega, wrap_u64_nat _ (by omega)]
    refine ⟨h1, ?_⟩
    show (y / 16 + y &&& 1085102592571150095) < _
    omega
  have ed : ∀ y : Nat, y < 500000 → IntKind.u64.wrap ((y : Int) + (y : Int) / 256) = ((oD y : Nat) : Int) ∧ oD y < 600000 := fun y hy => by
    rw [show (y : Int) + (y : Int) / 256 = ((y + y / 256 : Nat) : Int) by omega, wrap_u64_nat _ (by omega)]
    exact ⟨rfl, by show y + y / 256 < _; omega⟩
  have ee : ∀ y : Nat, y < 600000 → IntKind.u64.wrap ((y : Int) + (y : Int) / 65536) = ((oE y : Nat) : Int) ∧ oE y < 700000 := fun y hy => by
    rw [show (y : Int) + (y : Int) / 65536 = ((y + y / 65536 : Nat) : Int) by omega, wrap_u64_nat _ (by omega)]
    exact ⟨rfl, by show y + y / 65536 < _; omega⟩
  have ef : ∀ y : Nat, y < 700000 → IntKind.u64.wrap ((y : Int) + (y : Int) / 4294967296) = ((oF y : Nat) : Int) ∧ oF y < 800000 := fun y hy => by
    rw [show (y : Int) + (y : Int) / 4294967296 = ((y + y / 4294967296 : Nat) : Int) by omega, wrap_u64_nat _ (by omega)]
    exact ⟨rfl, by show y + y / 4294967296 < _; omega⟩
  have eg : ∀ y : Nat, y < 800000 → bits .and .i64 (wrap64 (y : Int)) 127 = ((oG y : Nat) : Int) := fun y hy => by
    rw [IntWalk.wrap64_in _ ⟨by omega, by omega⟩]
    have := bits_mask .i64 63 (by decide) wraps_i64 7 (by decide) (y : Int) (by omega) (by omega)
    have e7 : ((2 : Int) ^ 7 - 1) = 127 := by decide
    rw [e7] at this
    rw [this]
    show _ = ((y &&& 127 : Nat) : Int)
    rw [nat_mask7]; simp
  have b1 := eb _ la
  have c1 := ec _ b1.2
  have d1 := ed _ c1.2
  have e1 := ee _ d1.2
  have f1 := ef _ e1.2
  have g1 := eg _ f1.2
  unfold ocI ocN
  simp only
  rw [ea, b1.1, c1.1, d1.1, e1.1, f1.1, g1]

theorem ocI_cnt (x : Nat) (h : x < 65536) : ocI x = ((cntMask x 16 : Nat) : Int) := by rw [ocI_nat x h, ocN_cnt x h]

theorem cnt_le16 (m p : Nat) (hp : p ≤ 16) : cntMask (m % 2 ^ p) 16 = cntMask m p := by
  have hlt : m % 2 ^ p < 2 ^ p := Nat.mod_lt _ (Nat.two_pow_pos p)
  rw [cntMask_top _ p hlt 16 hp, cntMask_low m p p (Nat.le_refl _)]

theorem mask_arg (m p : Nat) (hm : m < 65536) (hp : p ≤ 16) : IntKind.u64.wrap (bits .and .i64 (m : Int) (wrap64 (wrap64 ((2 : Int) ^ p) - 1))) = ((m % 2 ^ p : Nat) : Int) := by
  have hpow : ((2 : Int) ^ p) = ((2 ^ p : Nat) : Int) := by simp
  have h1 : 2 ^ p ≤ 2 ^ 16 := Nat.pow_le_pow_right (by omega) hp
  have h0 := Nat.two_pow_pos p
  have hlt : m % 2 ^ p < 2 ^ p := Nat.mod_lt _ h0
  have hb := bits_mask .i64 63 (by decide) wraps_i64 p (by omega) (m : Int) (by omega) (by omega)
  have e1 : wrap64 ((2 : Int) ^ p) = (2 : Int) ^ p := by rw [hpow]; exact IntWalk.wrap64_in _ ⟨by omega, by omega⟩
  have e2 : wrap64 ((2 : Int) ^ p - 1) = (2 : Int) ^ p - 1 := by rw [hpow]; exact IntWalk.wrap64_in _ ⟨by omega, by omega⟩
  rw [e1, e2, hb, hpow, ← Int.natCast_emod]
  exact wrap_u64_nat _ (by omega)

theorem i64_andNot_nat (a b : Nat) (ha : a < 9223372036854775808) (hb : b < 9223372036854775808) : bits .andNot .i64 (a : Int) (b : Int) = ((a &&& (18446744073709551615 - b) : Nat) : Int) := by
  have hx := Nat.and_le_left (n := a) (m := 18446744073709551615 - b)
  show IntKind.i64.wrap ((BitVec.ofInt 64 (a : Int) &&& ~~~BitVec.ofInt 64 (b : Int)).toNat : Int) = _
  rw [BitVec.toNat_and, BitVec.toNat_not, ofInt_u64 a (by omega), ofInt_u64 b (by omega), IntKind.wrap_i64]
  have e : 2 ^ 64 - 1 - b = 18446744073709551615 - b := by omega
  rw [e]
  omega

theorem i64_and_nat (a b : Nat) (ha : a < 9223372036854775808) (hb : b < 9223372036854775808) : bits .and .i64 (a : Int) (b : Int) = ((a &&& b : Nat) : Int) :=
  (bits_nat .i64 63 (by decide) wraps_i64 a b ha hb).1

end Go.Proofs.Ytmhkhbpedfdocah
