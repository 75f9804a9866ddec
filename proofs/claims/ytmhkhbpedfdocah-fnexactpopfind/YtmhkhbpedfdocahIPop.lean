/- IPop: what the program's placesRight, rowLies and PopRight answer. -/
import Derived.Test.YtmhkhbpedfdocahICount
import Derived.Test.YtmhkhbpedfdocahPopRight
namespace Go.Proofs.Ytmhkhbpedfdocah
open Go.RowKit Go.PlainAid
set_option linter.unusedVariables false
set_option linter.unusedSimpArgs false

/-- Has every number of d bits behind x p? -/
def allN (p : Nat → Bool) : Nat → Nat → Bool
  | 0, x => p x
  | d + 1, x => and (allN p d (Nat.mul 2 x)) (allN p d (Nat.add (Nat.mul 2 x) 1))
theorem allN_all (p : Nat → Bool) : ∀ d x, allN p d x = true → ∀ y, y < 2 ^ d → p (2 ^ d * x + y) = true
  | 0, x, h, y, hy => by
    have h0 : y = 0 := by simpa using hy
    subst h0
    rw [show 2 ^ 0 * x + 0 = x by omega]
    exact h
  | d + 1, x, h, y, hy => by
    have h' : (allN p d (2 * x) && allN p d (2 * x + 1)) = true := h
    rw [Bool.and_eq_true] at h'
    rw [Nat.pow_succ] at hy ⊢
    by_cases e : y < 2 ^ d
    · have := allN_all p d (2 * x) h'.1 y e
      rwa [show 2 ^ d * (2 * x) + y = 2 ^ d * 2 * x + y by rw [Nat.mul_assoc]] at this
    · obtain ⟨z, rfl⟩ : ∃ z, y = 2 ^ d + z := ⟨y - 2 ^ d, by omega⟩
      have := allN_all p d (2 * x + 1) h'.2 z (by omega)
      rwa [show 2 ^ d * (2 * x + 1) + z = 2 ^ d * 2 * x + (2 ^ d + z) by rw [Nat.mul_add, Nat.mul_assoc]; omega] at this
theorem allN_16 {p : Nat → Bool} (h : allN p 16 0 = true) (m : Nat) (hm : m < 65536) : p m = true := by
  have := allN_all p 16 0 h m hm
  rwa [show 2 ^ 16 * 0 + m = m by omega] at this

/-- The lowest bit that is 0. -/
def bareP (x : Nat) : Bool := Nat.beq (Nat.land (Nat.add x 1) (Nat.sub 18446744073709551615 x)) (Nat.pow 2 (firstZ x))
theorem bareP_yes : allN bareP 16 0 = true := by decide +kernel
/-- All sixteen places are kids just where the number is 65535. -/
def fullP (x : Nat) : Bool := Nat.beq (firstZ x) 16 == Nat.beq x 65535
theorem fullP_yes : allN fullP 16 0 = true := by decide +kernel

theorem bare_first (m : Nat) (h : m < 65536) : bits .andNot .i64 ((m : Int) + 1) (m : Int) = ((2 ^ firstZ m : Nat) : Int) := by
  have h1 : ((m + 1) &&& (18446744073709551615 - m)) = 2 ^ firstZ m := Nat.eq_of_beq_eq_true (allN_16 bareP_yes m h)
  have h2 := i64_andNot_nat (m + 1) m (by omega) (by omega)
  rw [h1] at h2
  exact h2

theorem ones_le_end (m : Nat) : ∀ f k, onesN m f k ≤ k + f
  | 0, k => Nat.le_refl _
  | f + 1, k => by
    unfold onesN
    split
    · have := ones_le_end m f (k + 1); omega
    · omega
theorem firstZ_le (m : Nat) : firstZ m ≤ 16 := by have := ones_le_end m 16 0; unfold firstZ; omega
theorem firstZ_full (m : Nat) (h : m < 65536) : firstZ m = 16 ↔ m = 65535 := by
  have h1 : (Nat.beq (firstZ m) 16 == Nat.beq m 65535) = true := allN_16 fullP_yes m h
  rw [beq_iff_eq] at h1
  constructor
  · intro e; rw [e] at h1; exact Nat.eq_of_beq_eq_true h1.symm
  · rintro rfl; exact Nat.eq_of_beq_eq_true h1

/-- Does a row of so many items lie where it should? -/
def rowV (m : Nat) (first lo hi : Int) : Bool := if m = 0 then decide (first = 0) else decide (lo ≤ first) && decide (first ≤ hi - cntMask m 16)

theorem cnt_none : ∀ d m, m < 2 ^ d → cntMask m d = 0 → m = 0
  | 0, m, h, _ => by simpa using h
  | d + 1, m, h, hc => by
    have h3 : cntMask m d + m / 2 ^ d % 2 = 0 := hc
    rw [Nat.pow_succ] at h
    have h4 : m / 2 ^ d < 2 := Nat.div_lt_of_lt_mul h
    have h5 : m / 2 ^ d = 0 := by generalize m / 2 ^ d = t at h3 h4; omega
    exact cnt_none d m ((Nat.div_eq_zero_iff_lt (Nat.two_pow_pos d)).1 h5) (by omega)
theorem cnt0_iff (m : Nat) (h : m < 65536) : cntMask m 16 = 0 ↔ m = 0 := ⟨fun e => cnt_none 16 m h e, fun e => by subst e; decide⟩

/-- Are a node's places right by themselves? -/
def placesV (x : Pn) : Bool := isW x.kids && isW x.leaf && decide (bits .and .i64 x.kids x.leaf = 0) && !(decide (firstZ x.kids.toNat < 16) && decide (x.leaf.toNat / 2 ^ firstZ x.kids.toNat % 2 = 0))

theorem nodeOk_parts (n L i : Nat) (x : Pn) : nodeOk n L i x = (placesV x && !nodeBase n i x && !nodeLeafs L x) := by
  unfold nodeOk placesV
  cases isW x.kids <;> cases isW x.leaf <;> cases decide (bits .and .i64 x.kids x.leaf = 0) <;> cases nodeBase n i x <;> cases nodeLeafs L x <;> cases (decide (firstZ x.kids.toNat < 16) && decide (x.leaf.toNat / 2 ^ firstZ x.kids.toNat % 2 = 0)) <;> rfl

theorem nodeBase_row (n i m : Nat) (xl xb xf : Int) : (!nodeBase n i ⟨(m : Int), xl, xb, xf⟩) = rowV m xb ((i : Int) + 1) n := by
  unfold nodeBase rowV
  dsimp only
  rw [show ((m : Int)).toNat = m from rfl]
  by_cases h : m = 0
  · subst h; simp
  · have h' : ¬ ((m : Int) = 0) := by omega
    rw [if_neg h, decide_eq_false h']
    rw [Bool.eq_iff_iff]
    simp
    omega

theorem nodeLeafs_row (L l : Nat) (xk xb xf : Int) : (!nodeLeafs L ⟨xk, (l : Int), xb, xf⟩) = rowV l xf 0 L := by
  unfold nodeLeafs rowV
  dsimp only
  rw [show ((l : Int)).toNat = l from rfl]
  by_cases h : l = 0
  · subst h; simp
  · have h' : ¬ ((l : Int) = 0) := by omega
    rw [if_neg h, decide_eq_false h']
    rw [Bool.eq_iff_iff]
    simp

set_option maxRecDepth 100000 in
set_option maxHeartbeats 1000000 in
theorem implRowLies_any (m : Nat) (first lo hi : Int) (w : World) (hm : m < 65536) (h0 : 0 ≤ hi) (h1 : hi ≤ 1048576) :
    Calls Try.prog 58 #[.int .i64 m, .int .i64 first, .int .i64 lo, .int .i64 hi] w fun e w' => e = .returned (.bool (rowV m first lo hi)) ∧ w' = w := by
  have hc := cntMask_le m 16
  have HC : Hid (∀ W, Calls Try.prog 54 #[.int .i64 m, .int .i64 16] W fun e w' => e = .returned (.int .i64 (cntMask m 16 : Nat)) ∧ w' = W) := fun W => implCount_any m 16 W hm (Nat.le_refl _)
  by_cases hz : m = 0
  · have HV : Hid (rowV m first lo hi = decide (first = 0)) := if_pos hz
    have HC : Hid (∀ W, Calls Try.prog 54 #[.int .i64 m, .int .i64 16] W fun e w' => e = .returned (.int .i64 0) ∧ w' = W) := fun W => by have := HC.out W; rwa [(cnt0_iff m hm).2 hz] at this
    clear hc hz
    go_enter Try.func58, Try.ntmps58
    go_wp2_with fail
    refine (HC.out _).mono ?_
    rintro e w2 ⟨rfl, rfl⟩
    go_wp2_with fail
    go_ret
    exact ⟨ret_bool (by rw [HV.out]; rfl), rfl⟩
  · have HV : Hid (rowV m first lo hi = (decide (lo ≤ first) && decide (first ≤ hi - cntMask m 16))) := if_neg hz
    have hn0 : cntMask m 16 ≠ 0 := fun e => hz ((cnt0_iff m hm).1 e)
    generalize cntMask m 16 = c at *
    have hcz : ((c : Int) == 0) = false := by simp; omega
    clear hz
    by_cases hl : lo ≤ first
    · have hd : decide (lo ≤ first) = true := by simpa using hl
      rw [hd] at HV
      go_enter Try.func58, Try.ntmps58
      go_wp2_with fail
      refine (HC.out _).mono ?_
      rintro e w2 ⟨rfl, rfl⟩
      go_wp2_with fail
      go_ret
      exact ⟨ret_bool (by rw [HV.out]; rfl), rfl⟩
    · have hd : decide (lo ≤ first) = false := by simpa using hl
      have hl' : first < lo := by omega
      rw [hd] at HV
      go_enter Try.func58, Try.ntmps58
      go_wp2_with fail
      refine (HC.out _).mono ?_
      rintro e w2 ⟨rfl, rfl⟩
      go_wp2_with fail
      go_ret
      exact ⟨ret_bool (by rw [HV.out]; rfl), rfl⟩

theorem bare_and (m l : Nat) (hl : l < 65536) : (bits .and .i64 (l : Int) ((2 ^ firstZ m : Nat) : Int) != 0) = decide (l / 2 ^ firstZ m % 2 = 1) := by
  have h16 : 2 ^ firstZ m ≤ 2 ^ 16 := Nat.pow_le_pow_right (by omega) (firstZ_le m)
  rw [i64_and_nat l _ (by omega) (by omega), nat_bit]
  have hp := Nat.two_pow_pos (firstZ m)
  have hlt : l / 2 ^ firstZ m % 2 < 2 := Nat.mod_lt _ (by omega)
  generalize l / 2 ^ firstZ m % 2 = t at *
  generalize 2 ^ firstZ m = q at *
  have ht : t = 0 ∨ t = 1 := by omega
  rcases ht with rfl | rfl
  · simp
  · simp; omega

theorem placesV_full (l : Nat) (xb xf : Int) (hw : isW (l : Int) = true) (hand : bits .and .i64 65535 (l : Int) = 0) : placesV ⟨65535, (l : Int), xb, xf⟩ = true := by
  unfold placesV
  dsimp only
  rw [hw, hand, show (65535 : Int).toNat = 65535 from rfl, (firstZ_full 65535 (by omega)).2 rfl]
  rfl

theorem placesV_bare (m l : Nat) (xb xf : Int) (hm : m < 65535) (hw : isW (m : Int) = true) (hw2 : isW (l : Int) = true) (hand : bits .and .i64 (m : Int) (l : Int) = 0) : placesV ⟨(m : Int), (l : Int), xb, xf⟩ = decide (l / 2 ^ firstZ m % 2 = 1) := by
  unfold placesV
  dsimp only
  have h16 : firstZ m < 16 := by
    have h1 := firstZ_le m
    have h2 : firstZ m ≠ 16 := fun e => by have := (firstZ_full m (by omega)).1 e; omega
    omega
  rw [hw, hw2, decide_eq_true hand, show ((m : Int)).toNat = m from rfl, show ((l : Int)).toNat = l from rfl, decide_eq_true h16]
  have hlt : l / 2 ^ firstZ m % 2 < 2 := Nat.mod_lt _ (by omega)
  generalize l / 2 ^ firstZ m % 2 = t at *
  have ht : t = 0 ∨ t = 1 := by omega
  rcases ht with rfl | rfl <;> rfl

set_option maxRecDepth 100000 in
set_option maxHeartbeats 1000000 in
theorem implPlaces_any (xk xl xb xf : Int) (w : World) (h1 : In64s xk) (h2 : In64s xl) :
    Calls Try.prog 57 #[.agg #[.int .i64 xk, .int .i64 xl, .int .i64 xb, .int .i64 xf]] w fun e w' => e = .returned (.bool (placesV ⟨xk, xl, xb, xf⟩)) ∧ Below w.heap.size w w' := by
  have HWK : Hid (∀ W, Calls Try.prog 78 #[.int .i64 xk] W fun e w' => e = .returned (.bool (isW xk)) ∧ w' = W) := fun W => implWordIs_any xk W
  have HWL : Hid (∀ W, Calls Try.prog 78 #[.int .i64 xl] W fun e w' => e = .returned (.bool (isW xl)) ∧ w' = W) := fun W => implWordIs_any xl W
  have HB : Hid (Below w.heap.size w (w.alloc (.cells #[.int .i64 xk, .int .i64 xl, .int .i64 xb, .int .i64 xf] 64))) := (Below.refl _ _).alloc (Nat.le_refl _) _
  unfold In64s at h1 h2
  cases hwk : isW xk with
  | false =>
    have HV : Hid (placesV ⟨xk, xl, xb, xf⟩ = false) := by unfold Hid placesV; dsimp only; rw [hwk]; rfl
    rw [hwk] at HWK
    clear hwk
    go_enter Try.func57, Try.ntmps57
    go_wp2_with fail
    refine (HWK.out _).mono ?_
    rintro e w2 ⟨rfl, rfl⟩
    go_wp2_with fail
    go_ret
    exact ⟨ret_bool HV.out.symm, HB.out⟩
  | true =>
    cases hwl : isW xl with
    | false =>
      have HV : Hid (placesV ⟨xk, xl, xb, xf⟩ = false) := by unfold Hid placesV; dsimp only; rw [hwl, Bool.and_false]; rfl
      rw [hwk] at HWK
      rw [hwl] at HWL
      clear hwk hwl
      go_enter Try.func57, Try.ntmps57
      go_wp2_with fail
      refine (HWK.out _).mono ?_
      rintro e w2 ⟨rfl, rfl⟩
      go_wp2_with fail
      refine (HWL.out _).mono ?_
      rintro e w2 ⟨rfl, rfl⟩
      go_wp2_with fail
      go_ret
      exact ⟨ret_bool HV.out.symm, HB.out⟩
    | true =>
      by_cases hand : bits .and .i64 xk xl = 0
      · have hne : (bits .and .i64 xk xl != 0) = false := by simpa using hand
        obtain ⟨k0, k1⟩ := isW_parts hwk
        obtain ⟨l0, l1⟩ := isW_parts hwl
        obtain ⟨m, rfl⟩ := Int.eq_ofNat_of_zero_le k0
        obtain ⟨l, rfl⟩ := Int.eq_ofNat_of_zero_le l0
        by_cases hfull : m = 65535
        · have HV : Hid (placesV ⟨(m : Int), (l : Int), xb, xf⟩ = true) := by subst hfull; exact placesV_full l xb xf hwl hand
          have hfb : ((m : Int) == 65535) = true := by rw [hfull]; rfl
          clear hfull
          rw [hwk] at HWK
          rw [hwl] at HWL
          clear hwk hwl
          go_enter Try.func57, Try.ntmps57
          go_wp2_with fail
          refine (HWK.out _).mono ?_
          rintro e w2 ⟨rfl, rfl⟩
          go_wp2_with fail
          refine (HWL.out _).mono ?_
          rintro e w2 ⟨rfl, rfl⟩
          go_wp2_with fail
          go_ret
          exact ⟨ret_bool HV.out.symm, HB.out⟩
        · have HV : Hid (placesV ⟨(m : Int), (l : Int), xb, xf⟩ = decide (l / 2 ^ firstZ m % 2 = 1)) := placesV_bare m l xb xf (by omega) hwk hwl hand
          have hbare := bare_first m (by omega)
          have hba := bare_and m l (by omega)
          rw [← HV.out] at hba
          generalize 2 ^ firstZ m = v at hbare hba
          have hnf : ((m : Int) == 65535) = false := by simp; omega
          generalize placesV ⟨(m : Int), (l : Int), xb, xf⟩ = t at *
          rw [hwk] at HWK
          rw [hwl] at HWL
          clear hwk hwl HV hfull
          go_enter Try.func57, Try.ntmps57
          go_wp2_with fail
          refine (HWK.out _).mono ?_
          rintro e w2 ⟨rfl, rfl⟩
          go_wp2_with fail
          refine (HWL.out _).mono ?_
          rintro e w2 ⟨rfl, rfl⟩
          go_wp2_with fail
          go_ret
          exact ⟨rfl, HB.out⟩
      · have HV : Hid (placesV ⟨xk, xl, xb, xf⟩ = false) := by unfold Hid placesV; dsimp only; rw [decide_eq_false hand, Bool.and_false]; rfl
        rw [hwk] at HWK
        rw [hwl] at HWL
        have hne : (bits .and .i64 xk xl != 0) = true := by simpa using hand
        clear hwk hwl
        go_enter Try.func57, Try.ntmps57
        go_wp2_with fail
        refine (HWK.out _).mono ?_
        rintro e w2 ⟨rfl, rfl⟩
        go_wp2_with fail
        refine (HWL.out _).mono ?_
        rintro e w2 ⟨rfl, rfl⟩
        go_wp2_with fail
        go_ret
        exact ⟨ret_bool HV.out.symm, HB.out⟩

end Go.Proofs.Ytmhkhbpedfdocah
