/- PktMath: packets come back from their bytes; a byte of the header turned makes another one. Nothing of the program. -/
import Derived.Test.YtofenlclefkgdaaMerged5
import Derived.Test.YtofenlclefkgdaaMerged4
namespace Go.Proofs.Ytofenlclefkgdaa
open Go.RowKit Go.PlainAid
set_option linter.unusedVariables false
set_option linter.unusedSimpArgs false

theorem ext_mid (X Y Z : ByteArray) : (X ++ Y ++ Z).extract X.size (X.size + Y.size) = Y := by
 have hs : ((X ++ Y ++ Z).extract X.size (X.size + Y.size)).size = Y.size := by
  rw [ByteArray.size_extract]; simp only [ByteArray.size_append]; omega
 refine ba_ext hs fun i hi => ?_
 rw [hs] at hi
 rw [bt_extract _ _ _ _ (by simp only [ByteArray.size_append]; omega), if_pos (by omega), bt_append, if_pos (by rw [ByteArray.size_append]; omega), bt_append, if_neg (by omega)]
 congr 1; omega
theorem ext_at {t X Y Z : ByteArray} {a b : Nat} (h : t = X ++ Y ++ Z) (ha : a = X.size) (hb : b = X.size + Y.size) : t.extract a b = Y := by
 subst h ha hb; exact ext_mid X Y Z

theorem headA_bt' (p : P4) (hA : v4A p = true) (b1 : p.opts.size ≤ 40) (b3 : p.data.size ≤ 1400) : (headA p).size = 10 ∧ bt (headA p) 0 = 64 + hlen p / 4 ∧ bt (headA p) 1 = p.tos ∧ wordN (bt (headA p)) 2 = hlen p + p.data.size ∧ wordN (bt (headA p)) 4 = p.id ∧ wordN (bt (headA p)) 6 = offV p ∧ bt (headA p) 8 = p.ttl ∧ bt (headA p) 9 = p.proto := by
 obtain ⟨a1, a2, a3, a4, a5, a6, a7⟩ := v4A_parts hA
 have hl : hlen p = 20 + p.opts.size := rfl
 have ho : 0 ≤ offV p ∧ offV p ≤ 65535 := by unfold offV; split <;> split <;> omega
 have q1 := pairV_bt (64 + hlen p / 4) p.tos (by omega) a1
 have q2 := bt_two (hlen p + p.data.size) (by omega) (by omega)
 have q3 := bt_two p.id a4.1 a4.2
 have q4 := bt_two (offV p) ho.1 ho.2
 have q5 := pairV_bt p.ttl p.proto a2 a3
 unfold headA wordN
 refine ⟨by simp only [ByteArray.size_append, pairV_size, twoV_size], ?_, ?_, ?_, ?_, ?_, ?_, ?_⟩ <;> simp [bt_append, ByteArray.size_append, pairV_size, twoV_size, q1, q2, q3, q4, q5] <;> omega

theorem add1_zero_parts {a b : Int} (ha : 0 ≤ a) (hb : 0 ≤ b) (h : add1 a b = 0) : a = 0 ∧ b = 0 := by unfold add1 at h; split at h <;> omega
theorem sumN_zero {f : Nat → Int} (hf : isByte f) : ∀ k, sumN f k = 0 → ∀ j, j < k → wordN f (2 * j) = 0
 | 0, _, j, hj => by omega
 | k + 1, h, j, hj => by
  have hr := sumN_range hf k
  have hw := wordN_range hf (2 * k)
  obtain ⟨h1, h2⟩ := add1_zero_parts hr.1 hw.1 h
  by_cases e : j = k
  ·subst e; exact h2
  ·exact sumN_zero hf k h1 j (by omega)

/-- The sum with its check in it. -/
theorem sum_full (A B : ByteArray) (hA : A.size = 10) (h0 : bt A 0 ≠ 0) : sumV (A ++ twoV (65535 - sumV (A ++ B)) ++ B) = 65535 := by
 obtain ⟨S, hS⟩ : ∃ S, S = sumV (A ++ B) := ⟨_, rfl⟩
 have hr : 0 ≤ S ∧ S ≤ 65535 := by rw [hS]; exact sumV_range _
 rw [← hS]
 have hz := sumV_zero A B 5 hA
 rw [← hS] at hz
 have q := bt_two (65535 - S) (by omega) (by omega)
 have q0 := bt_two 0 (by decide) (by decide)
 have hsz : (A ++ twoV (65535 - S) ++ B).size = (A ++ twoV 0 ++ B).size := by simp only [ByteArray.size_append, twoV_size]
 have hlen : 12 ≤ (A ++ twoV 0 ++ B).size := by simp only [ByteArray.size_append, twoV_size]; omega
 have l : ∀ (Y : ByteArray) i, Y.size = 2 → i < 10 → bt (A ++ Y ++ B) i = bt A i := fun Y i hY hi => by
  rw [bt_append, if_pos (by rw [ByteArray.size_append]; omega), bt_append, if_pos (by omega)]
 have r : ∀ (Y : ByteArray) i, Y.size = 2 → 12 ≤ i → bt (A ++ Y ++ B) i = bt B (i - 12) := fun Y i hY hi => by
  rw [bt_append, if_neg (by rw [ByteArray.size_append]; omega), ByteArray.size_append, hA, hY]
 have hf : ∀ i, (i < 2 * 5 ∨ 2 * 5 + 2 ≤ i) → bt (A ++ twoV 0 ++ B) i = bt (A ++ twoV (65535 - S) ++ B) i := fun i hi => by
  rcases hi with hi | hi
  ·rw [l _ i rfl (by omega), l _ i rfl (by omega)]
  ·rw [r _ i rfl (by omega), r _ i rfl (by omega)]
 obtain ⟨z, hzz⟩ := sumN_turn hf (((A ++ twoV 0 ++ B).size + 1) / 2) (by omega)
 have w0 : wordN (bt (A ++ twoV 0 ++ B)) (2 * 5) = 0 := by
  unfold wordN
  rw [bt_append, if_pos (by simp only [ByteArray.size_append, twoV_size]; omega), bt_append, if_neg (by omega), bt_append, if_pos (by simp only [ByteArray.size_append, twoV_size]; omega), bt_append, if_neg (by omega), show 2 * 5 - A.size = 0 by omega, show 2 * 5 + 1 - A.size = 1 by omega, q0.1, q0.2]
  decide
 have w1 : wordN (bt (A ++ twoV (65535 - S) ++ B)) (2 * 5) = 65535 - S := by
  unfold wordN
  rw [bt_append, if_pos (by simp only [ByteArray.size_append, twoV_size]; omega), bt_append, if_neg (by omega), bt_append, if_pos (by simp only [ByteArray.size_append, twoV_size]; omega), bt_append, if_neg (by omega), show 2 * 5 - A.size = 0 by omega, show 2 * 5 + 1 - A.size = 1 by omega, q.1, q.2]
  omega
 have hz' : sumN (bt (A ++ twoV 0 ++ B)) (((A ++ twoV 0 ++ B).size + 1) / 2) = S := hz
 have hs' : sumV (A ++ twoV (65535 - S) ++ B) = sumN (bt (A ++ twoV (65535 - S) ++ B)) (((A ++ twoV 0 ++ B).size + 1) / 2) := by unfold sumV; rw [hsz]
 have hfin : sumV (A ++ twoV (65535 - S) ++ B) = S - 0 + (65535 - S) + 65535 * z := by
  rw [hs', hzz, hz', w0, w1]
 have hrr := sumV_range (A ++ twoV (65535 - S) ++ B)
 have hne : sumV (A ++ twoV (65535 - S) ++ B) ≠ 0 := fun h => by
  have := sumN_zero (bt_isByte _) _ h 0 (by rw [hsz]; omega)
  have hb := bt_isByte (A ++ twoV (65535 - S) ++ B)
  have h1 := hb 0
  have h2 := hb 1
  unfold wordN at this
  have e0 : bt (A ++ twoV (65535 - S) ++ B) 0 = bt A 0 := by rw [bt_append, if_pos (by simp only [ByteArray.size_append, twoV_size]; omega), bt_append, if_pos (by omega)]
  simp only [Nat.mul_zero, Nat.zero_add] at this
  omega
 omega

/-- What is read of the bytes of a packet whose numbers fit in their fields, whether it is right or not. -/
theorem v4_round' (p : P4) (hA : v4A p = true) (b1 : p.opts.size ≤ 40) (b2 : p.opts.size % 4 = 0) (b3 : p.data.size ≤ 1400) (z : ByteArray) (hz : z.size ≤ 100) : v4CodeV (v4Raw p ++ z) = (if v4Ok p then 0 else 1) ∧ v4Cut (v4Raw p ++ z) = p := by
 obtain ⟨a1, a2, a3, a4, a5, a6, a7⟩ := v4A_parts hA
 obtain ⟨hz10, e0, e1, e2, e4, e6, e8, e9⟩ := headA_bt' p hA b1 b3
 have hl : hlen p = 20 + p.opts.size := rfl
 obtain ⟨A, hAd⟩ : ∃ A, A = headA p := ⟨_, rfl⟩
 obtain ⟨C, hC⟩ : ∃ C, C = twoV (65535 - sumV (headA p ++ headB p)) := ⟨_, rfl⟩
 have hCz : C.size = 2 := by rw [hC]; rfl
 have hT : v4Raw p ++ z = A ++ C ++ p.src ++ p.dst ++ p.opts ++ p.data ++ z := by
  rw [hAd, hC]; unfold v4Raw headB; simp only [ByteArray.append_assoc]
 rw [← hAd] at hz10 e0 e1 e2 e4 e6 e8 e9
 have hsz : (v4Raw p ++ z).size = 20 + p.opts.size + p.data.size + z.size := by rw [hT]; simp only [ByteArray.size_append]; omega
 have hb : ∀ i, i < 10 → bt (v4Raw p ++ z) i = bt A i := fun i hi => by
  rw [hT]; simp only [ByteArray.append_assoc]; rw [bt_append, if_pos (by omega)]
 have hw : ∀ i, i + 1 < 10 → wordN (bt (v4Raw p ++ z)) i = wordN (bt A) i := fun i hi => by unfold wordN; rw [hb i (by omega), hb (i + 1) hi]
 have ho : offV p = p.off + (if p.whole then 16384 else 0) + (if p.more then 8192 else 0) := rfl
 have hm : (64 + hlen p / 4) % 16 = hlen p / 4 := by omega
 have hx0 : bt (v4Raw p ++ z) 0 = 64 + hlen p / 4 := (hb 0 (by omega)).trans e0
 have hh : 4 * ((64 + hlen p / 4) % 16).toNat = 20 + p.opts.size := by omega
 have hw2 := (hw 2 (by omega)).trans e2
 have hcut : v4Cut (v4Raw p ++ z) = p := by
  have x1 : (v4Raw p ++ z).extract 12 16 = p.src := ext_at (X := A ++ C) (Z := p.dst ++ p.opts ++ p.data ++ z) (by rw [hT]; simp only [ByteArray.append_assoc]) (by simp only [ByteArray.size_append]; omega) (by simp only [ByteArray.size_append]; omega)
  have x2 : (v4Raw p ++ z).extract 16 20 = p.dst := ext_at (X := A ++ C ++ p.src) (Z := p.opts ++ p.data ++ z) (by rw [hT]; simp only [ByteArray.append_assoc]) (by simp only [ByteArray.size_append]; omega) (by simp only [ByteArray.size_append]; omega)
  have x3 : (v4Raw p ++ z).extract 20 (20 + p.opts.size) = p.opts := ext_at (X := A ++ C ++ p.src ++ p.dst) (Z := p.data ++ z) (by rw [hT]; simp only [ByteArray.append_assoc]) (by simp only [ByteArray.size_append]; omega) (by simp only [ByteArray.size_append]; omega)
  have x4 : (v4Raw p ++ z).extract (20 + p.opts.size) (20 + p.opts.size + p.data.size) = p.data := ext_at (X := A ++ C ++ p.src ++ p.dst ++ p.opts) (Z := z) (by rw [hT]) (by simp only [ByteArray.size_append]; omega) (by simp only [ByteArray.size_append]; omega)
  unfold v4Cut
  simp only []
  rw [hx0, hh, hw2, show (hlen p + (p.data.size : Int)).toNat = 20 + p.opts.size + p.data.size by omega, x1, x2, x3, x4, hb 1 (by omega), e1, hw 4 (by omega), e4, hw 6 (by omega), e6, hb 8 (by omega), e8, hb 9 (by omega), e9]
  have y1 : decide (offV p / 16384 % 2 = 1) = p.whole := by rw [ho]; cases p.whole <;> cases p.more <;> simp <;> omega
  have y2 : decide (offV p / 8192 % 2 = 1) = p.more := by rw [ho]; cases p.whole <;> cases p.more <;> simp <;> omega
  have y3 : offV p % 8192 = p.off := by rw [ho]; cases p.whole <;> cases p.more <;> simp <;> omega
  rw [y1, y2, y3]
 refine ⟨?_, hcut⟩
 have hsum : sumV ((v4Raw p ++ z).extract 0 (20 + p.opts.size)) = 65535 := by
  have : (v4Raw p ++ z).extract 0 (20 + p.opts.size) = headA p ++ twoV (65535 - sumV (headA p ++ headB p)) ++ headB p := ext_at (X := ByteArray.mk #[]) (Z := p.data ++ z) (by
   unfold v4Raw; simp only [ByteArray.append_assoc]; exact (ByteArray.empty_append).symm) rfl (by
   have h1 : (ByteArray.mk #[]).size = 0 := rfl
   rw [h1]; unfold headB; simp only [ByteArray.size_append, twoV_size]; rw [hAd] at hz10; omega)
  rw [this]
  exact sum_full _ _ (by rw [← hAd]; exact hz10) (by rw [← hAd, e0]; omega)
 have h6 : wordN (bt (v4Raw p ++ z)) 6 = offV p := (hw 6 (by omega)).trans e6
 unfold v4CodeV
 rw [if_neg (by omega), if_neg (by omega), hx0, hm, hw2, h6, if_neg (by
  have : offV p ≤ 32767 := by rw [ho]; cases p.whole <;> cases p.more <;> simp <;> omega
  omega), if_neg (by omega), show 4 * (hlen p / 4).toNat = 20 + p.opts.size by omega, if_neg (by rw [hsum]; decide), hcut]
end Go.Proofs.Ytofenlclefkgdaa
