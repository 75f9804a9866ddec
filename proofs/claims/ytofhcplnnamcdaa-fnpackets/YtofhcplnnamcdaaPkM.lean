/- PkM: PktMath, PktMath2, PktSame, in one text. -/
import Derived.Test.YtofhcplnnamcdaaIV4BM
import Derived.Test.YtofhcplnnamcdaaEmbed
import Derived.Test.YtofhcplnnamcdaaBitMath
import Derived.Test.YtofhcplnnamcdaaPkt
import Derived.Test.YtofhcplnnamcdaaChecked
import Derived.Laws.StructEq

/- PktMath: packets come back from their bytes; a byte of the header turned makes another one. Nothing of the program. -/
namespace Go.Proofs.Ytofhcplnnamcdaa
open Go.RowKit Go.PlainAid
set_option linter.unusedVariables false
set_option linter.unusedSimpArgs false

theorem ext_mid (X Y Z : ByteArray) : (X ++ Y ++ Z).extract X.size (X.size + Y.size) = Y := by
  have hs : ((X ++ Y ++ Z).extract X.size (X.size + Y.size)).size = Y.size := by
    rw [ByteArray.size_extract]; simp only [ByteArray.size_append]; omega
  refine ba_ext hs fun i hi => ?_
  rw [hs] at hi
  rw [bt_extract _ _ _ _ (by simp only [ByteArray.size_append]; omega), if_pos (by omega), bt_append, if_pos (by rw [ByteArray.size_append]; omega), bt_append, if_neg (by omega)]
  congr 1; omega
theorem ext_at {t X Y Z : ByteArray} {a b : Nat} (h : t = X ++ Y ++ Z) (ha : a = X.size) (hb : b = X.size + Y.size) : t.extract a b = Y := by
  subst h ha hb; exact ext_mid X Y Z

theorem headA_bt (p : P4) (h : v4Ok p = true) : (headA p).size = 10 ∧ bt (headA p) 0 = 64 + hlen p / 4 ∧ bt (headA p) 1 = p.tos ∧ wordN (bt (headA p)) 2 = hlen p + p.data.size ∧ wordN (bt (headA p)) 4 = p.id ∧ wordN (bt (headA p)) 6 = offV p ∧ bt (headA p) 8 = p.ttl ∧ bt (headA p) 9 = p.proto := by
  have hA : v4A p = true := by unfold v4Ok at h; simp only [Bool.and_eq_true] at h; exact h.1.1
  have hB : v4B p = true := by unfold v4Ok at h; simp only [Bool.and_eq_true] at h; exact h.1.2
  obtain ⟨a1, a2, a3, a4, a5, a6, a7⟩ := v4A_parts hA
  obtain ⟨b1, b2, b3, -, b5⟩ := v4B_parts hB
  have hl : hlen p = 20 + p.opts.size := rfl
  have ho : 0 ≤ offV p ∧ offV p ≤ 65535 := by unfold offV; split <;> split <;> omega
  have q1 := pairV_bt (64 + hlen p / 4) p.tos (by omega) a1
  have q2 := bt_two (hlen p + p.data.size) (by omega) (by omega)
  have q3 := bt_two p.id a4.1 a4.2
  have q4 := bt_two (offV p) ho.1 ho.2
  have q5 := pairV_bt p.ttl p.proto a2 a3
  unfold headA wordN
  refine ⟨by simp only [ByteArray.size_append, pairV_size, twoV_size], ?_, ?_, ?_, ?_, ?_, ?_, ?_⟩ <;> simp [bt_append, ByteArray.size_append, pairV_size, twoV_size, q1, q2, q3, q4, q5] <;> omega

theorem add1_zero_parts {a b : Int} (ha : 0 ≤ a) (hb : 0 ≤ b) (h : add1 a b = 0) : a = 0 ∧ b = 0 := by unfold add1 at h; split at h <;> omega
theorem sumN_zero {f : Nat → Int} (hf : isByte f) : ∀ k, sumN f k = 0 → ∀ j, j < k → wordN f (2 * j) = 0
  | 0, _, j, hj => by omega
  | k + 1, h, j, hj => by
    have hr := sumN_range hf k
    have hw := wordN_range hf (2 * k)
    obtain ⟨h1, h2⟩ := add1_zero_parts hr.1 hw.1 h
    by_cases e : j = k
    · subst e; exact h2
    · exact sumN_zero hf k h1 j (by omega)

/-- The sum with its check in it. -/
theorem sum_full (A B : ByteArray) (hA : A.size = 10) (h0 : bt A 0 ≠ 0) : sumV (A ++ twoV (65535 - sumV (A ++ B)) ++ B) = 65535 := by
  obtain ⟨S, hS⟩ : ∃ S, S = sumV (A ++ B) := ⟨_, rfl⟩
  have hr : 0 ≤ S ∧ S ≤ 65535 := by rw [hS]; exact sumV_range _
  rw [← hS]
  have hz := sumV_zero A B 5 hA
  rw [← hS] at hz
  have q := bt_two (65535 - S) (by omega) (by omega)
  have q0 := bt_two 0 (by decide) (by decide)
  have hsz : (A ++ twoV (65535 - S) ++ B).size = (A ++ twoV 0 ++ B).size := by simp only [ByteArray.size_append, twoV_size]
  have hlen : 12 ≤ (A ++ twoV 0 ++ B).size := by simp only [ByteArray.size_append, twoV_size]; omega
  have l : ∀ (Y : ByteArray) i, Y.size = 2 → i < 10 → bt (A ++ Y ++ B) i = bt A i := fun Y i hY hi => by
    rw [bt_append, if_pos (by rw [ByteArray.size_append]; omega), bt_append, if_pos (by omega)]
  have r : ∀ (Y : ByteArray) i, Y.size = 2 → 12 ≤ i → bt (A ++ Y ++ B) i = bt B (i - 12) := fun Y i hY hi => by
    rw [bt_append, if_neg (by rw [ByteArray.size_append]; omega), ByteArray.size_append, hA, hY]
  have hf : ∀ i, (i < 2 * 5 ∨ 2 * 5 + 2 ≤ i) → bt (A ++ twoV 0 ++ B) i = bt (A ++ twoV (65535 - S) ++ B) i := fun i hi => by
    rcases hi with hi | hi
    · rw [l _ i rfl (by omega), l _ i rfl (by omega)]
    · rw [r _ i rfl (by omega), r _ i rfl (by omega)]
  obtain ⟨z, hzz⟩ := sumN_turn hf (((A ++ twoV 0 ++ B).size + 1) / 2) (by omega)
  have w0 : wordN (bt (A ++ twoV 0 ++ B)) (2 * 5) = 0 := by
    unfold wordN
    rw [bt_append, if_pos (by simp only [ByteArray.size_append, twoV_size]; omega), bt_append, if_neg (by omega), bt_append, if_pos (by simp only [ByteArray.size_append, twoV_size]; omega), bt_append, if_neg (by omega), show 2 * 5 - A.size = 0 by omega, show 2 * 5 + 1 - A.size = 1 by omega, q0.1, q0.2]
    decide
  have w1 : wordN (bt (A ++ twoV (65535 - S) ++ B)) (2 * 5) = 65535 - S := by
    unfold wordN
    rw [bt_append, if_pos (by simp only [ByteArray.size_append, twoV_size]; omega), bt_append, if_neg (by omega), bt_append, if_pos (by simp only [ByteArray.size_append, twoV_size]; omega), bt_append, if_neg (by omega), show 2 * 5 - A.size = 0 by omega, show 2 * 5 + 1 - A.size = 1 by omega, q.1, q.2]
    omega
  have hz' : sumN (bt (A ++ twoV 0 ++ B)) (((A ++ twoV 0 ++ B).size + 1) / 2) = S := hz
  have hs' : sumV (A ++ twoV (65535 - S) ++ B) = sumN (bt (A ++ twoV (65535 - S) ++ B)) (((A ++ twoV 0 ++ B).size + 1) / 2) := by unfold sumV; rw [hsz]
  have hfin : sumV (A ++ twoV (65535 - S) ++ B) = S - 0 + (65535 - S) + 65535 * z := by
    rw [hs', hzz, hz', w0, w1]
  have hrr := sumV_range (A ++ twoV (65535 - S) ++ B)
  have hne : sumV (A ++ twoV (65535 - S) ++ B) ≠ 0 := fun h => by
    have := sumN_zero (bt_isByte _) _ h 0 (by rw [hsz]; omega)
    have hb := bt_isByte (A ++ twoV (65535 - S) ++ B)
    have h1 := hb 0
    have h2 := hb 1
    unfold wordN at this
    have e0 : bt (A ++ twoV (65535 - S) ++ B) 0 = bt A 0 := by rw [bt_append, if_pos (by simp only [ByteArray.size_append, twoV_size]; omega), bt_append, if_pos (by omega)]
    simp only [Nat.mul_zero, Nat.zero_add] at this
    omega
  omega

theorem v4_round (p : P4) (h : v4Ok p = true) (z : ByteArray) (hz : z.size ≤ 100) : v4CodeV (v4Raw p ++ z) = 0 ∧ v4Cut (v4Raw p ++ z) = p := by
  have hA : v4A p = true := by unfold v4Ok at h; simp only [Bool.and_eq_true] at h; exact h.1.1
  have hB : v4B p = true := by unfold v4Ok at h; simp only [Bool.and_eq_true] at h; exact h.1.2
  obtain ⟨a1, a2, a3, a4, a5, a6, a7⟩ := v4A_parts hA
  obtain ⟨b1, b2, b3, -, b5⟩ := v4B_parts hB
  obtain ⟨hz10, e0, e1, e2, e4, e6, e8, e9⟩ := headA_bt p h
  have hl : hlen p = 20 + p.opts.size := rfl
  obtain ⟨A, hAd⟩ : ∃ A, A = headA p := ⟨_, rfl⟩
  obtain ⟨C, hC⟩ : ∃ C, C = twoV (65535 - sumV (headA p ++ headB p)) := ⟨_, rfl⟩
  have hCz : C.size = 2 := by rw [hC]; rfl
  have hT : v4Raw p ++ z = A ++ C ++ p.src ++ p.dst ++ p.opts ++ p.data ++ z := by
    rw [hAd, hC]; unfold v4Raw headB; simp only [ByteArray.append_assoc]
  rw [← hAd] at hz10 e0 e1 e2 e4 e6 e8 e9
  have hsz : (v4Raw p ++ z).size = 20 + p.opts.size + p.data.size + z.size := by rw [hT]; simp only [ByteArray.size_append]; omega
  have hb : ∀ i, i < 10 → bt (v4Raw p ++ z) i = bt A i := fun i hi => by
    rw [hT]; simp only [ByteArray.append_assoc]; rw [bt_append, if_pos (by omega)]
  have hw : ∀ i, i + 1 < 10 → wordN (bt (v4Raw p ++ z)) i = wordN (bt A) i := fun i hi => by unfold wordN; rw [hb i (by omega), hb (i + 1) hi]
  have ho : offV p = p.off + (if p.whole then 16384 else 0) + (if p.more then 8192 else 0) := rfl
  have hm : (64 + hlen p / 4) % 16 = hlen p / 4 := by omega
  have hx0 : bt (v4Raw p ++ z) 0 = 64 + hlen p / 4 := (hb 0 (by omega)).trans e0
  have hh : 4 * ((64 + hlen p / 4) % 16).toNat = 20 + p.opts.size := by omega
  have hw2 := (hw 2 (by omega)).trans e2
  have hcut : v4Cut (v4Raw p ++ z) = p := by
    have x1 : (v4Raw p ++ z).extract 12 16 = p.src := ext_at (X := A ++ C) (Z := p.dst ++ p.opts ++ p.data ++ z) (by rw [hT]; simp only [ByteArray.append_assoc]) (by simp only [ByteArray.size_append]; omega) (by simp only [ByteArray.size_append]; omega)
    have x2 : (v4Raw p ++ z).extract 16 20 = p.dst := ext_at (X := A ++ C ++ p.src) (Z := p.opts ++ p.data ++ z) (by rw [hT]; simp only [ByteArray.append_assoc]) (by simp only [ByteArray.size_append]; omega) (by simp only [ByteArray.size_append]; omega)
    have x3 : (v4Raw p ++ z).extract 20 (20 + p.opts.size) = p.opts := ext_at (X := A ++ C ++ p.src ++ p.dst) (Z := p.data ++ z) (by rw [hT]; simp only [ByteArray.append_assoc]) (by simp only [ByteArray.size_append]; omega) (by simp only [ByteArray.size_append]; omega)
    have x4 : (v4Raw p ++ z).extract (20 + p.opts.size) (20 + p.opts.size + p.data.size) = p.data := ext_at (X := A ++ C ++ p.src ++ p.dst ++ p.opts) (Z := z) (by rw [hT]) (by simp only [ByteArray.size_append]; omega) (by simp only [ByteArray.size_append]; omega)
    unfold v4Cut
    simp only []
    rw [hx0, hh, hw2, show (hlen p + (p.data.size : Int)).toNat = 20 + p.opts.size + p.data.size by omega, x1, x2, x3, x4, hb 1 (by omega), e1, hw 4 (by omega), e4, hw 6 (by omega), e6, hb 8 (by omega), e8, hb 9 (by omega), e9]
    have y1 : decide (offV p / 16384 % 2 = 1) = p.whole := by rw [ho]; cases p.whole <;> cases p.more <;> simp <;> omega
    have y2 : decide (offV p / 8192 % 2 = 1) = p.more := by rw [ho]; cases p.whole <;> cases p.more <;> simp <;> omega
    have y3 : offV p % 8192 = p.off := by rw [ho]; cases p.whole <;> cases p.more <;> simp <;> omega
    rw [y1, y2, y3]
  refine ⟨?_, hcut⟩
  have hsum : sumV ((v4Raw p ++ z).extract 0 (20 + p.opts.size)) = 65535 := by
    have : (v4Raw p ++ z).extract 0 (20 + p.opts.size) = headA p ++ twoV (65535 - sumV (headA p ++ headB p)) ++ headB p := ext_at (X := ByteArray.mk #[]) (Z := p.data ++ z) (by
      unfold v4Raw; simp only [ByteArray.append_assoc]; exact (ByteArray.empty_append).symm) rfl (by
      have h1 : (ByteArray.mk #[]).size = 0 := rfl
      rw [h1]; unfold headB; simp only [ByteArray.size_append, twoV_size]; rw [hAd] at hz10; omega)
    rw [this]
    exact sum_full _ _ (by rw [← hAd]; exact hz10) (by rw [← hAd, e0]; omega)
  have h6 : wordN (bt (v4Raw p ++ z)) 6 = offV p := (hw 6 (by omega)).trans e6
  unfold v4CodeV
  rw [if_neg (by omega), if_neg (by omega), hx0, hm, hw2, h6, if_neg (by
    have : offV p ≤ 32767 := by rw [ho]; cases p.whole <;> cases p.more <;> simp <;> omega
    omega), if_neg (by omega), show 4 * (hlen p / 4).toNat = 20 + p.opts.size by omega, if_neg (by rw [hsum]; decide), hcut, if_pos h]

end Go.Proofs.Ytofhcplnnamcdaa

/- PktMath2: packets of IPv6 come back from their bytes; a byte of a header of IPv4 turned makes another packet. Nothing of the program. -/
namespace Go.Proofs.Ytofhcplnnamcdaa
open Go.RowKit Go.PlainAid
set_option linter.unusedVariables false
set_option linter.unusedSimpArgs false

theorem head6_bt (f n x y : Int) (hf : 0 ≤ f ∧ f ≤ 4294967295) (hn : 0 ≤ n ∧ n ≤ 65535) (hx : 0 ≤ x ∧ x ≤ 255) (hy : 0 ≤ y ∧ y ≤ 255) (H : ByteArray) (hH : H = twoV (f / 65536) ++ twoV (f % 65536) ++ twoV n ++ pairV x y) :
    H.size = 8 ∧ bt H 0 = f / 16777216 ∧ wordN (bt H) 0 = f / 65536 ∧ wordN (bt H) 2 = f % 65536 ∧ wordN (bt H) 4 = n ∧ bt H 6 = x ∧ bt H 7 = y := by
  have q1 := bt_two (f / 65536) (by omega) (by omega)
  have q2 := bt_two (f % 65536) (by omega) (by omega)
  have q3 := bt_two n hn.1 hn.2
  have q4 := pairV_bt x y hx hy
  subst hH
  unfold wordN
  refine ⟨by simp only [ByteArray.size_append, pairV_size, twoV_size], ?_, ?_, ?_, ?_, ?_, ?_⟩ <;> simp [bt_append, ByteArray.size_append, pairV_size, twoV_size, q1, q2, q3, q4] <;> omega
theorem piece_bt (x o d : Int) (hx : 0 ≤ x ∧ x ≤ 255) (ho : 0 ≤ o ∧ o ≤ 65535) (hd : 0 ≤ d ∧ d ≤ 4294967295) (H : ByteArray) (hH : H = pairV x 0 ++ twoV o ++ twoV (d / 65536) ++ twoV (d % 65536)) :
    H.size = 8 ∧ bt H 0 = x ∧ wordN (bt H) 2 = o ∧ bt H 3 = o % 256 ∧ wordN (bt H) 4 = d / 65536 ∧ wordN (bt H) 6 = d % 65536 := by
  have q1 := bt_two (d / 65536) (by omega) (by omega)
  have q2 := bt_two (d % 65536) (by omega) (by omega)
  have q3 := bt_two o ho.1 ho.2
  have q4 := pairV_bt x 0 hx (by decide)
  subst hH
  unfold wordN
  refine ⟨by simp only [ByteArray.size_append, pairV_size, twoV_size], ?_, ?_, ?_, ?_, ?_⟩ <;> simp [bt_append, ByteArray.size_append, pairV_size, twoV_size, q1, q2, q3, q4] <;> omega

theorem v6_round (p : P6) (h : v6Ok p = true) (z : ByteArray) (hz : z.size ≤ 100) : v6CodeV (v6Raw p ++ z) = 0 ∧ v6Cut (v6Raw p ++ z) = p := by
  obtain ⟨a1, a2, a3, a4, a5, a6, a7, a8⟩ := v6Ok_parts h
  have hf : firstN p = 6 * 268435456 + p.cls * 1048576 + p.flow := rfl
  have h44 : p.next ≠ 44 := by
    unfold v6Ok v6A at h
    simp only [Bool.and_eq_true, Bool.not_eq_true', decide_eq_false_iff_not] at h
    exact h.1.2
  have hnp : p.piece = false → p.more = false ∧ p.off = 0 ∧ p.id = 0 := fun hp => by
    unfold v6Ok v6B at h
    rw [hp] at h
    simp only [Bool.and_eq_true, Bool.false_eq_true, if_false, Bool.not_eq_true', decide_eq_true_iff] at h
    exact ⟨h.2.1.1, h.2.1.2, h.2.2⟩
  have hrz : (restV p).size = (if p.piece then 8 else 0) + p.data.size := by
    unfold restV; cases p.piece <;> simp only [Bool.false_eq_true, if_false, if_true, ByteArray.size_append, pairV_size, twoV_size] <;> omega
  have hr : (restV p).size ≤ 1408 := by rw [hrz]; split <;> omega
  obtain ⟨nx, hnx⟩ : ∃ nx, nx = if p.piece then (44 : Int) else p.next := ⟨_, rfl⟩
  have hxr : 0 ≤ nx ∧ nx ≤ 255 := by rw [hnx]; split <;> omega
  obtain ⟨H, hH⟩ : ∃ H, H = twoV (firstN p / 65536) ++ twoV (firstN p % 65536) ++ twoV (restV p).size ++ pairV nx p.hops := ⟨_, rfl⟩
  obtain ⟨H8, e0, w0, w2, w4, e6, e7⟩ := head6_bt (firstN p) (restV p).size nx p.hops (by omega) (by omega) hxr a3 H hH
  have hT : v6Raw p ++ z = H ++ p.src ++ p.dst ++ restV p ++ z := by rw [hH, hnx]; rfl
  have hsz : (v6Raw p ++ z).size = 40 + (restV p).size + z.size := by rw [hT]; simp only [ByteArray.size_append]; omega
  have hb : ∀ i, i < 8 → bt (v6Raw p ++ z) i = bt H i := fun i hi => by rw [hT]; simp only [ByteArray.append_assoc]; rw [bt_append, if_pos (by omega)]
  have hw : ∀ i, i + 1 < 8 → wordN (bt (v6Raw p ++ z)) i = wordN (bt H) i := fun i hi => by unfold wordN; rw [hb i (by omega), hb (i + 1) hi]
  have hbr : ∀ i, i < (restV p).size → bt (v6Raw p ++ z) (40 + i) = bt (restV p) i := fun i hi => by
    rw [hT, bt_append, if_pos (by simp only [ByteArray.size_append]; omega), bt_append, if_neg (by simp only [ByteArray.size_append]; omega)]
    congr 1; simp only [ByteArray.size_append]; omega
  have x1 : (v6Raw p ++ z).extract 8 24 = p.src := ext_at (X := H) (Z := p.dst ++ restV p ++ z) (by rw [hT]; simp only [ByteArray.append_assoc]) (by omega) (by omega)
  have x2 : (v6Raw p ++ z).extract 24 40 = p.dst := ext_at (X := H ++ p.src) (Z := restV p ++ z) (by rw [hT]; simp only [ByteArray.append_assoc]) (by simp only [ByteArray.size_append]; omega) (by simp only [ByteArray.size_append]; omega)
  have hW0 := (hw 0 (by omega)).trans w0
  have hW2 := (hw 2 (by omega)).trans w2
  have hW4 := (hw 4 (by omega)).trans w4
  have hE6 := (hb 6 (by omega)).trans e6
  have hE7 := (hb 7 (by omega)).trans e7
  have hfs : firstN p / 65536 * 65536 + firstN p % 65536 = firstN p := by omega
  have hcut : v6Cut (v6Raw p ++ z) = p := by
    unfold v6Cut
    simp only []
    rw [hE6, hE7, hW0, hW2, hW4, hfs, x1, x2, show ((restV p).size : Int).toNat = (restV p).size by omega]
    have y1 : firstN p / 1048576 % 256 = p.cls := by omega
    have y2 : firstN p % 1048576 = p.flow := by omega
    rw [y1, y2]
    cases hp : p.piece with
    | true =>
      have hnx' : nx = 44 := by rw [hnx, hp]; rfl
      rw [hnx', if_pos rfl]
      obtain ⟨p1, p2, p3⟩ := a8 hp
      obtain ⟨K, hK⟩ : ∃ K, K = pairV p.next 0 ++ twoV (8 * p.off + if p.more then 1 else 0) ++ twoV (p.id / 65536) ++ twoV (p.id % 65536) := ⟨_, rfl⟩
      have ho : 0 ≤ 8 * p.off + (if p.more then (1 : Int) else 0) ∧ 8 * p.off + (if p.more then (1 : Int) else 0) ≤ 65535 := by split <;> omega
      obtain ⟨K8, k0, k2, k3, k4, k6⟩ := piece_bt p.next _ p.id a2 ho p2 K hK
      have hR : restV p = K ++ p.data := by unfold restV; rw [hp, hK]; rfl
      have hrk : ∀ i, i < 8 → bt (v6Raw p ++ z) (40 + i) = bt K i := fun i hi => by
        rw [hbr i (by rw [hR, ByteArray.size_append]; omega), hR, bt_append, if_pos (by omega)]
      have hrw : ∀ i, i + 1 < 8 → wordN (bt (v6Raw p ++ z)) (40 + i) = wordN (bt K) i := fun i hi => by
        show bt _ (40 + i) * 256 + bt _ (40 + (i + 1)) = _
        rw [hrk i (by omega), hrk (i + 1) hi]; rfl
      have x3 : (v6Raw p ++ z).extract 48 (40 + (restV p).size) = p.data := ext_at (X := H ++ p.src ++ p.dst ++ K) (Z := z) (by rw [hT, hR]; simp only [ByteArray.append_assoc]) (by simp only [ByteArray.size_append]; omega) (by rw [hR]; simp only [ByteArray.size_append]; omega)
      have z0 := (hrk 0 (by omega)).trans k0
      have z3 := (hrk 3 (by omega)).trans k3
      have z2 := (hrw 2 (by omega)).trans k2
      have z4 := (hrw 4 (by omega)).trans k4
      have z6 := (hrw 6 (by omega)).trans k6
      simp only [Nat.reduceAdd, Nat.add_zero] at z0 z3 z2 z4 z6
      rw [z0, z3, z2, z4, z6, x3]
      have m1 : decide ((8 * p.off + (if p.more then (1 : Int) else 0)) % 256 % 2 = 1) = p.more := by cases p.more <;> simp <;> omega
      have m2 : (8 * p.off + (if p.more then (1 : Int) else 0)) / 8 = p.off := by split <;> omega
      have m3 : p.id / 65536 * 65536 + p.id % 65536 = p.id := by omega
      rw [m1, m2, m3, ← hp]
    | false =>
      have hnx' : nx = p.next := by rw [hnx, hp]; rfl
      rw [hnx', if_neg h44]
      obtain ⟨n1, n2, n3⟩ := hnp hp
      have hR : restV p = p.data := by unfold restV; rw [hp]; rfl
      have x3 : (v6Raw p ++ z).extract 40 (40 + (restV p).size) = p.data := ext_at (X := H ++ p.src ++ p.dst) (Z := z) (by rw [hT, hR]) (by simp only [ByteArray.size_append]; omega) (by rw [hR]; simp only [ByteArray.size_append]; omega)
      rw [x3]
      show _ = (⟨p.cls, p.flow, p.next, p.hops, p.src, p.dst, p.piece, p.more, p.off, p.id, p.data⟩ : P6)
      rw [hp, n1, n2, n3]
  refine ⟨?_, hcut⟩
  unfold v6CodeV
  rw [if_neg (by omega), if_neg (by omega), (hb 0 (by omega)).trans e0, if_neg (by omega), hW4, hE6, if_neg (by
    rintro (hh | ⟨hh1, hh2⟩)
    · omega
    · have : p.piece = true := by
        cases hp : p.piece with
        | true => rfl
        | false => rw [hnx, hp] at hh1; exact absurd hh1 h44
      rw [hrz, this] at hh2
      simp only [if_true] at hh2
      omega), hcut, if_pos h]

/-- One byte of a header of IPv4 turned: what is read is not the packet, or nothing. -/
theorem v4_turned (p : P4) (h : v4Ok p = true) (t : ByteArray) (k : Nat) (hk : k < 20) (hs : t.size = (v4Raw p).size) (hsame : ∀ i, i ≠ k → bt t i = bt (v4Raw p) i) (hne : bt t k ≠ bt (v4Raw p) k) (hc : v4CodeV t = 0) : v4Cut t ≠ p := by
  intro hcut
  obtain ⟨hc0, hcut0⟩ := v4_round p h (ByteArray.mk #[]) (by decide)
  have hE : v4Raw p ++ ByteArray.mk #[] = v4Raw p := ByteArray.append_empty
  rw [hE] at hc0 hcut0
  have hA : v4A p = true := by unfold v4Ok at h; simp only [Bool.and_eq_true] at h; exact h.1.1
  have hB : v4B p = true := by unfold v4Ok at h; simp only [Bool.and_eq_true] at h; exact h.1.2
  obtain ⟨a1, a2, a3, a4, a5, a6, a7⟩ := v4A_parts hA
  obtain ⟨b1, b2, b3, -, b5⟩ := v4B_parts hB
  -- what the codes say
  have hparts : ∀ u : ByteArray, v4CodeV u = 0 → ¬ u.size < 20 ∧ bt u 0 / 16 = 4 ∧ 20 ≤ 4 * (bt u 0 % 16) ∧ 4 * (bt u 0 % 16) ≤ wordN (bt u) 2 ∧ wordN (bt u) 6 < 32768 ∧ wordN (bt u) 2 ≤ u.size ∧ sumV (u.extract 0 (4 * (bt u 0 % 16).toNat)) = 65535 := fun u hu => by
    unfold v4CodeV at hu
    by_cases g1 : 20000 < u.size
    · rw [if_pos g1] at hu; cases hu
    rw [if_neg g1] at hu
    by_cases g2 : u.size < 20
    · rw [if_pos g2] at hu; cases hu
    rw [if_neg g2] at hu
    by_cases g3 : bt u 0 / 16 ≠ 4 ∨ 4 * (bt u 0 % 16) < 20 ∨ wordN (bt u) 2 < 4 * (bt u 0 % 16) ∨ 32768 ≤ wordN (bt u) 6
    · rw [if_pos g3] at hu; cases hu
    rw [if_neg g3] at hu
    by_cases g4 : (u.size : Int) < wordN (bt u) 2
    · rw [if_pos g4] at hu; cases hu
    rw [if_neg g4] at hu
    by_cases g5 : sumV (u.extract 0 (4 * (bt u 0 % 16).toNat)) ≠ 65535
    · rw [if_pos g5] at hu; cases hu
    exact ⟨g2, by omega, by omega, by omega, by omega, by omega, by omega⟩
  obtain ⟨t1, t2, t3, t4, t5, t6, t7⟩ := hparts t hc
  obtain ⟨r1, r2, r3, r4, r5, r6, r7⟩ := hparts _ hc0
  generalize v4Raw p = r at *
  clear hE hc hc0
  have e : v4Cut t = v4Cut r := hcut.trans hcut0.symm
  have hbt := bt_isByte t
  have hbr := bt_isByte r
  unfold v4Cut at e
  simp only [P4.mk.injEq] at e
  obtain ⟨e1, e4, ew, em, eo, e8, e9, es, ed, eop, eda⟩ := e
  have q0 := hbt 0
  have q0' := hbr 0
  -- the header's length
  have hh : bt t 0 = bt r 0 := by
    by_cases hk0 : k = 0
    · have z := congrArg ByteArray.size eop
      simp only [ByteArray.size_extract] at z
      omega
    · exact hsame 0 (fun e => hk0 e.symm)
  have wv : ∀ u : ByteArray, wordN (bt u) 6 < 32768 → 0 ≤ wordN (bt u) 6 → wordN (bt u) 6 = wordN (bt u) 6 % 8192 + (if decide (wordN (bt u) 6 / 16384 % 2 = 1) then 16384 else 0) + (if decide (wordN (bt u) 6 / 8192 % 2 = 1) then 8192 else 0) := fun u h1 h2 => by
    by_cases c1 : wordN (bt u) 6 / 16384 % 2 = 1 <;> by_cases c2 : wordN (bt u) 6 / 8192 % 2 = 1 <;> simp [c1, c2] <;> omega
  have w6 : wordN (bt t) 6 = wordN (bt r) 6 := by
    rw [wv t t5 (wordN_range hbt 6).1, wv r r5 (wordN_range hbr 6).1, eo, ew, em]
  have w2 : wordN (bt t) 2 = wordN (bt r) 2 := by
    have z := congrArg ByteArray.size eda
    rw [hh] at z
    simp only [ByteArray.size_extract] at z
    omega
  have word : ∀ j, wordN (bt t) j = wordN (bt r) j → k ≠ j ∧ k ≠ j + 1 := fun j hj => by
    unfold wordN at hj
    constructor
    · intro hkj; subst hkj
      rw [hsame (k + 1) (by omega)] at hj
      omega
    · intro hkj
      rw [hsame j (by omega)] at hj
      rw [← hkj] at hj
      omega
  have hk0 : k ≠ 0 := fun hk0 => by subst hk0; exact hne hh
  have hk1 : k ≠ 1 := fun hk1 => by subst hk1; exact hne e1
  have hk8 : k ≠ 8 := fun hk8 => by subst hk8; exact hne e8
  have hk9 : k ≠ 9 := fun hk9 => by subst hk9; exact hne e9
  have k2 := word 2 w2
  have k4 := word 4 e4
  have k6 := word 6 w6
  have hext : ∀ a b, t.extract a b = r.extract a b → b ≤ t.size → a ≤ k → k < b → False := fun a b hab hb1 h1 h2 => by
    have hx : bt (t.extract a b) (k - a) = bt (r.extract a b) (k - a) := by rw [hab]
    rw [bt_extract t a b _ hb1, bt_extract r a b _ (by omega), if_pos (by omega), if_pos (by omega), show a + (k - a) = k by omega] at hx
    exact hne hx
  have hk12 : ¬ (12 ≤ k ∧ k < 16) := fun hh => hext 12 16 es (by omega) hh.1 hh.2
  have hk16 : ¬ (16 ≤ k ∧ k < 20) := fun hh => hext 16 20 ed (by omega) hh.1 hh.2
  -- the check
  have hk10 : k = 10 ∨ k = 11 := by omega
  rw [hh] at t7
  obtain ⟨n, hn⟩ : ∃ n : Nat, n = 4 * (bt r 0 % 16).toNat := ⟨_, rfl⟩
  rw [← hn] at t7 r7
  have hn20 : 20 ≤ n := by omega
  have hnt : n ≤ t.size := by omega
  have hnr : n ≤ r.size := by omega
  have zt : (t.extract 0 n).size = n := by rw [ByteArray.size_extract]; omega
  have zr : (r.extract 0 n).size = n := by rw [ByteArray.size_extract]; omega
  have bx : ∀ (u : ByteArray) i, n ≤ u.size → i < n → bt (u.extract 0 n) i = bt u i := fun u i hu hi => by
    rw [bt_extract u 0 n i hu, if_pos (by omega), Nat.zero_add]
  have bo : ∀ (u : ByteArray) i, n ≤ u.size → n ≤ i → bt (u.extract 0 n) i = 0 := fun u i hu hi => by
    rw [bt_extract u 0 n i hu, if_neg (by omega)]
  have hdiff : ∀ i, (i < 2 * 5 ∨ 2 * 5 + 2 ≤ i) → bt (r.extract 0 n) i = bt (t.extract 0 n) i := fun i hi => by
    by_cases hin : i < n
    · rw [bx r i hnr hin, bx t i hnt hin]; exact (hsame i (by omega)).symm
    · rw [bo r i hnr (by omega), bo t i hnt (by omega)]
  obtain ⟨z, hz⟩ := sumN_turn hdiff ((n + 1) / 2) (by omega)
  have st : sumN (bt (t.extract 0 n)) ((n + 1) / 2) = 65535 := by have := t7; unfold sumV at this; rw [zt] at this; exact this
  have sr : sumN (bt (r.extract 0 n)) ((n + 1) / 2) = 65535 := by have := r7; unfold sumV at this; rw [zr] at this; exact this
  rw [st, sr] at hz
  unfold wordN at hz
  rw [bx r _ hnr (by omega), bx r _ hnr (by omega), bx t _ hnt (by omega), bx t _ hnt (by omega)] at hz
  simp only [Nat.reduceMul, Nat.reduceAdd] at hz
  have c10 := hbt 10
  have c10' := hbr 10
  have c11 := hbt 11
  have c11' := hbr 11
  rcases hk10 with hk' | hk'
  · have s11 := hsame 11 (by omega)
    rw [hk'] at hne
    omega
  · have s10 := hsame 10 (by omega)
    rw [hk'] at hne
    omega

theorem v4Raw_size (p : P4) : 12 ≤ (v4Raw p).size := by unfold v4Raw headA; simp only [ByteArray.size_append, pairV_size, twoV_size]; omega
theorem v4_empty (p : P4) : (v4BytesV p = ⟨#[]⟩) ↔ v4Ok p = false := by
  unfold v4BytesV
  cases h : v4Ok p with
  | false => simp
  | true =>
    simp only [if_true, Bool.true_eq_false, iff_false]
    intro e
    have := v4Raw_size p
    rw [e] at this
    exact absurd this (by decide)
theorem v6Raw_size (p : P6) : 8 ≤ (v6Raw p).size := by unfold v6Raw; simp only [ByteArray.size_append, pairV_size, twoV_size]; omega
theorem v6_empty (p : P6) : (v6BytesV p = ⟨#[]⟩) ↔ v6Ok p = false := by
  unfold v6BytesV
  cases h : v6Ok p with
  | false => simp
  | true =>
    simp only [if_true, Bool.true_eq_false, iff_false]
    intro e
    have := v6Raw_size p
    rw [e] at this
    exact absurd this (by decide)

end Go.Proofs.Ytofhcplnnamcdaa

/- PktSame: packets compared as wholes. Printed by mksame.py. -/
namespace Go.Proofs.Ytofhcplnnamcdaa
open Go.RowKit
set_option linter.unusedVariables false
set_option linter.unusedSimpArgs false

theorem tl_eq (a b : ByteArray) : (a.toList == b.toList) = decide (a = b) := by
  by_cases h : a = b
  · subst h; simp
  · rw [decide_eq_false h]
    have : a.toList ≠ b.toList := fun e => h (by
      rw [ByteArray.toList_eq, ByteArray.toList_eq] at e
      apply ByteArray.ext
      exact Array.toList_inj.1 e)
    simpa using this

def sameV4 (q p : P4) : Bool := (q.tos == p.tos) && ((q.id == p.id) && ((q.whole == p.whole) && ((q.more == p.more) && ((q.off == p.off) && ((q.ttl == p.ttl) && ((q.proto == p.proto) && ((q.src.toList == p.src.toList) && ((q.dst.toList == p.dst.toList) && ((q.opts.toList == p.opts.toList) && ((q.data.toList == p.data.toList)))))))))))
theorem sameV4_iff (q p : P4) : sameV4 q p = true ↔ q = p := by
  unfold sameV4
  simp only [tl_eq, Bool.and_eq_true, beq_iff_eq, decide_eq_true_iff]
  constructor
  · intro h
    obtain ⟨h0, h1, h2, h3, h4, h5, h6, h7, h8, h9, h10⟩ := h
    cases q; cases p; simp_all
  · rintro rfl; simp
set_option maxRecDepth 10000 in
set_option maxHeartbeats 1000000 in
theorem eqV4_run (D : Nat) (q p : P4) (W : World) : (Op.equalIn (D + 2) 56 (.agg #[.int .i64 q.tos, .int .i64 q.id, .bool q.whole, .bool q.more, .int .i64 q.off, .int .i64 q.ttl, .int .i64 q.proto, .string q.src, .string q.dst, .string q.opts, .string q.data]) (.agg #[.int .i64 p.tos, .int .i64 p.id, .bool p.whole, .bool p.more, .int .i64 p.off, .int .i64 p.ttl, .int .i64 p.proto, .string p.src, .string p.dst, .string p.opts, .string p.data])).run Try.prog W = .ok (sameV4 q p) W := by
  have h1 : Try.prog.underlying 56 = some (.struct (Try.prog.fieldsOf 56)) := by kernel_rfl
  have h2 : Try.prog.stoodInHeld 56 = false := by kernel_rfl
  rw [run_equalIn_agg _ _ _ _ _ h1 h2]
  have h3 : (Try.prog.fieldsOf 56).toList.length = 11 := by kernel_rfl
  have h4 : ((Try.prog.fieldsOf 56).toList.map fun f => (f.type, f.offset, f.name == "_")) = [(2, 0, false), (2, 1, false), (4, 2, false), (4, 3, false), (2, 4, false), (2, 5, false), (2, 6, false), (9, 7, false), (9, 8, false), (9, 9, false), (9, 10, false)] := by kernel_rfl
  generalize (Try.prog.fieldsOf 56).toList = fs at *
  match fs, h3 with
  | [f0, f1, f2, f3, f4, f5, f6, f7, f8, f9, f10], _ =>
    simp only [List.map_cons, List.map_nil, List.cons.injEq, Prod.mk.injEq, and_true] at h4
    obtain ⟨⟨a0, b0, c0⟩, ⟨a1, b1, c1⟩, ⟨a2, b2, c2⟩, ⟨a3, b3, c3⟩, ⟨a4, b4, c4⟩, ⟨a5, b5, c5⟩, ⟨a6, b6, c6⟩, ⟨a7, b7, c7⟩, ⟨a8, b8, c8⟩, ⟨a9, b9, c9⟩, ⟨a10, b10, c10⟩⟩ := h4
    have d0 : (f0.name ≠ "_") = True := by simpa using c0
    have q0 : ∀ W, (part 2 #[.int .i64 q.tos, .int .i64 q.id, .bool q.whole, .bool q.more, .int .i64 q.off, .int .i64 q.ttl, .int .i64 q.proto, .string q.src, .string q.dst, .string q.opts, .string q.data] 0).run Try.prog W = .ok (.int .i64 q.tos) W := fun W => by kernel_rfl
    have p0 : ∀ W, (part 2 #[.int .i64 p.tos, .int .i64 p.id, .bool p.whole, .bool p.more, .int .i64 p.off, .int .i64 p.ttl, .int .i64 p.proto, .string p.src, .string p.dst, .string p.opts, .string p.data] 0).run Try.prog W = .ok (.int .i64 p.tos) W := fun W => by kernel_rfl
    have d1 : (f1.name ≠ "_") = True := by simpa using c1
    have q1 : ∀ W, (part 2 #[.int .i64 q.tos, .int .i64 q.id, .bool q.whole, .bool q.more, .int .i64 q.off, .int .i64 q.ttl, .int .i64 q.proto, .string q.src, .string q.dst, .string q.opts, .string q.data] 1).run Try.prog W = .ok (.int .i64 q.id) W := fun W => by kernel_rfl
    have p1 : ∀ W, (part 2 #[.int .i64 p.tos, .int .i64 p.id, .bool p.whole, .bool p.more, .int .i64 p.off, .int .i64 p.ttl, .int .i64 p.proto, .string p.src, .string p.dst, .string p.opts, .string p.data] 1).run Try.prog W = .ok (.int .i64 p.id) W := fun W => by kernel_rfl
    have d2 : (f2.name ≠ "_") = True := by simpa using c2
    have q2 : ∀ W, (part 4 #[.int .i64 q.tos, .int .i64 q.id, .bool q.whole, .bool q.more, .int .i64 q.off, .int .i64 q.ttl, .int .i64 q.proto, .string q.src, .string q.dst, .string q.opts, .string q.data] 2).run Try.prog W = .ok (.bool q.whole) W := fun W => by kernel_rfl
    have p2 : ∀ W, (part 4 #[.int .i64 p.tos, .int .i64 p.id, .bool p.whole, .bool p.more, .int .i64 p.off, .int .i64 p.ttl, .int .i64 p.proto, .string p.src, .string p.dst, .string p.opts, .string p.data] 2).run Try.prog W = .ok (.bool p.whole) W := fun W => by kernel_rfl
    have d3 : (f3.name ≠ "_") = True := by simpa using c3
    have q3 : ∀ W, (part 4 #[.int .i64 q.tos, .int .i64 q.id, .bool q.whole, .bool q.more, .int .i64 q.off, .int .i64 q.ttl, .int .i64 q.proto, .string q.src, .string q.dst, .string q.opts, .string q.data] 3).run Try.prog W = .ok (.bool q.more) W := fun W => by kernel_rfl
    have p3 : ∀ W, (part 4 #[.int .i64 p.tos, .int .i64 p.id, .bool p.whole, .bool p.more, .int .i64 p.off, .int .i64 p.ttl, .int .i64 p.proto, .string p.src, .string p.dst, .string p.opts, .string p.data] 3).run Try.prog W = .ok (.bool p.more) W := fun W => by kernel_rfl
    have d4 : (f4.name ≠ "_") = True := by simpa using c4
    have q4 : ∀ W, (part 2 #[.int .i64 q.tos, .int .i64 q.id, .bool q.whole, .bool q.more, .int .i64 q.off, .int .i64 q.ttl, .int .i64 q.proto, .string q.src, .string q.dst, .string q.opts, .string q.data] 4).run Try.prog W = .ok (.int .i64 q.off) W := fun W => by kernel_rfl
    have p4 : ∀ W, (part 2 #[.int .i64 p.tos, .int .i64 p.id, .bool p.whole, .bool p.more, .int .i64 p.off, .int .i64 p.ttl, .int .i64 p.proto, .string p.src, .string p.dst, .string p.opts, .string p.data] 4).run Try.prog W = .ok (.int .i64 p.off) W := fun W => by kernel_rfl
    have d5 : (f5.name ≠ "_") = True := by simpa using c5
    have q5 : ∀ W, (part 2 #[.int .i64 q.tos, .int .i64 q.id, .bool q.whole, .bool q.more, .int .i64 q.off, .int .i64 q.ttl, .int .i64 q.proto, .string q.src, .string q.dst, .string q.opts, .string q.data] 5).run Try.prog W = .ok (.int .i64 q.ttl) W := fun W => by kernel_rfl
    have p5 : ∀ W, (part 2 #[.int .i64 p.tos, .int .i64 p.id, .bool p.whole, .bool p.more, .int .i64 p.off, .int .i64 p.ttl, .int .i64 p.proto, .string p.src, .string p.dst, .string p.opts, .string p.data] 5).run Try.prog W = .ok (.int .i64 p.ttl) W := fun W => by kernel_rfl
    have d6 : (f6.name ≠ "_") = True := by simpa using c6
    have q6 : ∀ W, (part 2 #[.int .i64 q.tos, .int .i64 q.id, .bool q.whole, .bool q.more, .int .i64 q.off, .int .i64 q.ttl, .int .i64 q.proto, .string q.src, .string q.dst, .string q.opts, .string q.data] 6).run Try.prog W = .ok (.int .i64 q.proto) W := fun W => by kernel_rfl
    have p6 : ∀ W, (part 2 #[.int .i64 p.tos, .int .i64 p.id, .bool p.whole, .bool p.more, .int .i64 p.off, .int .i64 p.ttl, .int .i64 p.proto, .string p.src, .string p.dst, .string p.opts, .string p.data] 6).run Try.prog W = .ok (.int .i64 p.proto) W := fun W => by kernel_rfl
    have d7 : (f7.name ≠ "_") = True := by simpa using c7
    have q7 : ∀ W, (part 9 #[.int .i64 q.tos, .int .i64 q.id, .bool q.whole, .bool q.more, .int .i64 q.off, .int .i64 q.ttl, .int .i64 q.proto, .string q.src, .string q.dst, .string q.opts, .string q.data] 7).run Try.prog W = .ok (.string q.src) W := fun W => by kernel_rfl
    have p7 : ∀ W, (part 9 #[.int .i64 p.tos, .int .i64 p.id, .bool p.whole, .bool p.more, .int .i64 p.off, .int .i64 p.ttl, .int .i64 p.proto, .string p.src, .string p.dst, .string p.opts, .string p.data] 7).run Try.prog W = .ok (.string p.src) W := fun W => by kernel_rfl
    have d8 : (f8.name ≠ "_") = True := by simpa using c8
    have q8 : ∀ W, (part 9 #[.int .i64 q.tos, .int .i64 q.id, .bool q.whole, .bool q.more, .int .i64 q.off, .int .i64 q.ttl, .int .i64 q.proto, .string q.src, .string q.dst, .string q.opts, .string q.data] 8).run Try.prog W = .ok (.string q.dst) W := fun W => by kernel_rfl
    have p8 : ∀ W, (part 9 #[.int .i64 p.tos, .int .i64 p.id, .bool p.whole, .bool p.more, .int .i64 p.off, .int .i64 p.ttl, .int .i64 p.proto, .string p.src, .string p.dst, .string p.opts, .string p.data] 8).run Try.prog W = .ok (.string p.dst) W := fun W => by kernel_rfl
    have d9 : (f9.name ≠ "_") = True := by simpa using c9
    have q9 : ∀ W, (part 9 #[.int .i64 q.tos, .int .i64 q.id, .bool q.whole, .bool q.more, .int .i64 q.off, .int .i64 q.ttl, .int .i64 q.proto, .string q.src, .string q.dst, .string q.opts, .string q.data] 9).run Try.prog W = .ok (.string q.opts) W := fun W => by kernel_rfl
    have p9 : ∀ W, (part 9 #[.int .i64 p.tos, .int .i64 p.id, .bool p.whole, .bool p.more, .int .i64 p.off, .int .i64 p.ttl, .int .i64 p.proto, .string p.src, .string p.dst, .string p.opts, .string p.data] 9).run Try.prog W = .ok (.string p.opts) W := fun W => by kernel_rfl
    have d10 : (f10.name ≠ "_") = True := by simpa using c10
    have q10 : ∀ W, (part 9 #[.int .i64 q.tos, .int .i64 q.id, .bool q.whole, .bool q.more, .int .i64 q.off, .int .i64 q.ttl, .int .i64 q.proto, .string q.src, .string q.dst, .string q.opts, .string q.data] 10).run Try.prog W = .ok (.string q.data) W := fun W => by kernel_rfl
    have p10 : ∀ W, (part 9 #[.int .i64 p.tos, .int .i64 p.id, .bool p.whole, .bool p.more, .int .i64 p.off, .int .i64 p.ttl, .int .i64 p.proto, .string p.src, .string p.dst, .string p.opts, .string p.data] 10).run Try.prog W = .ok (.string p.data) W := fun W => by kernel_rfl
    unfold sameV4
    simp only [Op.eqFields, a0, b0, d0, q0, p0, a1, b1, d1, q1, p1, a2, b2, d2, q2, p2, a3, b3, d3, q3, p3, a4, b4, d4, q4, p4, a5, b5, d5, q5, p5, a6, b6, d6, q6, p6, a7, b7, d7, q7, p7, a8, b8, d8, q8, p8, a9, b9, d9, q9, p9, a10, b10, d10, q10, p10, if_true, Sem.run_bind, Sem.run_ite, Sem.run_pure, Result.andThen_ok, run_equalIn_string _ _ _ _ _ Try.underlying9, run_equalIn_int _ _ _ _ _ _ _ Try.underlying2, run_equalIn_bool' _ _ _ _ _ Try.underlying4]
    generalize (q.tos == p.tos) = g0
    generalize (q.id == p.id) = g1
    generalize (q.whole == p.whole) = g2
    generalize (q.more == p.more) = g3
    generalize (q.off == p.off) = g4
    generalize (q.ttl == p.ttl) = g5
    generalize (q.proto == p.proto) = g6
    generalize (q.src.toList == p.src.toList) = g7
    generalize (q.dst.toList == p.dst.toList) = g8
    generalize (q.opts.toList == p.opts.toList) = g9
    generalize (q.data.toList == p.data.toList) = g10
    cases g0
    · simp
    simp only [Bool.not_true, Bool.false_eq_true, if_false, Bool.true_and]
    cases g1
    · simp
    simp only [Bool.not_true, Bool.false_eq_true, if_false, Bool.true_and]
    cases g2
    · simp
    simp only [Bool.not_true, Bool.false_eq_true, if_false, Bool.true_and]
    cases g3
    · simp
    simp only [Bool.not_true, Bool.false_eq_true, if_false, Bool.true_and]
    cases g4
    · simp
    simp only [Bool.not_true, Bool.false_eq_true, if_false, Bool.true_and]
    cases g5
    · simp
    simp only [Bool.not_true, Bool.false_eq_true, if_false, Bool.true_and]
    cases g6
    · simp
    simp only [Bool.not_true, Bool.false_eq_true, if_false, Bool.true_and]
    cases g7
    · simp
    simp only [Bool.not_true, Bool.false_eq_true, if_false, Bool.true_and]
    cases g8
    · simp
    simp only [Bool.not_true, Bool.false_eq_true, if_false, Bool.true_and]
    cases g9
    · simp
    simp only [Bool.not_true, Bool.false_eq_true, if_false, Bool.true_and]
    cases g10 <;> simp

theorem eqV4_bin (q p : P4) (W : World) : (binOp .eql 56 (.agg #[.int .i64 q.tos, .int .i64 q.id, .bool q.whole, .bool q.more, .int .i64 q.off, .int .i64 q.ttl, .int .i64 q.proto, .string q.src, .string q.dst, .string q.opts, .string q.data]) (.agg #[.int .i64 p.tos, .int .i64 p.id, .bool p.whole, .bool p.more, .int .i64 p.off, .int .i64 p.ttl, .int .i64 p.proto, .string p.src, .string p.dst, .string p.opts, .string p.data])).run Try.prog W = .ok (.bool (sameV4 q p)) W := by
  rw [run_eql_struct, eqV4_run 9998 q p W]; rfl
set_option maxHeartbeats 1000000 in
theorem eqV4O_run (q : P4) (c : Int) (W : World) : (Op.equalIn 10000 66 (.agg #[.int .i64 q.tos, .int .i64 q.id, .bool q.whole, .bool q.more, .int .i64 q.off, .int .i64 q.ttl, .int .i64 q.proto, .string q.src, .string q.dst, .string q.opts, .string q.data, .int .i64 c]) (.agg #[.int .i64 q.tos, .int .i64 q.id, .bool q.whole, .bool q.more, .int .i64 q.off, .int .i64 q.ttl, .int .i64 q.proto, .string q.src, .string q.dst, .string q.opts, .string q.data, .int .i64 c])).run Try.prog W = .ok true W := by
  have h1 : Try.prog.underlying 66 = some (.struct (Try.prog.fieldsOf 66)) := by kernel_rfl
  have h2 : Try.prog.stoodInHeld 66 = false := by kernel_rfl
  rw [run_equalIn_agg _ _ _ _ _ h1 h2]
  have h3 : (Try.prog.fieldsOf 66).toList.length = 2 := by kernel_rfl
  have h4 : ((Try.prog.fieldsOf 66).toList.map fun f => (f.type, f.offset, f.name == "_")) = [(56, 0, false), (2, 11, false)] := by kernel_rfl
  have hq := eqV4_run 9997 q q
  have hs : sameV4 q q = true := (sameV4_iff q q).2 rfl
  generalize (Try.prog.fieldsOf 66).toList = fs at *
  match fs, h3 with
  | [f, g], _ =>
    simp at h4
    obtain ⟨⟨a1, a2, a3⟩, b1, b2, b3⟩ := h4
    have p0 : ∀ W, (part 56 #[.int .i64 q.tos, .int .i64 q.id, .bool q.whole, .bool q.more, .int .i64 q.off, .int .i64 q.ttl, .int .i64 q.proto, .string q.src, .string q.dst, .string q.opts, .string q.data, .int .i64 c] 0).run Try.prog W = .ok (.agg #[.int .i64 q.tos, .int .i64 q.id, .bool q.whole, .bool q.more, .int .i64 q.off, .int .i64 q.ttl, .int .i64 q.proto, .string q.src, .string q.dst, .string q.opts, .string q.data]) W := fun W => by kernel_rfl
    have p1 : ∀ W, (part 2 #[.int .i64 q.tos, .int .i64 q.id, .bool q.whole, .bool q.more, .int .i64 q.off, .int .i64 q.ttl, .int .i64 q.proto, .string q.src, .string q.dst, .string q.opts, .string q.data, .int .i64 c] 11).run Try.prog W = .ok (.int .i64 c) W := fun W => by kernel_rfl
    simp [Op.eqFields, a1, a2, a3, b1, b2, b3, p0, p1, hq, hs, run_equalIn_int _ _ _ _ _ _ _ Try.underlying2]
theorem eqV4O_bin (q : P4) (c : Int) (W : World) : (binOp .eql 66 (.agg #[.int .i64 q.tos, .int .i64 q.id, .bool q.whole, .bool q.more, .int .i64 q.off, .int .i64 q.ttl, .int .i64 q.proto, .string q.src, .string q.dst, .string q.opts, .string q.data, .int .i64 c]) (.agg #[.int .i64 q.tos, .int .i64 q.id, .bool q.whole, .bool q.more, .int .i64 q.off, .int .i64 q.ttl, .int .i64 q.proto, .string q.src, .string q.dst, .string q.opts, .string q.data, .int .i64 c])).run Try.prog W = .ok (.bool true) W := by
  rw [run_eql_struct, eqV4O_run]; rfl
theorem neV4O_bin (q : P4) (c : Int) (W : World) : (binOp .neq 66 (.agg #[.int .i64 q.tos, .int .i64 q.id, .bool q.whole, .bool q.more, .int .i64 q.off, .int .i64 q.ttl, .int .i64 q.proto, .string q.src, .string q.dst, .string q.opts, .string q.data, .int .i64 c]) (.agg #[.int .i64 q.tos, .int .i64 q.id, .bool q.whole, .bool q.more, .int .i64 q.off, .int .i64 q.ttl, .int .i64 q.proto, .string q.src, .string q.dst, .string q.opts, .string q.data, .int .i64 c])).run Try.prog W = .ok (.bool false) W := by
  rw [run_neq_struct, eqV4O_run]; rfl

def sameV6 (q p : P6) : Bool := (q.cls == p.cls) && ((q.flow == p.flow) && ((q.next == p.next) && ((q.hops == p.hops) && ((q.src.toList == p.src.toList) && ((q.dst.toList == p.dst.toList) && ((q.piece == p.piece) && ((q.more == p.more) && ((q.off == p.off) && ((q.id == p.id) && ((q.data.toList == p.data.toList)))))))))))
theorem sameV6_iff (q p : P6) : sameV6 q p = true ↔ q = p := by
  unfold sameV6
  simp only [tl_eq, Bool.and_eq_true, beq_iff_eq, decide_eq_true_iff]
  constructor
  · intro h
    obtain ⟨h0, h1, h2, h3, h4, h5, h6, h7, h8, h9, h10⟩ := h
    cases q; cases p; simp_all
  · rintro rfl; simp
set_option maxRecDepth 10000 in
set_option maxHeartbeats 1000000 in
theorem eqV6_run (D : Nat) (q p : P6) (W : World) : (Op.equalIn (D + 2) 59 (.agg #[.int .i64 q.cls, .int .i64 q.flow, .int .i64 q.next, .int .i64 q.hops, .string q.src, .string q.dst, .bool q.piece, .bool q.more, .int .i64 q.off, .int .i64 q.id, .string q.data]) (.agg #[.int .i64 p.cls, .int .i64 p.flow, .int .i64 p.next, .int .i64 p.hops, .string p.src, .string p.dst, .bool p.piece, .bool p.more, .int .i64 p.off, .int .i64 p.id, .string p.data])).run Try.prog W = .ok (sameV6 q p) W := by
  have h1 : Try.prog.underlying 59 = some (.struct (Try.prog.fieldsOf 59)) := by kernel_rfl
  have h2 : Try.prog.stoodInHeld 59 = false := by kernel_rfl
  rw [run_equalIn_agg _ _ _ _ _ h1 h2]
  have h3 : (Try.prog.fieldsOf 59).toList.length = 11 := by kernel_rfl
  have h4 : ((Try.prog.fieldsOf 59).toList.map fun f => (f.type, f.offset, f.name == "_")) = [(2, 0, false), (2, 1, false), (2, 2, false), (2, 3, false), (9, 4, false), (9, 5, false), (4, 6, false), (4, 7, false), (2, 8, false), (2, 9, false), (9, 10, false)] := by kernel_rfl
  generalize (Try.prog.fieldsOf 59).toList = fs at *
  match fs, h3 with
  | [f0, f1, f2, f3, f4, f5, f6, f7, f8, f9, f10], _ =>
    simp only [List.map_cons, List.map_nil, List.cons.injEq, Prod.mk.injEq, and_true] at h4
    obtain ⟨⟨a0, b0, c0⟩, ⟨a1, b1, c1⟩, ⟨a2, b2, c2⟩, ⟨a3, b3, c3⟩, ⟨a4, b4, c4⟩, ⟨a5, b5, c5⟩, ⟨a6, b6, c6⟩, ⟨a7, b7, c7⟩, ⟨a8, b8, c8⟩, ⟨a9, b9, c9⟩, ⟨a10, b10, c10⟩⟩ := h4
    have d0 : (f0.name ≠ "_") = True := by simpa using c0
    have q0 : ∀ W, (part 2 #[.int .i64 q.cls, .int .i64 q.flow, .int .i64 q.next, .int .i64 q.hops, .string q.src, .string q.dst, .bool q.piece, .bool q.more, .int .i64 q.off, .int .i64 q.id, .string q.data] 0).run Try.prog W = .ok (.int .i64 q.cls) W := fun W => by kernel_rfl
    have p0 : ∀ W, (part 2 #[.int .i64 p.cls, .int .i64 p.flow, .int .i64 p.next, .int .i64 p.hops, .string p.src, .string p.dst, .bool p.piece, .bool p.more, .int .i64 p.off, .int .i64 p.id, .string p.data] 0).run Try.prog W = .ok (.int .i64 p.cls) W := fun W => by kernel_rfl
    have d1 : (f1.name ≠ "_") = True := by simpa using c1
    have q1 : ∀ W, (part 2 #[.int .i64 q.cls, .int .i64 q.flow, .int .i64 q.next, .int .i64 q.hops, .string q.src, .string q.dst, .bool q.piece, .bool q.more, .int .i64 q.off, .int .i64 q.id, .string q.data] 1).run Try.prog W = .ok (.int .i64 q.flow) W := fun W => by kernel_rfl
    have p1 : ∀ W, (part 2 #[.int .i64 p.cls, .int .i64 p.flow, .int .i64 p.next, .int .i64 p.hops, .string p.src, .string p.dst, .bool p.piece, .bool p.more, .int .i64 p.off, .int .i64 p.id, .string p.data] 1).run Try.prog W = .ok (.int .i64 p.flow) W := fun W => by kernel_rfl
    have d2 : (f2.name ≠ "_") = True := by simpa using c2
    have q2 : ∀ W, (part 2 #[.int .i64 q.cls, .int .i64 q.flow, .int .i64 q.next, .int .i64 q.hops, .string q.src, .string q.dst, .bool q.piece, .bool q.more, .int .i64 q.off, .int .i64 q.id, .string q.data] 2).run Try.prog W = .ok (.int .i64 q.next) W := fun W => by kernel_rfl
    have p2 : ∀ W, (part 2 #[.int .i64 p.cls, .int .i64 p.flow, .int .i64 p.next, .int .i64 p.hops, .string p.src, .string p.dst, .bool p.piece, .bool p.more, .int .i64 p.off, .int .i64 p.id, .string p.data] 2).run Try.prog W = .ok (.int .i64 p.next) W := fun W => by kernel_rfl
    have d3 : (f3.name ≠ "_") = True := by simpa using c3
    have q3 : ∀ W, (part 2 #[.int .i64 q.cls, .int .i64 q.flow, .int .i64 q.next, .int .i64 q.hops, .string q.src, .string q.dst, .bool q.piece, .bool q.more, .int .i64 q.off, .int .i64 q.id, .string q.data] 3).run Try.prog W = .ok (.int .i64 q.hops) W := fun W => by kernel_rfl
    have p3 : ∀ W, (part 2 #[.int .i64 p.cls, .int .i64 p.flow, .int .i64 p.next, .int .i64 p.hops, .string p.src, .string p.dst, .bool p.piece, .bool p.more, .int .i64 p.off, .int .i64 p.id, .string p.data] 3).run Try.prog W = .ok (.int .i64 p.hops) W := fun W => by kernel_rfl
    have d4 : (f4.name ≠ "_") = True := by simpa using c4
    have q4 : ∀ W, (part 9 #[.int .i64 q.cls, .int .i64 q.flow, .int .i64 q.next, .int .i64 q.hops, .string q.src, .string q.dst, .bool q.piece, .bool q.more, .int .i64 q.off, .int .i64 q.id, .string q.data] 4).run Try.prog W = .ok (.string q.src) W := fun W => by kernel_rfl
    have p4 : ∀ W, (part 9 #[.int .i64 p.cls, .int .i64 p.flow, .int .i64 p.next, .int .i64 p.hops, .string p.src, .string p.dst, .bool p.piece, .bool p.more, .int .i64 p.off, .int .i64 p.id, .string p.data] 4).run Try.prog W = .ok (.string p.src) W := fun W => by kernel_rfl
    have d5 : (f5.name ≠ "_") = True := by simpa using c5
    have q5 : ∀ W, (part 9 #[.int .i64 q.cls, .int .i64 q.flow, .int .i64 q.next, .int .i64 q.hops, .string q.src, .string q.dst, .bool q.piece, .bool q.more, .int .i64 q.off, .int .i64 q.id, .string q.data] 5).run Try.prog W = .ok (.string q.dst) W := fun W => by kernel_rfl
    have p5 : ∀ W, (part 9 #[.int .i64 p.cls, .int .i64 p.flow, .int .i64 p.next, .int .i64 p.hops, .string p.src, .string p.dst, .bool p.piece, .bool p.more, .int .i64 p.off, .int .i64 p.id, .string p.data] 5).run Try.prog W = .ok (.string p.dst) W := fun W => by kernel_rfl
    have d6 : (f6.name ≠ "_") = True := by simpa using c6
    have q6 : ∀ W, (part 4 #[.int .i64 q.cls, .int .i64 q.flow, .int .i64 q.next, .int .i64 q.hops, .string q.src, .string q.dst, .bool q.piece, .bool q.more, .int .i64 q.off, .int .i64 q.id, .string q.data] 6).run Try.prog W = .ok (.bool q.piece) W := fun W => by kernel_rfl
    have p6 : ∀ W, (part 4 #[.int .i64 p.cls, .int .i64 p.flow, .int .i64 p.next, .int .i64 p.hops, .string p.src, .string p.dst, .bool p.piece, .bool p.more, .int .i64 p.off, .int .i64 p.id, .string p.data] 6).run Try.prog W = .ok (.bool p.piece) W := fun W => by kernel_rfl
    have d7 : (f7.name ≠ "_") = True := by simpa using c7
    have q7 : ∀ W, (part 4 #[.int .i64 q.cls, .int .i64 q.flow, .int .i64 q.next, .int .i64 q.hops, .string q.src, .string q.dst, .bool q.piece, .bool q.more, .int .i64 q.off, .int .i64 q.id, .string q.data] 7).run Try.prog W = .ok (.bool q.more) W := fun W => by kernel_rfl
    have p7 : ∀ W, (part 4 #[.int .i64 p.cls, .int .i64 p.flow, .int .i64 p.next, .int .i64 p.hops, .string p.src, .string p.dst, .bool p.piece, .bool p.more, .int .i64 p.off, .int .i64 p.id, .string p.data] 7).run Try.prog W = .ok (.bool p.more) W := fun W => by kernel_rfl
    have d8 : (f8.name ≠ "_") = True := by simpa using c8
    have q8 : ∀ W, (part 2 #[.int .i64 q.cls, .int .i64 q.flow, .int .i64 q.next, .int .i64 q.hops, .string q.src, .string q.dst, .bool q.piece, .bool q.more, .int .i64 q.off, .int .i64 q.id, .string q.data] 8).run Try.prog W = .ok (.int .i64 q.off) W := fun W => by kernel_rfl
    have p8 : ∀ W, (part 2 #[.int .i64 p.cls, .int .i64 p.flow, .int .i64 p.next, .int .i64 p.hops, .string p.src, .string p.dst, .bool p.piece, .bool p.more, .int .i64 p.off, .int .i64 p.id, .string p.data] 8).run Try.prog W = .ok (.int .i64 p.off) W := fun W => by kernel_rfl
    have d9 : (f9.name ≠ "_") = True := by simpa using c9
    have q9 : ∀ W, (part 2 #[.int .i64 q.cls, .int .i64 q.flow, .int .i64 q.next, .int .i64 q.hops, .string q.src, .string q.dst, .bool q.piece, .bool q.more, .int .i64 q.off, .int .i64 q.id, .string q.data] 9).run Try.prog W = .ok (.int .i64 q.id) W := fun W => by kernel_rfl
    have p9 : ∀ W, (part 2 #[.int .i64 p.cls, .int .i64 p.flow, .int .i64 p.next, .int .i64 p.hops, .string p.src, .string p.dst, .bool p.piece, .bool p.more, .int .i64 p.off, .int .i64 p.id, .string p.data] 9).run Try.prog W = .ok (.int .i64 p.id) W := fun W => by kernel_rfl
    have d10 : (f10.name ≠ "_") = True := by simpa using c10
    have q10 : ∀ W, (part 9 #[.int .i64 q.cls, .int .i64 q.flow, .int .i64 q.next, .int .i64 q.hops, .string q.src, .string q.dst, .bool q.piece, .bool q.more, .int .i64 q.off, .int .i64 q.id, .string q.data] 10).run Try.prog W = .ok (.string q.data) W := fun W => by kernel_rfl
    have p10 : ∀ W, (part 9 #[.int .i64 p.cls, .int .i64 p.flow, .int .i64 p.next, .int .i64 p.hops, .string p.src, .string p.dst, .bool p.piece, .bool p.more, .int .i64 p.off, .int .i64 p.id, .string p.data] 10).run Try.prog W = .ok (.string p.data) W := fun W => by kernel_rfl
    unfold sameV6
    simp only [Op.eqFields, a0, b0, d0, q0, p0, a1, b1, d1, q1, p1, a2, b2, d2, q2, p2, a3, b3, d3, q3, p3, a4, b4, d4, q4, p4, a5, b5, d5, q5, p5, a6, b6, d6, q6, p6, a7, b7, d7, q7, p7, a8, b8, d8, q8, p8, a9, b9, d9, q9, p9, a10, b10, d10, q10, p10, if_true, Sem.run_bind, Sem.run_ite, Sem.run_pure, Result.andThen_ok, run_equalIn_string _ _ _ _ _ Try.underlying9, run_equalIn_int _ _ _ _ _ _ _ Try.underlying2, run_equalIn_bool' _ _ _ _ _ Try.underlying4]
    generalize (q.cls == p.cls) = g0
    generalize (q.flow == p.flow) = g1
    generalize (q.next == p.next) = g2
    generalize (q.hops == p.hops) = g3
    generalize (q.src.toList == p.src.toList) = g4
    generalize (q.dst.toList == p.dst.toList) = g5
    generalize (q.piece == p.piece) = g6
    generalize (q.more == p.more) = g7
    generalize (q.off == p.off) = g8
    generalize (q.id == p.id) = g9
    generalize (q.data.toList == p.data.toList) = g10
    cases g0
    · simp
    simp only [Bool.not_true, Bool.false_eq_true, if_false, Bool.true_and]
    cases g1
    · simp
    simp only [Bool.not_true, Bool.false_eq_true, if_false, Bool.true_and]
    cases g2
    · simp
    simp only [Bool.not_true, Bool.false_eq_true, if_false, Bool.true_and]
    cases g3
    · simp
    simp only [Bool.not_true, Bool.false_eq_true, if_false, Bool.true_and]
    cases g4
    · simp
    simp only [Bool.not_true, Bool.false_eq_true, if_false, Bool.true_and]
    cases g5
    · simp
    simp only [Bool.not_true, Bool.false_eq_true, if_false, Bool.true_and]
    cases g6
    · simp
    simp only [Bool.not_true, Bool.false_eq_true, if_false, Bool.true_and]
    cases g7
    · simp
    simp only [Bool.not_true, Bool.false_eq_true, if_false, Bool.true_and]
    cases g8
    · simp
    simp only [Bool.not_true, Bool.false_eq_true, if_false, Bool.true_and]
    cases g9
    · simp
    simp only [Bool.not_true, Bool.false_eq_true, if_false, Bool.true_and]
    cases g10 <;> simp

theorem eqV6_bin (q p : P6) (W : World) : (binOp .eql 59 (.agg #[.int .i64 q.cls, .int .i64 q.flow, .int .i64 q.next, .int .i64 q.hops, .string q.src, .string q.dst, .bool q.piece, .bool q.more, .int .i64 q.off, .int .i64 q.id, .string q.data]) (.agg #[.int .i64 p.cls, .int .i64 p.flow, .int .i64 p.next, .int .i64 p.hops, .string p.src, .string p.dst, .bool p.piece, .bool p.more, .int .i64 p.off, .int .i64 p.id, .string p.data])).run Try.prog W = .ok (.bool (sameV6 q p)) W := by
  rw [run_eql_struct, eqV6_run 9998 q p W]; rfl
set_option maxHeartbeats 1000000 in
theorem eqV6O_run (q : P6) (c : Int) (W : World) : (Op.equalIn 10000 69 (.agg #[.int .i64 q.cls, .int .i64 q.flow, .int .i64 q.next, .int .i64 q.hops, .string q.src, .string q.dst, .bool q.piece, .bool q.more, .int .i64 q.off, .int .i64 q.id, .string q.data, .int .i64 c]) (.agg #[.int .i64 q.cls, .int .i64 q.flow, .int .i64 q.next, .int .i64 q.hops, .string q.src, .string q.dst, .bool q.piece, .bool q.more, .int .i64 q.off, .int .i64 q.id, .string q.data, .int .i64 c])).run Try.prog W = .ok true W := by
  have h1 : Try.prog.underlying 69 = some (.struct (Try.prog.fieldsOf 69)) := by kernel_rfl
  have h2 : Try.prog.stoodInHeld 69 = false := by kernel_rfl
  rw [run_equalIn_agg _ _ _ _ _ h1 h2]
  have h3 : (Try.prog.fieldsOf 69).toList.length = 2 := by kernel_rfl
  have h4 : ((Try.prog.fieldsOf 69).toList.map fun f => (f.type, f.offset, f.name == "_")) = [(59, 0, false), (2, 11, false)] := by kernel_rfl
  have hq := eqV6_run 9997 q q
  have hs : sameV6 q q = true := (sameV6_iff q q).2 rfl
  generalize (Try.prog.fieldsOf 69).toList = fs at *
  match fs, h3 with
  | [f, g], _ =>
    simp at h4
    obtain ⟨⟨a1, a2, a3⟩, b1, b2, b3⟩ := h4
    have p0 : ∀ W, (part 59 #[.int .i64 q.cls, .int .i64 q.flow, .int .i64 q.next, .int .i64 q.hops, .string q.src, .string q.dst, .bool q.piece, .bool q.more, .int .i64 q.off, .int .i64 q.id, .string q.data, .int .i64 c] 0).run Try.prog W = .ok (.agg #[.int .i64 q.cls, .int .i64 q.flow, .int .i64 q.next, .int .i64 q.hops, .string q.src, .string q.dst, .bool q.piece, .bool q.more, .int .i64 q.off, .int .i64 q.id, .string q.data]) W := fun W => by kernel_rfl
    have p1 : ∀ W, (part 2 #[.int .i64 q.cls, .int .i64 q.flow, .int .i64 q.next, .int .i64 q.hops, .string q.src, .string q.dst, .bool q.piece, .bool q.more, .int .i64 q.off, .int .i64 q.id, .string q.data, .int .i64 c] 11).run Try.prog W = .ok (.int .i64 c) W := fun W => by kernel_rfl
    simp [Op.eqFields, a1, a2, a3, b1, b2, b3, p0, p1, hq, hs, run_equalIn_int _ _ _ _ _ _ _ Try.underlying2]
theorem eqV6O_bin (q : P6) (c : Int) (W : World) : (binOp .eql 69 (.agg #[.int .i64 q.cls, .int .i64 q.flow, .int .i64 q.next, .int .i64 q.hops, .string q.src, .string q.dst, .bool q.piece, .bool q.more, .int .i64 q.off, .int .i64 q.id, .string q.data, .int .i64 c]) (.agg #[.int .i64 q.cls, .int .i64 q.flow, .int .i64 q.next, .int .i64 q.hops, .string q.src, .string q.dst, .bool q.piece, .bool q.more, .int .i64 q.off, .int .i64 q.id, .string q.data, .int .i64 c])).run Try.prog W = .ok (.bool true) W := by
  rw [run_eql_struct, eqV6O_run]; rfl
theorem neV6O_bin (q : P6) (c : Int) (W : World) : (binOp .neq 69 (.agg #[.int .i64 q.cls, .int .i64 q.flow, .int .i64 q.next, .int .i64 q.hops, .string q.src, .string q.dst, .bool q.piece, .bool q.more, .int .i64 q.off, .int .i64 q.id, .string q.data, .int .i64 c]) (.agg #[.int .i64 q.cls, .int .i64 q.flow, .int .i64 q.next, .int .i64 q.hops, .string q.src, .string q.dst, .bool q.piece, .bool q.more, .int .i64 q.off, .int .i64 q.id, .string q.data, .int .i64 c])).run Try.prog W = .ok (.bool false) W := by
  rw [run_neq_struct, eqV6O_run]; rfl

end Go.Proofs.Ytofhcplnnamcdaa
