/- PktMath2: packets of IPv6 come back from their bytes; a byte of a header of IPv4 turned makes another packet. Nothing of the program. -/
import Derived.Test.YtaoolicfjpaggaaPktMath
namespace Go.Proofs.Ytaoolicfjpaggaa
open Go.RowKit Go.PlainAid
set_option linter.unusedVariables false
set_option linter.unusedSimpArgs false

theorem head6_bt (f n x y : Int) (hf : 0 ≤ f ∧ f ≤ 4294967295) (hn : 0 ≤ n ∧ n ≤ 65535) (hx : 0 ≤ x ∧ x ≤ 255) (hy : 0 ≤ y ∧ y ≤ 255) (H : ByteArray) (hH : H = twoV (f / 65536) ++ twoV (f % 65536) ++ twoV n ++ pairV x y) :
    H.size = 8 ∧ bt H 0 = f / 16777216 ∧ wordN (bt H) 0 = f / 65536 ∧ wordN (bt H) 2 = f % 65536 ∧ wordN (bt H) 4 = n ∧ bt H 6 = x ∧ bt H 7 = y := by
  have q1 := bt_two (f / 65536) (by omega) (by omega)
  have q2 := bt_two (f % 65536) (by omega) (by omega)
  have q3 := bt_two n hn.1 hn.2
  have q4 := pairV_bt x y hx hy
  subst hH
  unfold wordN
  refine ⟨by simp only [ByteArray.size_append, pairV_size, twoV_size], ?_, ?_, ?_, ?_, ?_, ?_⟩ <;> simp [bt_append, ByteArray.size_append, pairV_size, twoV_size, q1, q2, q3, q4] <;> omega
theorem piece_bt (x o d : Int) (hx : 0 ≤ x ∧ x ≤ 255) (ho : 0 ≤ o ∧ o ≤ 65535) (hd : 0 ≤ d ∧ d ≤ 4294967295) (H : ByteArray) (hH : H = pairV x 0 ++ twoV o ++ twoV (d / 65536) ++ twoV (d % 65536)) :
    H.size = 8 ∧ bt H 0 = x ∧ wordN (bt H) 2 = o ∧ bt H 3 = o % 256 ∧ wordN (bt H) 4 = d / 65536 ∧ wordN (bt H) 6 = d % 65536 := by
  have q1 := bt_two (d / 65536) (by omega) (by omega)
  have q2 := bt_two (d % 65536) (by omega) (by omega)
  have q3 := bt_two o ho.1 ho.2
  have q4 := pairV_bt x 0 hx (by decide)
  subst hH
  unfold wordN
  refine ⟨by simp only [ByteArray.size_append, pairV_size, twoV_size], ?_, ?_, ?_, ?_, ?_⟩ <;> simp [bt_append, ByteArray.size_append, pairV_size, twoV_size, q1, q2, q3, q4] <;> omega

theorem v6_round (p : P6) (h : v6Ok p = true) (z : ByteArray) (hz : z.size ≤ 100) : v6CodeV (v6Raw p ++ z) = 0 ∧ v6Cut (v6Raw p ++ z) = p := by
  obtain ⟨a1, a2, a3, a4, a5, a6, a7, a8⟩ := v6Ok_parts h
  have hf : firstN p = 6 * 268435456 + p.cls * 1048576 + p.flow := rfl
  have h44 : p.next ≠ 44 := by
    unfold v6Ok v6A at h
    simp only [Bool.and_eq_true, Bool.not_eq_true', decide_eq_false_iff_not] at h
    exact h.1.2
  have hnp : p.piece = false → p.more = false ∧ p.off = 0 ∧ p.id = 0 := fun hp => by
    unfold v6Ok v6B at h
    rw [hp] at h
    simp only [Bool.and_eq_true, Bool.false_eq_true, if_false, Bool.not_eq_true', decide_eq_true_iff] at h
    exact ⟨h.2.1.1, h.2.1.2, h.2.2⟩
  have hrz : (restV p).size = (if p.piece then 8 else 0) + p.data.size := by
    unfold restV; cases p.piece <;> simp only [Bool.false_eq_true, if_false, if_true, ByteArray.size_append, pairV_size, twoV_size] <;> omega
  have hr : (restV p).size ≤ 1408 := by rw [hrz]; split <;> omega
  obtain ⟨nx, hnx⟩ : ∃ nx, nx = if p.piece then (44 : Int) else p.next := ⟨_, rfl⟩
  have hxr : 0 ≤ nx ∧ nx ≤ 255 := by rw [hnx]; split <;> omega
  obtain ⟨H, hH⟩ : ∃ H, H = twoV (firstN p / 65536) ++ twoV (firstN p % 65536) ++ twoV (restV p).size ++ pairV nx p.hops := ⟨_, rfl⟩
  obtain ⟨H8, e0, w0, w2, w4, e6, e7⟩ := head6_bt (firstN p) (restV p).size nx p.hops (by omega) (by omega) hxr a3 H hH
  have hT : v6Raw p ++ z = H ++ p.src ++ p.dst ++ restV p ++ z := by rw [hH, hnx]; rfl
  have hsz : (v6Raw p ++ z).size = 40 + (restV p).size + z.size := by rw [hT]; simp only [ByteArray.size_append]; omega
  have hb : ∀ i, i < 8 → bt (v6Raw p ++ z) i = bt H i := fun i hi => by rw [hT]; simp only [ByteArray.append_assoc]; rw [bt_append, if_pos (by omega)]
  have hw : ∀ i, i + 1 < 8 → wordN (bt (v6Raw p ++ z)) i = wordN (bt H) i := fun i hi => by unfold wordN; rw [hb i (by omega), hb (i + 1) hi]
  have hbr : ∀ i, i < (restV p).size → bt (v6Raw p ++ z) (40 + i) = bt (restV p) i := fun i hi => by
    rw [hT, bt_append, if_pos (by simp only [ByteArray.size_append]; omega), bt_append, if_neg (by simp only [ByteArray.size_append]; omega)]
    congr 1; simp only [ByteArray.size_append]; omega
  have x1 : (v6Raw p ++ z).extract 8 24 = p.src := ext_at (X := H) (Z := p.dst ++ restV p ++ z) (by rw [hT]; simp only [ByteArray.append_assoc]) (by omega) (by omega)
  have x2 : (v6Raw p ++ z).extract 24 40 = p.dst := ext_at (X := H ++ p.src) (Z := restV p ++ z) (by rw [hT]; simp only [ByteArray.append_assoc]) (by simp only [ByteArray.size_append]; omega) (by simp only [ByteArray.size_append]; omega)
  have hW0 := (hw 0 (by omega)).trans w0
  have hW2 := (hw 2 (by omega)).trans w2
  have hW4 := (hw 4 (by omega)).trans w4
  have hE6 := (hb 6 (by omega)).trans e6
  have hE7 := (hb 7 (by omega)).trans e7
  have hfs : firstN p / 65536 * 65536 + firstN p % 65536 = firstN p := by omega
  have hcut : v6Cut (v6Raw p ++ z) = p := by
    unfold v6Cut
    simp only []
    rw [hE6, hE7, hW0, hW2, hW4, hfs, x1, x2, show ((restV p).size : Int).toNat = (restV p).size by omega]
    have y1 : firstN p / 1048576 % 256 = p.cls := by omega
    have y2 : firstN p % 1048576 = p.flow := by omega
    rw [y1, y2]
    cases hp : p.piece with
    | true =>
      have hnx' : nx = 44 := by rw [hnx, hp]; rfl
      rw [hnx', if_pos rfl]
      obtain ⟨p1, p2, p3⟩ := a8 hp
      obtain ⟨K, hK⟩ : ∃ K, K = pairV p.next 0 ++ twoV (8 * p.off + if p.more then 1 else 0) ++ twoV (p.id / 65536) ++ twoV (p.id % 65536) := ⟨_, rfl⟩
      have ho : 0 ≤ 8 * p.off + (if p.more then (1 : Int) else 0) ∧ 8 * p.off + (if p.more then (1 : Int) else 0) ≤ 65535 := by split <;> omega
      obtain ⟨K8, k0, k2, k3, k4, k6⟩ := piece_bt p.next _ p.id a2 ho p2 K hK
      have hR : restV p = K ++ p.data := by unfold restV; rw [hp, hK]; rfl
      have hrk : ∀ i, i < 8 → bt (v6Raw p ++ z) (40 + i) = bt K i := fun i hi => by
        rw [hbr i (by rw [hR, ByteArray.size_append]; omega), hR, bt_append, if_pos (by omega)]
      have hrw : ∀ i, i + 1 < 8 → wordN (bt (v6Raw p ++ z)) (40 + i) = wordN (bt K) i := fun i hi => by
        show bt _ (40 + i) * 256 + bt _ (40 + (i + 1)) = _
        rw [hrk i (by omega), hrk (i + 1) hi]; rfl
      have x3 : (v6Raw p ++ z).extract 48 (40 + (restV p).size) = p.data := ext_at (X := H ++ p.src ++ p.dst ++ K) (Z := z) (by rw [hT, hR]; simp only [ByteArray.append_assoc]) (by simp only [ByteArray.size_append]; omega) (by rw [hR]; simp only [ByteArray.size_append]; omega)
      have z0 := (hrk 0 (by omega)).trans k0
      have z3 := (hrk 3 (by omega)).trans k3
      have z2 := (hrw 2 (by omega)).trans k2
      have z4 := (hrw 4 (by omega)).trans k4
      have z6 := (hrw 6 (by omega)).trans k6
      simp only [Nat.reduceAdd, Nat.add_zero] at z0 z3 z2 z4 z6
      rw [z0, z3, z2, z4, z6, x3]
      have m1 : decide ((8 * p.off + (if p.more then (1 : Int) else 0)) % 256 % 2 = 1) = p.more := by cases p.more <;> simp <;> omega
      have m2 : (8 * p.off + (if p.more then (1 : Int) else 0)) / 8 = p.off := by split <;> omega
      have m3 : p.id / 65536 * 65536 + p.id % 65536 = p.id := by omega
      rw [m1, m2, m3, ← hp]
    | false =>
      have hnx' : nx = p.next := by rw [hnx, hp]; rfl
      rw [hnx', if_neg h44]
      obtain ⟨n1, n2, n3⟩ := hnp hp
      have hR : restV p = p.data := by unfold restV; rw [hp]; rfl
      have x3 : (v6Raw p ++ z).extract 40 (40 + (restV p).size) = p.data := ext_at (X := H ++ p.src ++ p.dst) (Z := z) (by rw [hT, hR]) (by simp only [ByteArray.size_append]; omega) (by rw [hR]; simp only [ByteArray.size_append]; omega)
      rw [x3]
      show _ = (⟨p.cls, p.flow, p.next, p.hops, p.src, p.dst, p.piece, p.more, p.off, p.id, p.data⟩ : P6)
      rw [hp, n1, n2, n3]
  refine ⟨?_, hcut⟩
  unfold v6CodeV
  rw [if_neg (by omega), if_neg (by omega), (hb 0 (by omega)).trans e0, if_neg (by omega), hW4, hE6, if_neg (by
    rintro (hh | ⟨hh1, hh2⟩)
    · omega
    · have : p.piece = true := by
        cases hp : p.piece with
        | true => rfl
        | false => rw [hnx, hp] at hh1; exact absurd hh1 h44
      rw [hrz, this] at hh2
      simp only [if_true] at hh2
      omega), hcut, if_pos h]

/-- One byte of a header of IPv4 turned: what is read is not the packet, or nothing. -/
theorem v4_turned (p : P4) (h : v4Ok p = true) (t : ByteArray) (k : Nat) (hk : k < 20) (hs : t.size = (v4Raw p).size) (hsame : ∀ i, i ≠ k → bt t i = bt (v4Raw p) i) (hne : bt t k ≠ bt (v4Raw p) k) (hc : v4CodeV t = 0) : v4Cut t ≠ p := by
  intro hcut
  obtain ⟨hc0, hcut0⟩ := v4_round p h (ByteArray.mk #[]) (by decide)
  have hE : v4Raw p ++ ByteArray.mk #[] = v4Raw p := ByteArray.append_empty
  rw [hE] at hc0 hcut0
  have hA : v4A p = true := by unfold v4Ok at h; simp only [Bool.and_eq_true] at h; exact h.1.1
  have hB : v4B p = true := by unfold v4Ok at h; simp only [Bool.and_eq_true] at h; exact h.1.2
  obtain ⟨a1, a2, a3, a4, a5, a6, a7⟩ := v4A_parts hA
  obtain ⟨b1, b2, b3, -, b5⟩ := v4B_parts hB
  -- what the codes say
  have hparts : ∀ u : ByteArray, v4CodeV u = 0 → ¬ u.size < 20 ∧ bt u 0 / 16 = 4 ∧ 20 ≤ 4 * (bt u 0 % 16) ∧ 4 * (bt u 0 % 16) ≤ wordN (bt u) 2 ∧ wordN (bt u) 6 < 32768 ∧ wordN (bt u) 2 ≤ u.size ∧ sumV (u.extract 0 (4 * (bt u 0 % 16).toNat)) = 65535 := fun u hu => by
    unfold v4CodeV at hu
    by_cases g1 : 20000 < u.size
    · rw [if_pos g1] at hu; cases hu
    rw [if_neg g1] at hu
    by_cases g2 : u.size < 20
    · rw [if_pos g2] at hu; cases hu
    rw [if_neg g2] at hu
    by_cases g3 : bt u 0 / 16 ≠ 4 ∨ 4 * (bt u 0 % 16) < 20 ∨ wordN (bt u) 2 < 4 * (bt u 0 % 16) ∨ 32768 ≤ wordN (bt u) 6
    · rw [if_pos g3] at hu; cases hu
    rw [if_neg g3] at hu
    by_cases g4 : (u.size : Int) < wordN (bt u) 2
    · rw [if_pos g4] at hu; cases hu
    rw [if_neg g4] at hu
    by_cases g5 : sumV (u.extract 0 (4 * (bt u 0 % 16).toNat)) ≠ 65535
    · rw [if_pos g5] at hu; cases hu
    exact ⟨g2, by omega, by omega, by omega, by omega, by omega, by omega⟩
  obtain ⟨t1, t2, t3, t4, t5, t6, t7⟩ := hparts t hc
  obtain ⟨r1, r2, r3, r4, r5, r6, r7⟩ := hparts _ hc0
  generalize v4Raw p = r at *
  clear hE hc hc0
  have e : v4Cut t = v4Cut r := hcut.trans hcut0.symm
  have hbt := bt_isByte t
  have hbr := bt_isByte r
  unfold v4Cut at e
  simp only [P4.mk.injEq] at e
  obtain ⟨e1, e4, ew, em, eo, e8, e9, es, ed, eop, eda⟩ := e
  have q0 := hbt 0
  have q0' := hbr 0
  -- the header's length
  have hh : bt t 0 = bt r 0 := by
    by_cases hk0 : k = 0
    · have z := congrArg ByteArray.size eop
      simp only [ByteArray.size_extract] at z
      omega
    · exact hsame 0 (fun e => hk0 e.symm)
  have wv : ∀ u : ByteArray, wordN (bt u) 6 < 32768 → 0 ≤ wordN (bt u) 6 → wordN (bt u) 6 = wordN (bt u) 6 % 8192 + (if decide (wordN (bt u) 6 / 16384 % 2 = 1) then 16384 else 0) + (if decide (wordN (bt u) 6 / 8192 % 2 = 1) then 8192 else 0) := fun u h1 h2 => by
    by_cases c1 : wordN (bt u) 6 / 16384 % 2 = 1 <;> by_cases c2 : wordN (bt u) 6 / 8192 % 2 = 1 <;> simp [c1, c2] <;> omega
  have w6 : wordN (bt t) 6 = wordN (bt r) 6 := by
    rw [wv t t5 (wordN_range hbt 6).1, wv r r5 (wordN_range hbr 6).1, eo, ew, em]
  have w2 : wordN (bt t) 2 = wordN (bt r) 2 := by
    have z := congrArg ByteArray.size eda
    rw [hh] at z
    simp only [ByteArray.size_extract] at z
    omega
  have word : ∀ j, wordN (bt t) j = wordN (bt r) j → k ≠ j ∧ k ≠ j + 1 := fun j hj => by
    unfold wordN at hj
    constructor
    · intro hkj; subst hkj
      rw [hsame (k + 1) (by omega)] at hj
      omega
    · intro hkj
      rw [hsame j (by omega)] at hj
      rw [← hkj] at hj
      omega
  have hk0 : k ≠ 0 := fun hk0 => by subst hk0; exact hne hh
  have hk1 : k ≠ 1 := fun hk1 => by subst hk1; exact hne e1
  have hk8 : k ≠ 8 := fun hk8 => by subst hk8; exact hne e8
  have hk9 : k ≠ 9 := fun hk9 => by subst hk9; exact hne e9
  have k2 := word 2 w2
  have k4 := word 4 e4
  have k6 := word 6 w6
  have hext : ∀ a b, t.extract a b = r.extract a b → b ≤ t.size → a ≤ k → k < b → False := fun a b hab hb1 h1 h2 => by
    have hx : bt (t.extract a b) (k - a) = bt (r.extract a b) (k - a) := by rw [hab]
    rw [bt_extract t a b _ hb1, bt_extract r a b _ (by omega), if_pos (by omega), if_pos (by omega), show a + (k - a) = k by omega] at hx
    exact hne hx
  have hk12 : ¬ (12 ≤ k ∧ k < 16) := fun hh => hext 12 16 es (by omega) hh.1 hh.2
  have hk16 : ¬ (16 ≤ k ∧ k < 20) := fun hh => hext 16 20 ed (by omega) hh.1 hh.2
  -- the check
  have hk10 : k = 10 ∨ k = 11 := by omega
  rw [hh] at t7
  obtain ⟨n, hn⟩ : ∃ n : Nat, n = 4 * (bt r 0 % 16).toNat := ⟨_, rfl⟩
  rw [← hn] at t7 r7
  have hn20 : 20 ≤ n := by omega
  have hnt : n ≤ t.size := by omega
  have hnr : n ≤ r.size := by omega
  have zt : (t.extract 0 n).size = n := by rw [ByteArray.size_extract]; omega
  have zr : (r.extract 0 n).size = n := by rw [ByteArray.size_extract]; omega
  have bx : ∀ (u : ByteArray) i, n ≤ u.size → i < n → bt (u.extract 0 n) i = bt u i := fun u i hu hi => by
    rw [bt_extract u 0 n i hu, if_pos (by omega), Nat.zero_add]
  have bo : ∀ (u : ByteArray) i, n ≤ u.size → n ≤ i → bt (u.extract 0 n) i = 0 := fun u i hu hi => by
    rw [bt_extract u 0 n i hu, if_neg (by omega)]
  have hdiff : ∀ i, (i < 2 * 5 ∨ 2 * 5 + 2 ≤ i) → bt (r.extract 0 n) i = bt (t.extract 0 n) i := fun i hi => by
    by_cases hin : i < n
    · rw [bx r i hnr hin, bx t i hnt hin]; exact (hsame i (by omega)).symm
    · rw [bo r i hnr (by omega), bo t i hnt (by omega)]
  obtain ⟨z, hz⟩ := sumN_turn hdiff ((n + 1) / 2) (by omega)
  have st : sumN (bt (t.extract 0 n)) ((n + 1) / 2) = 65535 := by have := t7; unfold sumV at this; rw [zt] at this; exact this
  have sr : sumN (bt (r.extract 0 n)) ((n + 1) / 2) = 65535 := by have := r7; unfold sumV at this; rw [zr] at this; exact this
  rw [st, sr] at hz
  unfold wordN at hz
  rw [bx r _ hnr (by omega), bx r _ hnr (by omega), bx t _ hnt (by omega), bx t _ hnt (by omega)] at hz
  simp only [Nat.reduceMul, Nat.reduceAdd] at hz
  have c10 := hbt 10
  have c10' := hbr 10
  have c11 := hbt 11
  have c11' := hbr 11
  rcases hk10 with hk' | hk'
  · have s11 := hsame 11 (by omega)
    rw [hk'] at hne
    omega
  · have s10 := hsame 10 (by omega)
    rw [hk'] at hne
    omega

theorem v4Raw_size (p : P4) : 12 ≤ (v4Raw p).size := by unfold v4Raw headA; simp only [ByteArray.size_append, pairV_size, twoV_size]; omega
theorem v4_empty (p : P4) : (v4BytesV p = ⟨#[]⟩) ↔ v4Ok p = false := by
  unfold v4BytesV
  cases h : v4Ok p with
  | false => simp
  | true =>
    simp only [if_true, Bool.true_eq_false, iff_false]
    intro e
    have := v4Raw_size p
    rw [e] at this
    exact absurd this (by decide)
theorem v6Raw_size (p : P6) : 8 ≤ (v6Raw p).size := by unfold v6Raw; simp only [ByteArray.size_append, pairV_size, twoV_size]; omega
theorem v6_empty (p : P6) : (v6BytesV p = ⟨#[]⟩) ↔ v6Ok p = false := by
  unfold v6BytesV
  cases h : v6Ok p with
  | false => simp
  | true =>
    simp only [if_true, Bool.true_eq_false, iff_false]
    intro e
    have := v6Raw_size p
    rw [e] at this
    exact absurd this (by decide)

end Go.Proofs.Ytaoolicfjpaggaa
