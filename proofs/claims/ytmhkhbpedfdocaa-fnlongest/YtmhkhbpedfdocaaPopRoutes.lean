/- The table of routes: plain mathematics: it finds what the routes tell; nothing of the program. -/
import Derived.Test.YtmhkhbpedfdocaaPopMath
import Derived.Test.YtmhkhbpedfdocaaPrefix
import Derived.Test.YtmhkhbpedfdocaaText
namespace Go.Proofs.Ytmhkhbpedfdocaa
open Go.RowKit Go.PlainAid
set_option linter.unusedVariables false
set_option linter.unusedSimpArgs false

theorem sameN_iff0 (f g : Nat → Int) : ∀ n k, sameN f g k n = true ↔ ∀ i, i < n → bitN f (k + i) = bitN g (k + i)
  | 0, k => by simp [sameN]
  | n + 1, k => by
    have ih := sameN_iff0 f g n (k + 1)
    unfold sameN
    rw [Bool.and_eq_true, beq_iff_eq, ih]
    constructor
    · rintro ⟨h0, h⟩ i hi
      cases i with
      | zero => simpa using h0
      | succ i => have := h i (by omega); rwa [show k + (i + 1) = k + 1 + i by omega]
    · intro h
      exact ⟨by simpa using h 0 (by omega), fun i hi => by have := h (i + 1) (by omega); rwa [show k + (i + 1) = k + 1 + i by omega] at this⟩

theorem hasV_iff (p : ByteArray) (b : Int) (a : ByteArray) : hasV p b a = true ↔ a.size = p.size ∧ ∀ i : Nat, (i : Int) < b → bitN (bt p) i = bitN (bt a) i := by
  unfold hasV
  rw [Bool.and_eq_true, decide_eq_true_iff, sameN_iff0]
  constructor
  · rintro ⟨h1, h2⟩; exact ⟨h1, fun i hi => by have := h2 i (by omega); simpa using this⟩
  · rintro ⟨h1, h2⟩; exact ⟨h1, fun i hi => by have := h2 i (by omega); simpa using this⟩

/-- The fours of an address. -/
def nibA (a : ByteArray) (j : Nat) : Nat := if j % 2 = 0 then (bt a (j / 2)).toNat / 16 else (bt a (j / 2)).toNat % 16

theorem nibA_lt (a : ByteArray) (j : Nat) : nibA a j < 16 := by
  have h0 := bt_nonneg a (j / 2); have h1 := bt_le a (j / 2)
  unfold nibA; split <;> omega

theorem bit_nib (a : ByteArray) (k : Nat) : bitN (bt a) k = ((nibA a (k / 4) / 2 ^ (3 - k % 4) % 2 : Nat) : Int) := by
  have h0 := bt_nonneg a (k / 8); have h1 := bt_le a (k / 8)
  unfold bitN nibA
  rw [show k / 4 / 2 = k / 8 by omega]
  obtain ⟨x, hx⟩ := Int.eq_ofNat_of_zero_le h0
  rw [hx] at h1 ⊢
  have hk : k % 8 = 0 ∨ k % 8 = 1 ∨ k % 8 = 2 ∨ k % 8 = 3 ∨ k % 8 = 4 ∨ k % 8 = 5 ∨ k % 8 = 6 ∨ k % 8 = 7 := by omega
  rcases hk with h | h | h | h | h | h | h | h
  · rw [h, if_pos (by omega), show k % 4 = 0 by omega]; simp <;> omega
  · rw [h, if_pos (by omega), show k % 4 = 1 by omega]; simp <;> omega
  · rw [h, if_pos (by omega), show k % 4 = 2 by omega]; simp <;> omega
  · rw [h, if_pos (by omega), show k % 4 = 3 by omega]; simp <;> omega
  · rw [h, if_neg (by omega), show k % 4 = 0 by omega]; simp <;> omega
  · rw [h, if_neg (by omega), show k % 4 = 1 by omega]; simp <;> omega
  · rw [h, if_neg (by omega), show k % 4 = 2 by omega]; simp <;> omega
  · rw [h, if_neg (by omega), show k % 4 = 3 by omega]; simp <;> omega

/-- The first 4 m bits are the same just if the first m fours are. -/
theorem bits_nibs (p a : ByteArray) (m : Nat) : (∀ i : Nat, i < 4 * m → bitN (bt p) i = bitN (bt a) i) ↔ ∀ j, j < m → nibA p j = nibA a j := by
  constructor
  · intro h j hj
    have l1 := nibA_lt p j; have l2 := nibA_lt a j
    have b0 := h (4 * j) (by omega); have b1 := h (4 * j + 1) (by omega); have b2 := h (4 * j + 2) (by omega); have b3 := h (4 * j + 3) (by omega)
    rw [bit_nib, bit_nib] at b0 b1 b2 b3
    rw [show 4 * j / 4 = j by omega, show 4 * j % 4 = 0 by omega] at b0
    rw [show (4 * j + 1) / 4 = j by omega, show (4 * j + 1) % 4 = 1 by omega] at b1
    rw [show (4 * j + 2) / 4 = j by omega, show (4 * j + 2) % 4 = 2 by omega] at b2
    rw [show (4 * j + 3) / 4 = j by omega, show (4 * j + 3) % 4 = 3 by omega] at b3
    simp at b0 b1 b2 b3
    omega
  · intro h i hi
    rw [bit_nib, bit_nib, h (i / 4) (by omega)]

/-- The fours of a row of d fours that are the number v; 0 behind. -/
def nibR (r : Nat × Nat) (j : Nat) : Nat := if j < r.1 then r.2 / 16 ^ (r.1 - 1 - j) % 16 else 0
/-- The address of n bytes of a row. -/
def rowA (n : Nat) (r : Nat × Nat) : ByteArray := ofL ((List.range n).map fun j => UInt8.ofNat (16 * nibR r (2 * j) + nibR r (2 * j + 1)))

theorem nibR_lt (r : Nat × Nat) (j : Nat) : nibR r j < 16 := by unfold nibR; split <;> omega

theorem rowA_size (n : Nat) (r : Nat × Nat) : (rowA n r).size = n := by unfold rowA; rw [ofL_size]; simp

theorem bt_ofL (l : List UInt8) (j : Nat) (h : j < l.length) : bt (ofL l) j = ((l[j]).toNat : Int) := by
  unfold bt
  rw [dif_pos (by rw [ofL_size]; exact h)]
  simp [ofL]
  rfl

theorem rowA_bt (n : Nat) (r : Nat × Nat) (j : Nat) (h : j < n) : bt (rowA n r) j = ((16 * nibR r (2 * j) + nibR r (2 * j + 1) : Nat) : Int) := by
  have h1 := nibR_lt r (2 * j); have h2 := nibR_lt r (2 * j + 1)
  unfold rowA
  rw [bt_ofL _ _ (by simpa using h), List.getElem_map, List.getElem_range, UInt8.toNat_ofNat']
  omega

theorem nibA_row (n : Nat) (r : Nat × Nat) (j : Nat) (h : j < 2 * n) : nibA (rowA n r) j = nibR r j := by
  have h1 := nibR_lt r (2 * (j / 2)); have h2 := nibR_lt r (2 * (j / 2) + 1)
  unfold nibA
  rw [rowA_bt n r (j / 2) (by omega), Int.toNat_natCast]
  by_cases e : j % 2 = 0
  · have ej : 2 * (j / 2) = j := by omega
    rw [if_pos e]
    rw [ej] at h1 h2 ⊢
    omega
  · have ej : 2 * (j / 2) + 1 = j := by omega
    rw [if_neg e]
    rw [ej] at h2 ⊢
    omega

/-- A number of d fours and its fours. -/
theorem preN_lt (nib : Nat → Nat) (h : ∀ j, nib j < 16) : ∀ d, preN nib d < 16 ^ d
  | 0 => by simp [preN]
  | d + 1 => by have := preN_lt nib h d; have := h d; unfold preN; rw [Nat.pow_succ]; omega

theorem preN_nib (nib : Nat → Nat) (h : ∀ j, nib j < 16) : ∀ d j, j < d → preN nib d / 16 ^ (d - 1 - j) % 16 = nib j
  | 0, j, hj => by omega
  | d + 1, j, hj => by
    unfold preN
    by_cases e : j = d
    · subst e; have := h j; simp; omega
    · obtain ⟨c, hc⟩ : ∃ c, d + 1 - 1 - j = c + 1 := ⟨d - j - 1, by omega⟩
      have ih := preN_nib nib h d j (by omega)
      rw [hc, Nat.pow_succ, Nat.mul_comm (16 ^ c) 16, ← Nat.div_div_eq_div_mul]
      have := h d
      rw [show (16 * preN nib d + nib d) / 16 = preN nib d by omega, show c = d - 1 - j by omega]
      exact ih

theorem preN_congr (f g : Nat → Nat) : ∀ d, (∀ j, j < d → f j = g j) → preN f d = preN g d
  | 0, _ => rfl
  | d + 1, h => by unfold preN; rw [preN_congr f g d (fun j hj => h j (by omega)), h d (by omega)]

theorem nibR_pre (nib : Nat → Nat) (h : ∀ j, nib j < 16) (d j : Nat) (hj : j < d) : nibR (d, preN nib d) j = nib j := by
  unfold nibR; rw [if_pos hj]; exact preN_nib nib h d j hj

theorem pre_nibR : ∀ (d v : Nat), v < 16 ^ d → preN (nibR (d, v)) d = v := by
  intro d
  induction d with
  | zero => intro v h; simp at h; subst h; rfl
  | succ d ih =>
    intro v h
    unfold preN
    have e1 : preN (nibR (d + 1, v)) d = preN (nibR (d, v / 16)) d := preN_congr _ _ _ (fun j hj => by
      unfold nibR
      simp only []
      rw [if_pos (by omega), if_pos hj]
      obtain ⟨c, hc⟩ : ∃ c, d + 1 - 1 - j = c + 1 := ⟨d - j - 1, by omega⟩
      rw [hc, Nat.pow_succ, Nat.mul_comm (16 ^ c) 16, ← Nat.div_div_eq_div_mul, show c = d - 1 - j by omega])
    have e2 : nibR (d + 1, v) d = v % 16 := by unfold nibR; rw [if_pos (by simp)]; simp
    rw [e1, e2, ih (v / 16) (by rw [Nat.pow_succ] at h; omega)]
    omega

/-- A route. -/
structure Rt where
  addr : ByteArray
  bits : Int
  hop : Int

def routeOk (q : Rt) : Bool := prefixOk q.addr q.bits && decide (1 ≤ q.hop) && decide (q.hop ≤ 1000)

/-- The hop and the bits of the first route of the most bits with p, behind what is known. -/
def bestV (p : Rt → Bool) : List Rt → Int × Int → Int × Int
  | [], s => s
  | q :: l, s => bestV p l (if decide (s.2 < q.bits) && p q then (q.hop, q.bits) else s)

/-- The hop of the longest prefix that has an address. -/
def findV (l : List Rt) (a : ByteArray) : Int := (bestV (fun q => hasV q.addr q.bits a) l (0, -1)).1

theorem bestV_congr {p p' : Rt → Bool} : ∀ (l : List Rt) (s : Int × Int), (∀ q ∈ l, p q = p' q) → bestV p l s = bestV p' l s
  | [], _, _ => rfl
  | q :: l, s, h => by
    unfold bestV
    rw [h q (by simp)]
    exact bestV_congr l _ (fun x hx => h x (by simp [hx]))

theorem bestV_range {p : Rt → Bool} : ∀ (l : List Rt) (s : Int × Int), (∀ q ∈ l, routeOk q = true) → 0 ≤ s.1 → s.1 ≤ 1000 → 0 ≤ (bestV p l s).1 ∧ (bestV p l s).1 ≤ 1000
  | [], s, _, h0, h1 => ⟨h0, h1⟩
  | q :: l, s, h, h0, h1 => by
    unfold bestV
    have hq := h q (by simp)
    simp only [routeOk, Bool.and_eq_true, decide_eq_true_iff] at hq
    refine bestV_range l _ (fun x hx => h x (by simp [hx])) ?_ ?_
    · split
      · show 0 ≤ q.hop; omega
      · exact h0
    · split
      · show q.hop ≤ 1000; omega
      · exact h1

section
variable (n : Nat) (l : List Rt)

/-- Has a place a kid? -/
def kidV (r : Nat × Nat) (k : Nat) : Bool := decide (r.2 < 16 ^ r.1) && l.any (fun q => decide (q.addr.size = n) && decide (4 * (r.1 : Int) + 4 < q.bits) && hasV q.addr (4 * (r.1 : Int) + 4) (rowA n (kidRow r k)))
/-- The value of a place. -/
def valV (r : Nat × Nat) (k : Nat) : Int := (bestV (fun q => decide (q.addr.size = n) && decide (q.bits ≤ 4 * (r.1 : Int) + 4) && hasV q.addr q.bits (rowA n (kidRow r k))) l (0, -1)).1

def allRows : List (Nat × Nat) := l.flatMap fun q => (List.range (2 * n - 1)).map fun d => (d + 1, preN (nibA q.addr) (d + 1))

theorem allRows_length : (allRows n l).length = l.length * (2 * n - 1) := by
  unfold allRows
  induction l with
  | nil => simp
  | cons q l ih => rw [List.flatMap_cons, List.length_append, ih]; simp [Nat.succ_mul, Nat.add_comm]

theorem has_row {n : Nat} {p : ByteArray} {r : Nat × Nat} {m : Nat} (hm : m ≤ 2 * n) (h : hasV p (4 * (m : Int)) (rowA n r) = true) : ∀ j, j < m → nibA p j = nibR r j := by
  rw [hasV_iff] at h
  have h2 := (bits_nibs p (rowA n r) m).1 (fun i hi => h.2 i (by omega))
  intro j hj
  rw [h2 j hj, nibA_row n r j (by omega)]

theorem kid_in (hl : ∀ q ∈ l, routeOk q = true) (r : Nat × Nat) (k : Nat) (hk : k < 16) (h : kidV n l r k = true) : kidRow r k ∈ allRows n l := by
  unfold kidV at h
  rw [Bool.and_eq_true, decide_eq_true_iff, List.any_eq_true] at h
  obtain ⟨hv, q, hq, hh⟩ := h
  simp only [Bool.and_eq_true, decide_eq_true_iff] at hh
  obtain ⟨⟨hs, hb⟩, hh⟩ := hh
  have hok := hl q hq
  simp only [routeOk, Bool.and_eq_true, decide_eq_true_iff] at hok
  have hle := prefixOk_le hok.1.1
  have hd : r.1 + 1 ≤ 2 * n - 1 := by omega
  have hnib := has_row (n := n) (m := r.1 + 1) (by omega) (by rw [show 4 * ((r.1 + 1 : Nat) : Int) = 4 * (r.1 : Int) + 4 by omega]; exact hh)
  have hpre : preN (nibA q.addr) (r.1 + 1) = 16 * r.2 + k := by
    rw [preN_congr _ _ _ hnib]
    exact pre_nibR (r.1 + 1) (16 * r.2 + k) (by rw [Nat.pow_succ]; omega)
  unfold allRows
  rw [List.mem_flatMap]
  refine ⟨q, hq, ?_⟩
  rw [List.mem_map]
  exact ⟨r.1, List.mem_range.2 (by omega), by rw [hpre]; rfl⟩

theorem val_range (hl : ∀ q ∈ l, routeOk q = true) (r : Nat × Nat) (k : Nat) : 0 ≤ valV n l r k ∧ valV n l r k ≤ 1000 := bestV_range l (0, -1) hl (by simp) (by simp)

/-- The table of the routes of n bytes. -/
def popT : Tb := tbRun (kidV n l) (valV n l) (l.length * (2 * n - 1) + 1) ⟨[(0, 0)], [], []⟩

theorem popT_ok (hl : ∀ q ∈ l, routeOk q = true) : TbOk (kidV n l) (valV n l) (popT n l) ∧ TbSort (allRows n l) (popT n l) ∧ (popT n l).nodes.length = (popT n l).rows.length := by
  refine tbRun_ok (kidV n l) (valV n l) (S := allRows n l) (fun r k hk h => kid_in n l hl r k hk h) _ _ (TbOk.start _ _) (TbSort.start _) ?_
  rw [allRows_length]
  simp

theorem popT_len (hl : ∀ q ∈ l, routeOk q = true) (hn : n = 4 ∨ n = 16) (hm : l.length ≤ 100) : 1 ≤ (popT n l).nodes.length ∧ (popT n l).nodes.length ≤ 3101 := by
  obtain ⟨h1, h2, h3⟩ := popT_ok n l hl
  have hlen := h2.length
  rw [allRows_length] at hlen
  have hr := h1.root
  have hpos : 0 < (popT n l).rows.length := by
    by_cases e : 0 < (popT n l).rows.length
    · exact e
    · rw [List.getElem?_eq_none (by omega)] at hr; simp at hr
  have hb : l.length * (2 * n - 1) ≤ 100 * 31 := by
    rcases hn with rfl | rfl
    · calc l.length * (2 * 4 - 1) ≤ 100 * (2 * 4 - 1) := Nat.mul_le_mul_right _ hm
        _ ≤ 100 * 31 := by omega
    · exact Nat.mul_le_mul_right _ hm
  omega

theorem agree_has {p a b : ByteArray} {c : Int} {m : Nat} (hs : a.size = b.size) (hab : ∀ j, j < m → nibA a j = nibA b j) (hc : c ≤ 4 * (m : Int)) : hasV p c a = hasV p c b := by
  have hbits := (bits_nibs a b m).2 hab
  rw [Bool.eq_iff_iff, hasV_iff, hasV_iff, hs]
  constructor
  · rintro ⟨h1, h2⟩; exact ⟨h1, fun i hi => by rw [h2 i hi]; exact hbits i (by omega)⟩
  · rintro ⟨h1, h2⟩; exact ⟨h1, fun i hi => by rw [h2 i hi]; exact (hbits i (by omega)).symm⟩

/-- The table finds what the routes tell. -/
theorem popT_find (hl : ∀ q ∈ l, routeOk q = true) (hn : 0 < n) (x : ByteArray) (hx : x.size = n) : tbFind (popT n l) (nibA x) (2 * n) 0 0 = findV l x := by
  obtain ⟨h1, _, h3⟩ := popT_ok n l hl
  refine tbFind_ok (kidV n l) (valV n l) h1 h3 (fun r k => by have := val_range n l hl r k; omega) (nibA x) (nibA_lt x) (2 * n - 1) ?_ _ ?_ (2 * n) 0 0 (by omega) (by omega) h1.root
  · intro v k
    unfold kidV
    rw [Bool.and_eq_false_iff]
    right
    rw [List.any_eq_false]
    intro q hq
    have hok := hl q hq
    simp only [routeOk, Bool.and_eq_true, decide_eq_true_iff] at hok
    have hle := prefixOk_le hok.1.1
    simp only [Bool.and_eq_true, decide_eq_true_iff]
    rintro ⟨⟨hs, hb⟩, _⟩
    omega
  · intro d hk
    unfold valV findV
    congr 1
    refine bestV_congr l _ (fun q hq => ?_)
    have hok := hl q hq
    simp only [routeOk, Bool.and_eq_true, decide_eq_true_iff] at hok
    have hle := prefixOk_le hok.1.1
    have hrow : kidRow (d, preN (nibA x) d) (nibA x d) = (d + 1, preN (nibA x) (d + 1)) := rfl
    rw [hrow]
    by_cases hd : d + 1 ≤ 2 * n
    · have hag : ∀ j, j < d + 1 → nibA (rowA n (d + 1, preN (nibA x) (d + 1))) j = nibA x j := fun j hj => by
        rw [nibA_row n _ j (by omega)]
        exact nibR_pre (nibA x) (nibA_lt x) (d + 1) j hj
      by_cases hb : q.bits ≤ 4 * (d : Int) + 4
      · rw [agree_has (p := q.addr) (c := q.bits) (m := d + 1) (show (rowA n (d + 1, preN (nibA x) (d + 1))).size = x.size by rw [rowA_size, hx]) hag (by omega)]
        by_cases hs : q.addr.size = n
        · simp [hs, hb]
        · have : hasV q.addr q.bits x = false := by
            rw [Bool.eq_false_iff]; intro hh; rw [hasV_iff] at hh; omega
          simp [this]
      · have hfalse : hasV q.addr q.bits x = false := by
          rw [Bool.eq_false_iff]
          intro hh
          rw [hasV_iff] at hh
          have hkk : kidV n l (d, preN (nibA x) d) (nibA x d) = true := by
            unfold kidV
            rw [Bool.and_eq_true, decide_eq_true_iff, List.any_eq_true]
            refine ⟨preN_lt _ (nibA_lt x) d, q, hq, ?_⟩
            simp only [Bool.and_eq_true, decide_eq_true_iff]
            refine ⟨⟨by omega, by omega⟩, ?_⟩
            rw [hrow, agree_has (p := q.addr) (c := 4 * (d : Int) + 4) (m := d + 1) (show (rowA n (d + 1, preN (nibA x) (d + 1))).size = x.size by rw [rowA_size, hx]) hag (by omega), hasV_iff]
            exact ⟨hh.1, fun i hi => hh.2 i (by omega)⟩
          rw [hkk] at hk; simp at hk
        have : decide (q.bits ≤ 4 * (d : Int) + 4) = false := by simpa using hb
        simp [this, hfalse]
    · have hb : q.addr.size = n → q.bits ≤ 4 * (d : Int) + 4 := fun e => by omega
      have hag : ∀ j, j < 2 * n → nibA (rowA n (d + 1, preN (nibA x) (d + 1))) j = nibA x j := fun j hj => by
        rw [nibA_row n _ j (by omega)]
        exact nibR_pre (nibA x) (nibA_lt x) (d + 1) j (by omega)
      by_cases hs : q.addr.size = n
      · rw [agree_has (p := q.addr) (c := q.bits) (m := 2 * n) (show (rowA n (d + 1, preN (nibA x) (d + 1))).size = x.size by rw [rowA_size, hx]) hag (by omega)]
        simp [hs, hb hs]
      · have : hasV q.addr q.bits x = false := by
          rw [Bool.eq_false_iff]; intro hh; rw [hasV_iff] at hh; omega
        simp [this, hs]
end

end Go.Proofs.Ytmhkhbpedfdocaa
