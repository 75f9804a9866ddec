/- A table by sixteens: plain mathematics: masks and counts, the table row by row, what is found in it, how many rows there are, that it is right; nothing of the program. -/
import Derived.WalkKit
import Derived.PlainAid
namespace Go.Proofs.Ytmhkhbpedfdocaa
open Go.RowKit Go.PlainAid
set_option linter.unusedVariables false
set_option linter.unusedSimpArgs false

/-- The number whose bits below n are p's. -/
def maskOf (p : Nat → Bool) : Nat → Nat
  | 0 => 0
  | n + 1 => maskOf p n + if p n then 2 ^ n else 0
/-- How many below n. -/
def cntOf (p : Nat → Bool) : Nat → Nat
  | 0 => 0
  | n + 1 => cntOf p n + if p n then 1 else 0
/-- How many of the bits below b are 1. -/
def cntMask (m : Nat) : Nat → Nat
  | 0 => 0
  | b + 1 => cntMask m b + m / 2 ^ b % 2

theorem maskOf_lt (p : Nat → Bool) : ∀ n, maskOf p n < 2 ^ n
  | 0 => by simp [maskOf]
  | n + 1 => by
    have := maskOf_lt p n
    unfold maskOf
    rw [Nat.pow_succ]
    split <;> omega

theorem maskOf_bit (p : Nat → Bool) : ∀ n j, maskOf p n / 2 ^ j % 2 = if j < n ∧ p j = true then 1 else 0
  | 0, j => by simp [maskOf]
  | n + 1, j => by
    have ih := maskOf_bit p n j
    have hlt := maskOf_lt p n
    unfold maskOf
    by_cases hj : j < n
    · have e : (maskOf p n + if p n then 2 ^ n else 0) / 2 ^ j % 2 = maskOf p n / 2 ^ j % 2 := by
        split
        · obtain ⟨c, hc⟩ : ∃ c, n = j + 1 + c := ⟨n - (j + 1), by omega⟩
          have e2 : 2 ^ n = 2 ^ j * (2 * 2 ^ c) := by rw [hc, Nat.pow_add, Nat.pow_succ, Nat.mul_assoc]
          rw [e2, Nat.add_mul_div_left _ _ (Nat.two_pow_pos j), Nat.add_mul_mod_self_left]
        · rfl
      rw [e, ih]
      by_cases hp : p j = true
      · rw [if_pos ⟨hj, hp⟩, if_pos ⟨by omega, hp⟩]
      · rw [if_neg (fun h => hp h.2), if_neg (fun h => hp h.2)]
    · by_cases hjn : j = n
      · subst hjn
        by_cases hp : p j = true
        · rw [if_pos hp, if_pos ⟨by omega, hp⟩]
          have e2 : (maskOf p j + 2 ^ j) / 2 ^ j = 1 := by
            rw [Nat.add_div_right _ (Nat.two_pow_pos j), Nat.div_eq_of_lt hlt]
          rw [e2]
        · rw [if_neg hp, if_neg (fun h => hp h.2), Nat.add_zero, Nat.div_eq_of_lt hlt]
      · have hb : (maskOf p n + if p n then 2 ^ n else 0) < 2 ^ j := by
          have h1 : maskOf p (n + 1) < 2 ^ (n + 1) := maskOf_lt p (n + 1)
          have h2 : 2 ^ (n + 1) ≤ 2 ^ j := Nat.pow_le_pow_right (by omega) (by omega)
          exact Nat.lt_of_lt_of_le h1 h2
        rw [Nat.div_eq_of_lt hb, if_neg (by omega)]

theorem cntMask_of (p : Nat → Bool) (n : Nat) : ∀ b, b ≤ n → cntMask (maskOf p n) b = cntOf p b
  | 0, _ => rfl
  | b + 1, h => by
    unfold cntMask cntOf
    rw [cntMask_of p n b (by omega), maskOf_bit]
    by_cases hp : p b = true
    · rw [if_pos ⟨by omega, hp⟩, if_pos hp]
    · rw [if_neg (fun h => hp h.2), if_neg hp]

theorem cntOf_mono (p : Nat → Bool) : ∀ a b, a ≤ b → cntOf p a ≤ cntOf p b := by
  intro a b h
  induction b with
  | zero => rw [show a = 0 by omega]; exact Nat.le_refl _
  | succ b ih =>
    by_cases e : a = b + 1
    · rw [e]; exact Nat.le_refl _
    · have := ih (by omega)
      show _ ≤ cntOf p b + _
      omega

/-- The places below n with p, in order, as f tells them. -/
def pick {α : Type} (p : Nat → Bool) (f : Nat → α) : Nat → List α
  | 0 => []
  | n + 1 => pick p f n ++ if p n then [f n] else []

theorem pick_length {α : Type} (p : Nat → Bool) (f : Nat → α) : ∀ n, (pick p f n).length = cntOf p n
  | 0 => rfl
  | n + 1 => by
    unfold pick cntOf
    rw [List.length_append, pick_length p f n]
    split <;> simp

theorem pick_prefix {α : Type} (p : Nat → Bool) (f : Nat → α) (a : Nat) : ∀ b, a ≤ b → ∃ r, pick p f b = pick p f a ++ r := by
  intro b h
  induction b with
  | zero => rw [show a = 0 by omega]; exact ⟨[], by simp⟩
  | succ b ih =>
    by_cases e : a = b + 1
    · rw [e]; exact ⟨[], by simp⟩
    · obtain ⟨r, hr⟩ := ih (by omega)
      exact ⟨r ++ if p b then [f b] else [], by show pick p f b ++ _ = _; rw [hr, List.append_assoc]⟩

theorem pick_get {α : Type} (p : Nat → Bool) (f : Nat → α) (n k : Nat) (hk : k < n) (hp : p k = true) : (pick p f n)[cntOf p k]? = some (f k) := by
  obtain ⟨r, hr⟩ := pick_prefix p f (k + 1) n (by omega)
  rw [hr]
  have e : pick p f (k + 1) = pick p f k ++ [f k] := by show pick p f k ++ _ = _; rw [if_pos hp]
  rw [e, List.append_assoc, List.getElem?_append_right (by rw [pick_length]; exact Nat.le_refl _), pick_length, Nat.sub_self]
  rfl

/-- The value of the last place without a kid below j; -1, if there is none. -/
def lastV (kid : Nat → Bool) (val : Nat → Int) : Nat → Int
  | 0 => -1
  | j + 1 => if kid j then lastV kid val j else val j
def leafAt (kid : Nat → Bool) (val : Nat → Int) (j : Nat) : Bool := !kid j && val j != lastV kid val j

theorem last_pick (kid : Nat → Bool) (val : Nat → Int) : ∀ j, (pick (leafAt kid val) val j = [] ∧ lastV kid val j = -1) ∨ (pick (leafAt kid val) val j).getLast? = some (lastV kid val j)
  | 0 => .inl ⟨rfl, rfl⟩
  | j + 1 => by
    have ih := last_pick kid val j
    show (pick _ _ j ++ _ = [] ∧ _) ∨ (pick _ _ j ++ _).getLast? = _
    by_cases hk : kid j = true
    · have hl : leafAt kid val j = false := by simp [leafAt, hk]
      have e : lastV kid val (j + 1) = lastV kid val j := if_pos hk
      rw [e, hl]
      simpa using ih
    · have e : lastV kid val (j + 1) = val j := if_neg hk
      rw [e]
      by_cases hv : val j = lastV kid val j
      · have hl : leafAt kid val j = false := by simp [leafAt, hv]
        rw [hl]
        rw [hv]
        simpa using ih
      · have hl : leafAt kid val j = true := by simp [leafAt, hv]; simpa using hk
        rw [hl]
        right
        simp

/-- What stands at a place without a kid. -/
theorem leaf_get (kid : Nat → Bool) (val : Nat → Int) (n k : Nat) (hk : k < n) (hn : kid k = false) (hv : ∀ j, val j ≠ -1) : 1 ≤ cntOf (leafAt kid val) (k + 1) ∧ (pick (leafAt kid val) val n)[cntOf (leafAt kid val) (k + 1) - 1]? = some (val k) := by
  have h := last_pick kid val (k + 1)
  have e : lastV kid val (k + 1) = val k := by unfold lastV; rw [if_neg (by rw [hn]; simp)]
  rw [e] at h
  have h2 : (pick (leafAt kid val) val (k + 1)).getLast? = some (val k) := by
    rcases h with ⟨_, h⟩ | h
    · exact absurd h (hv k)
    · exact h
  have hlen : 1 ≤ cntOf (leafAt kid val) (k + 1) := by
    rw [← pick_length (leafAt kid val) val]
    cases hp : pick (leafAt kid val) val (k + 1) with
    | nil => rw [hp] at h2; simp at h2
    | cons a r => simp
  refine ⟨hlen, ?_⟩
  obtain ⟨r, hr⟩ := pick_prefix (leafAt kid val) val (k + 1) n (by omega)
  rw [hr, List.getElem?_append_left (by rw [pick_length]; omega)]
  rw [List.getLast?_eq_getElem?, pick_length] at h2
  exact h2

/-- The first place without a kid has a leaf. -/
theorem first_leaf (kid : Nat → Bool) (val : Nat → Int) (j : Nat) (hn : kid j = false) (hb : ∀ i, i < j → kid i = true) (hv : ∀ j, val j ≠ -1) : leafAt kid val j = true := by
  have : ∀ i, i ≤ j → lastV kid val i = -1 := by
    intro i
    induction i with
    | zero => intro _; rfl
    | succ i ih => intro h; unfold lastV; rw [if_pos (hb i (by omega))]; exact ih (by omega)
  simp [leafAt, hn, this j (Nat.le_refl _), hv j]

/-- A node of the table. -/
structure Nd where
  kids : Nat
  leaf : Nat
  base : Nat
  leafs : Nat

/-- The table so far: the rows of bits (how many fours, their number), the nodes, the leaves. -/
structure Tb where
  rows : List (Nat × Nat)
  nodes : List Nd
  leaves : List Int

section
variable (kid : Nat × Nat → Nat → Bool) (val : Nat × Nat → Nat → Int)

def nodeOf (r : Nat × Nat) (r0 l0 : Nat) : Nd :=
  ⟨maskOf (kid r) 16, maskOf (leafAt (kid r) (val r)) 16, if cntOf (kid r) 16 = 0 then 0 else r0, if cntOf (leafAt (kid r) (val r)) 16 = 0 then 0 else l0⟩

def kidRow (r : Nat × Nat) (k : Nat) : Nat × Nat := (r.1 + 1, 16 * r.2 + k)

/-- One row more is gone through. -/
def tbStep (t : Tb) (r : Nat × Nat) : Tb :=
  ⟨t.rows ++ pick (kid r) (kidRow r) 16, t.nodes ++ [nodeOf kid val r t.rows.length t.leaves.length], t.leaves ++ pick (leafAt (kid r) (val r)) (val r) 16⟩

/-- What is known of the node of the number i. -/
structure NodeAt (t : Tb) (i : Nat) : Prop where
  ex : ∃ r r0 l0 rr ll, t.rows[i]? = some r ∧ t.nodes[i]? = some (nodeOf kid val r r0 l0) ∧ i < r0 ∧ t.rows = rr ∧ t.leaves = ll ∧
    (∀ j x, (pick (kid r) (kidRow r) 16)[j]? = some x → t.rows[r0 + j]? = some x) ∧ (∀ j x, (pick (leafAt (kid r) (val r)) (val r) 16)[j]? = some x → t.leaves[l0 + j]? = some x) ∧
    r0 + cntOf (kid r) 16 ≤ t.rows.length ∧ l0 + cntOf (leafAt (kid r) (val r)) 16 ≤ t.leaves.length

theorem get_app {α : Type} {a b : List α} {i : Nat} {x : α} (h : a[i]? = some x) : (a ++ b)[i]? = some x := by
  have hl : i < a.length := by
    by_cases e : i < a.length
    · exact e
    · rw [List.getElem?_eq_none (by omega)] at h; simp at h
  rw [List.getElem?_append_left hl]; exact h

theorem NodeAt.step {t : Tb} {i : Nat} (h : NodeAt kid val t i) (r : Nat × Nat) : NodeAt kid val (tbStep kid val t r) i := by
  obtain ⟨q, r0, l0, _, _, h1, h2, h3, _, _, h4, h5, h6, h7⟩ := h.ex
  refine ⟨q, r0, l0, _, _, get_app h1, get_app h2, h3, rfl, rfl, fun j x hx => get_app (h4 j x hx), fun j x hx => get_app (h5 j x hx), ?_, ?_⟩
  · show _ ≤ (t.rows ++ _).length; rw [List.length_append]; omega
  · show _ ≤ (t.leaves ++ _).length; rw [List.length_append]; omega

theorem NodeAt.new {t : Tb} {r : Nat × Nat} (hr : t.rows[t.nodes.length]? = some r) : NodeAt kid val (tbStep kid val t r) t.nodes.length := by
  have hlt : t.nodes.length < t.rows.length := by
    by_cases e : t.nodes.length < t.rows.length
    · exact e
    · rw [List.getElem?_eq_none (by omega)] at hr; simp at hr
  refine ⟨r, t.rows.length, t.leaves.length, _, _, get_app hr, ?_, hlt, rfl, rfl, ?_, ?_, ?_, ?_⟩
  · show (t.nodes ++ [_])[t.nodes.length]? = _
    rw [List.getElem?_append_right (Nat.le_refl _), Nat.sub_self]; rfl
  · intro j x hx
    show (t.rows ++ _)[t.rows.length + j]? = _
    rw [List.getElem?_append_right (by omega), show t.rows.length + j - t.rows.length = j by omega]; exact hx
  · intro j x hx
    show (t.leaves ++ _)[t.leaves.length + j]? = _
    rw [List.getElem?_append_right (by omega), show t.leaves.length + j - t.leaves.length = j by omega]; exact hx
  · show _ ≤ (t.rows ++ _).length; rw [List.length_append, pick_length]; exact Nat.le_refl _
  · show _ ≤ (t.leaves ++ _).length; rw [List.length_append, pick_length]; exact Nat.le_refl _

/-- A table all of whose nodes are as they should be. -/
structure TbOk (t : Tb) : Prop where
  nodes : ∀ i, i < t.nodes.length → NodeAt kid val t i
  le : t.nodes.length ≤ t.rows.length
  root : t.rows[0]? = some (0, 0)
  leaves : ∀ x ∈ t.leaves, ∃ r k, x = val r k

theorem TbOk.start : TbOk kid val ⟨[(0, 0)], [], []⟩ := ⟨fun i h => by simp at h, by simp, rfl, by simp⟩

theorem mem_pick {α : Type} (p : Nat → Bool) (f : Nat → α) : ∀ n x, x ∈ pick p f n → ∃ k, k < n ∧ p k = true ∧ x = f k
  | 0, x, h => by simp [pick] at h
  | n + 1, x, h => by
    unfold pick at h
    rcases List.mem_append.1 h with h | h
    · obtain ⟨k, hk, hp, e⟩ := mem_pick p f n x h; exact ⟨k, by omega, hp, e⟩
    · by_cases hp : p n = true
      · rw [if_pos hp] at h; simp at h; exact ⟨n, by omega, hp, h⟩
      · rw [if_neg hp] at h; simp at h

theorem TbOk.step {t : Tb} (h : TbOk kid val t) {r : Nat × Nat} (hr : t.rows[t.nodes.length]? = some r) : TbOk kid val (tbStep kid val t r) := by
  have hlt : t.nodes.length < t.rows.length := by
    by_cases e : t.nodes.length < t.rows.length
    · exact e
    · rw [List.getElem?_eq_none (by omega)] at hr; simp at hr
  refine ⟨fun i hi => ?_, ?_, get_app h.root, ?_⟩
  · have hi' : i < t.nodes.length + 1 := by
      have : (tbStep kid val t r).nodes.length = t.nodes.length + 1 := by show (t.nodes ++ [_]).length = _; simp
      omega
    by_cases e : i = t.nodes.length
    · rw [e]; exact NodeAt.new kid val hr
    · exact (h.nodes i (by omega)).step kid val r
  · show (t.nodes ++ [_]).length ≤ (t.rows ++ _).length
    simp; omega
  · intro x hx
    rcases List.mem_append.1 hx with hx | hx
    · exact h.leaves x hx
    · obtain ⟨k, _, _, e⟩ := mem_pick _ _ _ _ hx; exact ⟨r, k, e⟩

/-- What is found in the table, from the node of the number i on, by the fours of an address from d on. -/
def tbFind (t : Tb) (nib : Nat → Nat) : Nat → Nat → Nat → Int
  | 0, _, _ => 0
  | f + 1, d, i => match t.nodes[i]? with
    | none => 0
    | some x => if x.kids / 2 ^ nib d % 2 = 0 then (t.leaves[x.leafs + cntMask x.leaf (nib d + 1) - 1]?).getD 0 else tbFind t nib f (d + 1) (x.base + cntMask x.kids (nib d))

/-- The number of the first d fours. -/
def preN (nib : Nat → Nat) : Nat → Nat
  | 0 => 0
  | d + 1 => 16 * preN nib d + nib d

theorem tbFind_ok {t : Tb} (h : TbOk kid val t) (hfull : t.nodes.length = t.rows.length) (hval : ∀ r k, val r k ≠ -1) (nib : Nat → Nat) (hnib : ∀ d, nib d < 16) (D : Nat) (hD : ∀ v k, kid (D, v) k = false) (res : Int)
    (hres : ∀ d, kid (d, preN nib d) (nib d) = false → val (d, preN nib d) (nib d) = res) :
    ∀ f d i, d + f = D + 1 → 0 < f → t.rows[i]? = some (d, preN nib d) → tbFind t nib f d i = res
  | 0, d, i, hf, h0, _ => by omega
  | f + 1, d, i, hf, _, hi => by
    have hlt : i < t.rows.length := by
      by_cases e : i < t.rows.length
      · exact e
      · rw [List.getElem?_eq_none (by omega)] at hi; simp at hi
    obtain ⟨r, r0, l0, _, _, h1, h2, h3, _, _, h4, h5, h6, h7⟩ := (h.nodes i (by omega)).ex
    have hr : r = (d, preN nib d) := by rw [hi] at h1; injection h1 with h1; exact h1.symm
    subst hr
    have hn := hnib d
    have hb : (nodeOf kid val (d, preN nib d) r0 l0).kids / 2 ^ nib d % 2 = if nib d < 16 ∧ kid (d, preN nib d) (nib d) = true then 1 else 0 := maskOf_bit _ _ _
    have e0 : tbFind t nib (f + 1) d i = if (nodeOf kid val (d, preN nib d) r0 l0).kids / 2 ^ nib d % 2 = 0 then (t.leaves[(nodeOf kid val (d, preN nib d) r0 l0).leafs + cntMask (nodeOf kid val (d, preN nib d) r0 l0).leaf (nib d + 1) - 1]?).getD 0 else tbFind t nib f (d + 1) ((nodeOf kid val (d, preN nib d) r0 l0).base + cntMask (nodeOf kid val (d, preN nib d) r0 l0).kids (nib d)) := by
      conv => lhs; unfold tbFind
      rw [h2]
    rw [e0]
    by_cases hk : kid (d, preN nib d) (nib d) = true
    · have hc : cntOf (kid (d, preN nib d)) (nib d) < cntOf (kid (d, preN nib d)) 16 := by
        have := cntOf_mono (kid (d, preN nib d)) (nib d + 1) 16 (by omega)
        have e : cntOf (kid (d, preN nib d)) (nib d + 1) = cntOf (kid (d, preN nib d)) (nib d) + 1 := by show _ + _ = _; rw [if_pos hk]
        omega
      have e1 : (nodeOf kid val (d, preN nib d) r0 l0).base = r0 := if_neg (by omega)
      have e2 : cntMask (nodeOf kid val (d, preN nib d) r0 l0).kids (nib d) = cntOf (kid (d, preN nib d)) (nib d) := cntMask_of _ _ _ (by omega)
      rw [if_neg (by rw [hb, if_pos ⟨hn, hk⟩]; omega), e1, e2]
      have hrow := h4 _ _ (pick_get (kid (d, preN nib d)) (kidRow (d, preN nib d)) 16 (nib d) hn hk)
      have hdD : d ≠ D := fun e => by subst e; rw [hD] at hk; simp at hk
      exact tbFind_ok h hfull hval nib hnib D hD res hres f (d + 1) _ (by omega) (by omega) hrow
    · have hk' : kid (d, preN nib d) (nib d) = false := by simpa using hk
      obtain ⟨hc1, hg⟩ := leaf_get (kid (d, preN nib d)) (val (d, preN nib d)) 16 (nib d) hn hk' (hval _)
      have hc16 := cntOf_mono (leafAt (kid (d, preN nib d)) (val (d, preN nib d))) (nib d + 1) 16 (by omega)
      have e1 : (nodeOf kid val (d, preN nib d) r0 l0).leafs = l0 := if_neg (by omega)
      have e2 : cntMask (nodeOf kid val (d, preN nib d) r0 l0).leaf (nib d + 1) = cntOf (leafAt (kid (d, preN nib d)) (val (d, preN nib d))) (nib d + 1) := cntMask_of _ _ _ (by omega)
      have hl := h5 _ _ hg
      rw [if_pos (by rw [hb, if_neg (fun hh => hk hh.2)]), e1, e2, show l0 + cntOf (leafAt (kid (d, preN nib d)) (val (d, preN nib d))) (nib d + 1) - 1 = l0 + (cntOf (leafAt (kid (d, preN nib d)) (val (d, preN nib d))) (nib d + 1) - 1) by omega, hl]
      exact hres d hk'
end

theorem len_of_sub {α : Type} [DecidableEq α] : ∀ (l m : List α), l.Pairwise (· ≠ ·) → (∀ x ∈ l, x ∈ m) → l.length ≤ m.length
  | [], m, _, _ => Nat.zero_le _
  | a :: l, m, hp, hs => by
    have ha : a ∈ m := hs a (by simp)
    have hp' := List.pairwise_cons.1 hp
    have := len_of_sub l (m.erase a) hp'.2 (fun x hx => (List.mem_erase_of_ne (fun e => hp'.1 x hx e.symm)).2 (hs x (by simp [hx])))
    rw [List.length_erase_of_mem ha] at this
    have hpos : 0 < m.length := List.length_pos_of_mem ha
    simp; omega

/-- The order of the rows. -/
def rlt (a b : Nat × Nat) : Prop := a.1 < b.1 ∨ (a.1 = b.1 ∧ a.2 < b.2)

theorem rlt_ne {a b : Nat × Nat} (h : rlt a b) : a ≠ b := by
  intro e; subst e; unfold rlt at h; omega

section
variable (kid : Nat × Nat → Nat → Bool) (val : Nat × Nat → Nat → Int)

structure TbSort (S : List (Nat × Nat)) (t : Tb) : Prop where
  sorted : t.rows.Pairwise rlt
  next : ∀ r, t.rows[t.nodes.length]? = some r → ∀ x ∈ t.rows, x.1 ≤ r.1 + 1 ∧ (x.1 = r.1 + 1 → x.2 < 16 * r.2)
  sub : ∀ x ∈ t.rows, x = (0, 0) ∨ x ∈ S

theorem TbSort.start (S : List (Nat × Nat)) : TbSort S ⟨[(0, 0)], [], []⟩ :=
  ⟨by simp, fun r h x hx => by simp at h hx; subst h hx; simp, by simp⟩

theorem pick_sorted (r : Nat × Nat) (p : Nat → Bool) : ∀ n, (pick p (kidRow r) n).Pairwise rlt
  | 0 => by simp [pick]
  | n + 1 => by
    unfold pick
    rw [List.pairwise_append]
    refine ⟨pick_sorted r p n, ?_, ?_⟩
    · split <;> simp
    · intro a ha b hb
      obtain ⟨k, hk, _, rfl⟩ := mem_pick _ _ _ _ ha
      by_cases hp : p n = true
      · rw [if_pos hp] at hb; simp at hb; subst hb; exact .inr ⟨rfl, by simp [kidRow]; omega⟩
      · rw [if_neg hp] at hb; simp at hb

theorem TbSort.step {S : List (Nat × Nat)} {t : Tb} (h : TbSort S t) (hS : ∀ r k, k < 16 → kid r k = true → kidRow r k ∈ S) {r : Nat × Nat} (hr : t.rows[t.nodes.length]? = some r) : TbSort S (tbStep kid val t r) := by
  have hnx := h.next r hr
  have hnl : (tbStep kid val t r).nodes.length = t.nodes.length + 1 := by show (t.nodes ++ [_]).length = _; simp
  have hsrt : (tbStep kid val t r).rows.Pairwise rlt := by
    show (t.rows ++ _).Pairwise rlt
    rw [List.pairwise_append]
    refine ⟨h.sorted, pick_sorted r _ 16, fun a ha b hb => ?_⟩
    obtain ⟨k, hk, _, rfl⟩ := mem_pick _ _ _ _ hb
    have := hnx a ha
    by_cases e : a.1 = r.1 + 1
    · exact .inr ⟨e, by have := this.2 e; show a.2 < 16 * r.2 + k; omega⟩
    · exact .inl (by show a.1 < r.1 + 1; omega)
  refine ⟨hsrt, fun q hq x hx => ?_, fun x hx => ?_⟩
  · rw [hnl] at hq
    have hlt : t.nodes.length + 1 < (tbStep kid val t r).rows.length := by
      by_cases e : t.nodes.length + 1 < (tbStep kid val t r).rows.length
      · exact e
      · rw [List.getElem?_eq_none (by omega)] at hq; simp at hq
    have hr2 : (tbStep kid val t r).rows[t.nodes.length]? = some r := get_app hr
    have hrq : rlt r q := by
      have := List.pairwise_iff_getElem.1 hsrt t.nodes.length (t.nodes.length + 1) (by omega) hlt (by omega)
      rw [List.getElem?_eq_getElem (by omega)] at hr2
      rw [List.getElem?_eq_getElem hlt] at hq
      injection hr2 with hr2; injection hq with hq
      rw [hr2, hq] at this; exact this
    unfold rlt at hrq
    rcases List.mem_append.1 hx with hx | hx
    · have := hnx x hx
      exact ⟨by omega, fun e => by have := this.2 (by omega); omega⟩
    · obtain ⟨k, hk, _, rfl⟩ := mem_pick _ _ _ _ hx
      simp only [kidRow]
      exact ⟨by omega, fun e => by omega⟩
  · rcases List.mem_append.1 hx with hx | hx
    · exact h.sub x hx
    · obtain ⟨k, hk, hp, rfl⟩ := mem_pick _ _ _ _ hx
      exact .inr (hS r k hk hp)

theorem TbSort.length {S : List (Nat × Nat)} {t : Tb} (h : TbSort S t) : t.rows.length ≤ S.length + 1 := by
  have := len_of_sub t.rows ((0, 0) :: S) (h.sorted.imp rlt_ne) (fun x hx => by rcases h.sub x hx with e | e <;> simp [e])
  simpa using this

/-- The table, gone through as long as there are rows. -/
def tbRun : Nat → Tb → Tb
  | 0, t => t
  | f + 1, t => match t.rows[t.nodes.length]? with
    | none => t
    | some r => tbRun f (tbStep kid val t r)

theorem tbRun_ok {S : List (Nat × Nat)} (hS : ∀ r k, k < 16 → kid r k = true → kidRow r k ∈ S) : ∀ f t, TbOk kid val t → TbSort S t → S.length + 1 - t.nodes.length ≤ f → TbOk kid val (tbRun kid val f t) ∧ TbSort S (tbRun kid val f t) ∧ (tbRun kid val f t).nodes.length = (tbRun kid val f t).rows.length
  | 0, t, h1, h2, hf => by
    have := h2.length
    have := h1.le
    exact ⟨h1, h2, by show t.nodes.length = t.rows.length; omega⟩
  | f + 1, t, h1, h2, hf => by
    unfold tbRun
    cases hr : t.rows[t.nodes.length]? with
    | none =>
      have hge : t.rows.length ≤ t.nodes.length := List.getElem?_eq_none_iff.1 hr
      exact ⟨h1, h2, by have := h1.le; show t.nodes.length = t.rows.length; omega⟩
    | some r =>
      have hnl : (tbStep kid val t r).nodes.length = t.nodes.length + 1 := by show (t.nodes ++ [_]).length = _; simp
      exact tbRun_ok hS f _ (h1.step kid val hr) (h2.step kid val hS hr) (by omega)

theorem cnt_mask_zero (p : Nat → Bool) : ∀ n, cntOf p n = 0 ↔ maskOf p n = 0
  | 0 => by simp [cntOf, maskOf]
  | n + 1 => by
    have ih := cnt_mask_zero p n
    unfold cntOf maskOf
    by_cases hp : p n = true
    · rw [if_pos hp, if_pos hp]
      have := Nat.two_pow_pos n
      constructor <;> intro h <;> omega
    · rw [if_neg hp, if_neg hp]; simpa using ih

/-- A node as PopRight asks. -/
structure NdRight (n leaves i : Nat) (x : Nd) : Prop where
  kids : x.kids < 65536
  leaf : x.leaf < 65536
  apart : ∀ k, ¬ (x.kids / 2 ^ k % 2 = 1 ∧ x.leaf / 2 ^ k % 2 = 1)
  base : x.kids ≠ 0 → i < x.base ∧ x.base + cntMask x.kids 16 ≤ n
  base0 : x.kids = 0 → x.base = 0
  leafs : x.leaf ≠ 0 → x.leafs + cntMask x.leaf 16 ≤ leaves
  leafs0 : x.leaf = 0 → x.leafs = 0
  first : ∀ k, k < 16 → (∀ j, j < k → x.kids / 2 ^ j % 2 = 1) → x.kids / 2 ^ k % 2 = 0 → x.leaf / 2 ^ k % 2 = 1

theorem tb_right {t : Tb} (h : TbOk kid val t) (hfull : t.nodes.length = t.rows.length) (hval : ∀ r k, val r k ≠ -1) (i : Nat) (hi : i < t.nodes.length) : ∃ x, t.nodes[i]? = some x ∧ NdRight t.nodes.length t.leaves.length i x := by
  obtain ⟨r, r0, l0, _, _, h1, h2, h3, _, _, h4, h5, h6, h7⟩ := (h.nodes i hi).ex
  have hb : ∀ k, (nodeOf kid val r r0 l0).kids / 2 ^ k % 2 = if k < 16 ∧ kid r k = true then 1 else 0 := fun k => maskOf_bit _ _ _
  have hl : ∀ k, (nodeOf kid val r r0 l0).leaf / 2 ^ k % 2 = if k < 16 ∧ leafAt (kid r) (val r) k = true then 1 else 0 := fun k => maskOf_bit _ _ _
  have hk1 : ∀ k, (nodeOf kid val r r0 l0).kids / 2 ^ k % 2 = 1 → k < 16 ∧ kid r k = true := fun k hh => by
    rw [hb] at hh
    by_cases e : k < 16 ∧ kid r k = true
    · exact e
    · rw [if_neg e] at hh; omega
  refine ⟨_, h2, maskOf_lt _ 16, maskOf_lt _ 16, fun k hh => ?_, fun hh => ?_, fun hh => ?_, fun hh => ?_, fun hh => ?_, fun k hk hj hz => ?_⟩
  · have h1 := hk1 k hh.1
    have h2 := hh.2
    rw [hl] at h2
    by_cases e : k < 16 ∧ leafAt (kid r) (val r) k = true
    · have := e.2; simp [leafAt, h1.2] at this
    · rw [if_neg e] at h2; omega
  · have hc : cntOf (kid r) 16 ≠ 0 := fun e => hh ((cnt_mask_zero _ _).1 e)
    have e1 : (nodeOf kid val r r0 l0).base = r0 := if_neg hc
    have e2 : cntMask (nodeOf kid val r r0 l0).kids 16 = cntOf (kid r) 16 := cntMask_of _ _ _ (by omega)
    rw [e1, e2]; omega
  · exact if_pos ((cnt_mask_zero _ _).2 hh)
  · have hc : cntOf (leafAt (kid r) (val r)) 16 ≠ 0 := fun e => hh ((cnt_mask_zero _ _).1 e)
    have e1 : (nodeOf kid val r r0 l0).leafs = l0 := if_neg hc
    have e2 : cntMask (nodeOf kid val r r0 l0).leaf 16 = cntOf (leafAt (kid r) (val r)) 16 := cntMask_of _ _ _ (by omega)
    rw [e1, e2]; omega
  · exact if_pos ((cnt_mask_zero _ _).2 hh)
  · have hkf : kid r k = false := by
      rw [hb] at hz
      by_cases e : k < 16 ∧ kid r k = true
      · rw [if_pos e] at hz; omega
      · simpa using fun e2 => e ⟨hk, e2⟩
    rw [hl, if_pos ⟨hk, first_leaf (kid r) (val r) k hkf (fun j hj2 => (hk1 j (hj j hj2)).2) (hval r)⟩]
end

end Go.Proofs.Ytmhkhbpedfdocaa
