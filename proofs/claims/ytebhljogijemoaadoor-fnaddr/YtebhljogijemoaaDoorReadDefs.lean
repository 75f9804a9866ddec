/- Reading addresses: what the specification reads of a text and what the program reads of it, as plain functions; nothing of the program. -/
import Derived.Test.YtebhljogijemoaaDoorAddrText
import Derived.Lib.SplitLaws
import Derived.Lib.ParseIntBCases
namespace Go.Proofs.YtebhljogijemoaaDoor
open Go.RowKit Go.PlainAid
set_option linter.unusedVariables false
set_option linter.unusedSimpArgs false

/-- A text cut at each byte c. -/
def cutL (c : UInt8) : List UInt8 → List (List UInt8)
  | [] => [[]]
  | b :: r => if b = c then [] :: cutL c r else match cutL c r with
    | [] => [[b]]
    | h :: t => (b :: h) :: t

theorem cutL_none (c : UInt8) : ∀ l : List UInt8, c ∉ l → cutL c l = [l]
  | [], _ => rfl
  | b :: r, h => by
    have hb : b ≠ c := fun e => h (by simp [e])
    have ih := cutL_none c r (fun e => h (by simp [e]))
    simp [cutL, hb, ih]

theorem cutL_app (c : UInt8) : ∀ a b : List UInt8, c ∉ a → cutL c (a ++ c :: b) = a :: cutL c b
  | [], b, _ => by simp [cutL]
  | x :: a, b, h => by
    have hb : x ≠ c := fun e => h (by simp [e])
    have ih := cutL_app c a b (fun e => h (by simp [e]))
    simp [cutL, hb, ih]

theorem cutL_ne (c : UInt8) (l : List UInt8) : cutL c l ≠ [] := by
  cases l with
  | nil => simp [cutL]
  | cons b r =>
    unfold cutL
    split
    · simp
    · split <;> simp

theorem first_of (c : UInt8) : ∀ l : List UInt8, c ∈ l → ∃ a b, l = a ++ c :: b ∧ c ∉ a
  | [], h => by simp at h
  | x :: r, h => by
    by_cases e : x = c
    · exact ⟨[], r, by simp [e], by simp⟩
    · obtain ⟨a, b, h1, h2⟩ := first_of c r (by simpa [Ne.symm e] using h)
      exact ⟨x :: a, b, by simp [h1], by simp [Ne.symm e, h2]⟩

theorem index_app (c : UInt8) : ∀ a b : List UInt8, c ∉ a → Lib.index (a ++ c :: b) [c] = (a.length : Int)
  | [], b, _ => by simp [Lib.index, List.isPrefixOf]
  | x :: a, b, h => by
    have hb : ¬ c = x := fun e => h (by simp [e])
    have ih := index_app c a b (fun e => h (by simp [e]))
    have h2 : ¬ ((a.length : Int) = -1) := by omega
    simp [Lib.index, List.isPrefixOf, hb, ih, h2]

theorem splitK_cut (c : UInt8) : ∀ (k : Nat) (l : List UInt8), l.count c = k → Lib.splitK [c] 0 k l = cutL c l
  | 0, l, h => by rw [cutL_none c l (List.count_eq_zero.1 h)]; rfl
  | k + 1, l, h => by
    have hm : c ∈ l := List.count_pos_iff.1 (by omega)
    obtain ⟨a, b, rfl, ha⟩ := first_of c l hm
    have h2 : ¬ ((a.length : Int) = -1) := by omega
    have hc : b.count c = k := by
      rw [List.count_append, List.count_cons_self, List.count_eq_zero.2 ha] at h; omega
    rw [cutL_app c a b ha, ← splitK_cut c k b hc]
    simp [Lib.splitK, index_app c a b ha, h2]

theorem split_cut (c : UInt8) (l : List UInt8) : Lib.split l [c] = cutL c l := by
  unfold Lib.split
  rw [Lib.count_one]
  exact splitK_cut c _ l rfl

/-- What all of a list give, if none fails. -/
def allSome {α β : Type} (f : α → Option β) : List α → Option (List β)
  | [] => some []
  | a :: r => match f a with
    | none => none
    | some b => match allSome f r with
      | none => none
      | some l => some (b :: l)

theorem allSome_length {α β : Type} (f : α → Option β) : ∀ (l : List α) (r : List β), allSome f l = some r → r.length = l.length
  | [], r, h => by simp [allSome] at h; simp [← h]
  | a :: l, r, h => by
    unfold allSome at h
    cases h1 : f a with
    | none => simp [h1] at h
    | some b =>
      cases h2 : allSome f l with
      | none => simp [h1, h2] at h
      | some r2 => simp [h1, h2] at h; simp [← h, allSome_length f l r2 h2]

/-- A row of digits, read on from n. -/
def digs10 : Nat → List UInt8 → Option Nat
  | n, [] => some n
  | n, c :: r => if 48 ≤ c.toNat ∧ c.toNat ≤ 57 then digs10 (10 * n + (c.toNat - 48)) r else none

/-- A number of an address of IPv4, as the specification reads it. -/
def numS (p : List UInt8) : Option Nat :=
  match digs10 0 (p.take 4) with
  | none => none
  | some n => if p.length < 1 ∨ 3 < p.length ∨ 255 < n ∨ (1 < p.length ∧ p.head? = some 48) then none else some n

/-- A number of an address of IPv4, as the program reads it. -/
def numI (p : List UInt8) : Option Nat :=
  match Lib.parseUintB 8 p with
  | .ok n => some n
  | _ => none

def fourS (l : List UInt8) : Option (List UInt8) :=
  match allSome numS (cutL 46 l) with
  | none => none
  | some ns => if ns.length = 4 then some (ns.map UInt8.ofNat) else none

def fourI (l : List UInt8) : Option (List UInt8) :=
  if (cutL 46 l).length = 4 then
    match allSome numI (cutL 46 l) with
    | none => none
    | some ns => some (ns.map UInt8.ofNat)
  else none

theorem dec_facts : ∀ n : Fin 256, numS (decL n.val) = some n.val ∧ numI (decL n.val) = some n.val ∧ (46 : UInt8) ∉ decL n.val := by decide +kernel

theorem dec_num {n : Nat} (h : n ≤ 255) : numS (decL n) = some n ∧ numI (decL n) = some n ∧ (46 : UInt8) ∉ decL n := dec_facts ⟨n, by omega⟩

theorem bt_toNat (l : List UInt8) (i : Nat) (h : i < l.length) : (bt (ofL l) i).toNat = (l[i]).toNat := by
  unfold bt
  rw [dif_pos (by rw [ofL_size]; exact h)]
  simp [ofL]
  rfl

theorem four_text (a b c d : UInt8) : fourN (ofL [a, b, c, d]) 4 = decL a.toNat ++ 46 :: (decL b.toNat ++ 46 :: (decL c.toNat ++ 46 :: decL d.toNat)) := by
  have h0 := bt_toNat [a, b, c, d] 0 (by simp)
  have h1 := bt_toNat [a, b, c, d] 1 (by simp)
  have h2 := bt_toNat [a, b, c, d] 2 (by simp)
  have h3 := bt_toNat [a, b, c, d] 3 (by simp)
  simp at h0 h1 h2 h3
  simp [fourN, h0, h1, h2, h3]

theorem four_cut (a b c d : UInt8) : cutL 46 (fourN (ofL [a, b, c, d]) 4) = [decL a.toNat, decL b.toNat, decL c.toNat, decL d.toNat] := by
  have ha := a.toNat_lt; have hb := b.toNat_lt; have hc := c.toNat_lt; have hd := d.toNat_lt
  rw [four_text, cutL_app _ _ _ (dec_num (by omega)).2.2, cutL_app _ _ _ (dec_num (by omega)).2.2, cutL_app _ _ _ (dec_num (by omega)).2.2, cutL_none _ _ (dec_num (by omega)).2.2]

theorem four_read (a b c d : UInt8) : fourS (fourN (ofL [a, b, c, d]) 4) = some [a, b, c, d] ∧ fourI (fourN (ofL [a, b, c, d]) 4) = some [a, b, c, d] := by
  have ha := a.toNat_lt; have hb := b.toNat_lt; have hc := c.toNat_lt; have hd := d.toNat_lt
  have na := dec_num (n := a.toNat) (by omega); have nb := dec_num (n := b.toNat) (by omega); have nc := dec_num (n := c.toNat) (by omega); have nd := dec_num (n := d.toNat) (by omega)
  unfold fourS fourI
  rw [four_cut]
  simp [allSome, na, nb, nc, nd]

/-- The number of a digit of 0-9, a-f. -/
def hexV (c : UInt8) : Option Nat :=
  if 48 ≤ c.toNat ∧ c.toNat ≤ 57 then some (c.toNat - 48) else if 97 ≤ c.toNat ∧ c.toNat ≤ 102 then some (c.toNat - 87) else none

theorem hexV_hexC : ∀ d : Fin 16, hexV (hexC d.val) = some d.val ∧ hexC d.val ≠ 58 ∧ hexC d.val ≠ 46 := by decide +kernel
theorem hexV_of {d : Nat} (h : d < 16) : hexV (hexC d) = some d := (hexV_hexC ⟨d, h⟩).1
theorem hexC_ne {d : Nat} (h : d < 16) : hexC d ≠ 58 ∧ hexC d ≠ 46 := (hexV_hexC ⟨d, h⟩).2
theorem hexV_lt {c : UInt8} {d : Nat} (h : hexV c = some d) : d < 16 := by
  unfold hexV at h
  split at h
  · simp at h; omega
  · split at h
    · simp at h; omega
    · simp at h

/-- A row of digits of 0-9, a-f, read on from n. -/
def digs16 : Nat → List UInt8 → Option Nat
  | n, [] => some n
  | n, c :: r => match hexV c with
    | some d => digs16 (16 * n + d) r
    | none => none

/-- A group, as the specification reads it. -/
def wordS (p : List UInt8) : Option Nat :=
  match digs16 0 (p.take 5) with
  | none => none
  | some n => if p.length < 1 ∨ 4 < p.length then none else some n

/-- The two bytes of a word. -/
def two (n : Nat) : List UInt8 := [UInt8.ofNat (n / 256), UInt8.ofNat n]

def halfS (l : List UInt8) : Option (List UInt8) :=
  if l = [] then some [] else match allSome wordS (cutL 58 l) with
    | none => none
    | some ns => some (ns.flatMap two)

/-- The first place of two colons, counted from k. -/
def ccFirst : Nat → List UInt8 → Option Nat
  | _, [] => none
  | k, b :: r => if b = 58 ∧ r.head? = some 58 then some k else ccFirst (k + 1) r

def sixS (l : List UInt8) : Option (List UInt8) :=
  match ccFirst 0 l with
  | some i => match halfS (l.take i), halfS (l.drop (i + 2)) with
    | some a, some b => if 14 < a.length + b.length then none else some (a ++ List.replicate (16 - a.length - b.length) 0 ++ b)
    | _, _ => none
  | none => match halfS l with
    | some a => if a.length = 16 then some a else none
    | none => none

/-- Up to f digits in front of a text: the number that they are, read on from w, and how many they are, counted from n. -/
def leadF : Nat → Nat → Nat → List UInt8 → Nat × Nat
  | 0, w, n, _ => (w, n)
  | _ + 1, w, n, [] => (w, n)
  | f + 1, w, n, c :: r => match hexV c with
    | some d => leadF f (16 * w + d) (n + 1) r
    | none => (w, n)

def lead (l : List UInt8) : Nat × Nat := leadF 4 0 0 l

/-- Behind a group: one colon and a group, two colons (once) and a group or the end. -/
def colonK (k : List UInt8 → List Nat → Option Nat → Option (List Nat × Option Nat)) (l : List UInt8) (gs : List Nat) (gap : Option Nat) : Option (List Nat × Option Nat) :=
  match l with
  | [] => none
  | b :: r => if b = 58 then
      (if r.head? = some 58 then
        (match gap with
        | some _ => none
        | none => if r.tail = [] then some (gs, some gs.length) else k r.tail gs (some gs.length))
      else k r gs gap)
    else none

/-- The groups of a text, and where two colons stand. -/
def mach : Nat → List UInt8 → List Nat → Option Nat → Option (List Nat × Option Nat)
  | 0, _, _, _ => none
  | f + 1, l, gs, gap =>
    if (lead l).2 = 0 ∨ gs.length = 8 then none
    else if l.drop (lead l).2 = [] then some (gs ++ [(lead l).1], gap)
    else colonK (mach f) (l.drop (lead l).2) (gs ++ [(lead l).1]) gap

def layV (gs : List Nat) (gap : Option Nat) : Option (List UInt8) :=
  match gap with
  | none => if gs.length = 8 then some (gs.flatMap two) else none
  | some g => some ((gs.take g).flatMap two ++ List.replicate (16 - 2 * gs.length) 0 ++ (gs.drop g).flatMap two)

def groupsI (l : List UInt8) : Option (List Nat × Option Nat) :=
  if l.head? = some 58 ∧ l.tail.head? = some 58 then colonK (mach 9) l [] none else mach 9 l [] none

def sixI (l : List UInt8) : Option (List UInt8) :=
  match groupsI l with
  | none => none
  | some (gs, gap) => layV gs gap

/-- A group's digits are one to four, none of them a colon or a dot, and make it. -/
theorem group_facts (x : Nat) (h : x ≤ 65535) : groupL x ≠ [] ∧ (groupL x).length ≤ 4 ∧ digs16 0 (groupL x) = some x ∧ (58 : UInt8) ∉ groupL x ∧ (46 : UInt8) ∉ groupL x ∧ ∀ t : List UInt8, (∀ c r, t = c :: r → hexV c = none) → leadF 4 0 0 (groupL x ++ t) = (x, (groupL x).length) := by
  obtain ⟨a, ha⟩ : ∃ a, a = x / 4096 % 16 := ⟨_, rfl⟩
  obtain ⟨b, hb⟩ : ∃ b, b = x / 256 % 16 := ⟨_, rfl⟩
  obtain ⟨c, hc⟩ : ∃ c, c = x / 16 % 16 := ⟨_, rfl⟩
  obtain ⟨d, hd⟩ : ∃ d, d = x % 16 := ⟨_, rfl⟩
  have a16 : a < 16 := by omega
  have b16 : b < 16 := by omega
  have c16 : c < 16 := by omega
  have d16 : d < 16 := by omega
  have hx : x = 16 * (16 * (16 * a + b) + c) + d := by omega
  have va := hexV_of a16; have vb := hexV_of b16; have vc := hexV_of c16; have vd := hexV_of d16
  have na := hexC_ne a16; have nb := hexC_ne b16; have nc := hexC_ne c16; have nd := hexC_ne d16
  have e : groupL x = if a ≠ 0 then [hexC a, hexC b, hexC c, hexC d] else if b ≠ 0 then [hexC b, hexC c, hexC d] else if c ≠ 0 then [hexC c, hexC d] else [hexC d] := by
    unfold groupL
    simp only [grpN, gst]
    simp only [show (3 : Nat) - 0 = 3 from rfl, show (3 : Nat) - 1 = 2 from rfl, show (3 : Nat) - 2 = 1 from rfl, show (3 : Nat) - 3 = 0 from rfl, show 16 ^ 3 = 4096 from rfl, show 16 ^ 2 = 256 from rfl, show 16 ^ 1 = 16 from rfl, show 16 ^ 0 = 1 from rfl, Nat.div_one, ← ha, ← hb, ← hc, ← hd]
    by_cases h1 : a = 0
    · by_cases h2 : b = 0
      · by_cases h3 : c = 0 <;> simp [h1, h2, h3]
      · simp [h1, h2]
    · simp [h1]
  clear ha hb hc hd
  rw [e]
  have lf : ∀ (f w n : Nat) (t : List UInt8), (∀ c r, t = c :: r → hexV c = none) → leadF f w n t = (w, n) := by
    intro f w n t ht
    cases f with
    | zero => rfl
    | succ f => cases t with
      | nil => rfl
      | cons c r => simp [leadF, ht c r rfl]
  by_cases h1 : a = 0
  · by_cases h2 : b = 0
    · by_cases h3 : c = 0
      · subst h1 h2 h3
        simp [digs16, vd, Ne.symm nd.1, Ne.symm nd.2, leadF]
        refine ⟨by omega, fun t ht => ?_⟩
        rw [lf _ _ _ t ht, hx]; simp
      · subst h1 h2
        simp [h3, digs16, vc, vd, Ne.symm nd.1, Ne.symm nd.2, Ne.symm nc.1, Ne.symm nc.2, leadF]
        refine ⟨by omega, fun t ht => ?_⟩
        rw [lf _ _ _ t ht, hx]; simp
    · subst h1
      simp [h2, digs16, vb, vc, vd, Ne.symm nd.1, Ne.symm nd.2, Ne.symm nc.1, Ne.symm nc.2, Ne.symm nb.1, Ne.symm nb.2, leadF]
      refine ⟨by omega, fun t ht => ?_⟩
      rw [lf _ _ _ t ht, hx]; simp
  · simp [h1, digs16, va, vb, vc, vd, Ne.symm nd.1, Ne.symm nd.2, Ne.symm nc.1, Ne.symm nc.2, Ne.symm nb.1, Ne.symm nb.2, Ne.symm na.1, Ne.symm na.2, leadF]
    exact ⟨hx.symm, fun _ _ => hx.symm⟩

end Go.Proofs.YtebhljogijemoaaDoor
