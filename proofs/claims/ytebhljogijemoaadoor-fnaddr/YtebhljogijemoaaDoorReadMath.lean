/- Reading addresses: plain mathematics: what the specification reads of a text and what the program reads of it are the same address, where it has this very text; nothing of the program. -/
import Derived.Test.YtebhljogijemoaaDoorIText6
import Derived.Test.YtebhljogijemoaaDoorReadDefs
namespace Go.Proofs.YtebhljogijemoaaDoor
open Go.RowKit Go.PlainAid
set_option linter.unusedVariables false
set_option linter.unusedSimpArgs false

/-- The groups from place i on, n of them. -/
def gsOf (s : ByteArray) (i n : Nat) : List Nat := (List.range n).map fun j => (grp s (i + j)).toNat

theorem gsOf_succ (s : ByteArray) (i n : Nat) : gsOf s i (n + 1) = (grp s i).toNat :: gsOf s (i + 1) n := by
  unfold gsOf
  rw [List.range_succ_eq_map]
  simp [Function.comp_def]
  intro j _
  rw [show i + (j + 1) = i + 1 + j by omega]

theorem gsOf_length (s : ByteArray) (i n : Nat) : (gsOf s i n).length = n := by simp [gsOf]

theorem joinG_zero (s : ByteArray) (i : Nat) : joinG s i 0 = [] := rfl
theorem joinG_one (s : ByteArray) (i : Nat) : joinG s i 1 = gl s i := by simp [joinG, segL, Lib.join, List.intercalate, ofL]
theorem segL_succ (s : ByteArray) (i n : Nat) : segL s i (n + 1) = ofL (gl s i) :: segL s (i + 1) n := by
  unfold segL
  rw [List.range_succ_eq_map]
  simp [Function.comp_def]
  intro j _
  rw [show i + (j + 1) = i + 1 + j by omega]
theorem joinG_succ (s : ByteArray) (i n : Nat) : joinG s i (n + 2) = gl s i ++ 58 :: joinG s (i + 1) (n + 1) := by
  unfold joinG
  rw [segL_succ s i (n + 1), segL_succ s (i + 1) n]
  simp [Lib.join, List.intercalate, ofL]

theorem gl_facts (s : ByteArray) (i : Nat) : gl s i ≠ [] ∧ (gl s i).length ≤ 4 ∧ digs16 0 (gl s i) = some (grp s i).toNat ∧ (58 : UInt8) ∉ gl s i ∧ (46 : UInt8) ∉ gl s i ∧ ∀ t : List UInt8, (∀ c r, t = c :: r → hexV c = none) → lead (gl s i ++ t) = ((grp s i).toNat, (gl s i).length) :=
  group_facts _ (by have := grp_range s i; omega)

theorem wordS_gl (s : ByteArray) (i : Nat) : wordS (gl s i) = some (grp s i).toNat := by
  have h := gl_facts s i
  have h0 : ¬ (gl s i).length < 1 := by
    intro e; exact h.1 (List.eq_nil_of_length_eq_zero (by omega))
  unfold wordS
  rw [List.take_of_length_le (by omega), h.2.2.1]
  simp only []
  rw [if_neg (by omega)]

theorem joinG_head (s : ByteArray) (i n : Nat) : ∃ c r, joinG s i (n + 1) = c :: r ∧ c ≠ 58 := by
  have h := gl_facts s i
  cases hg : gl s i with
  | nil => exact absurd hg h.1
  | cons c r =>
    have hc : c ≠ 58 := fun e => h.2.2.2.1 (by rw [hg, e]; simp)
    cases n with
    | zero => exact ⟨c, r, by rw [joinG_one, hg], hc⟩
    | succ n => exact ⟨c, r ++ 58 :: joinG s (i + 1) (n + 1), by rw [joinG_succ, hg]; rfl, hc⟩

theorem cut_join (s : ByteArray) : ∀ (n i : Nat), cutL 58 (joinG s i (n + 1)) = (List.range (n + 1)).map fun j => gl s (i + j)
  | 0, i => by rw [joinG_one, cutL_none _ _ (gl_facts s i).2.2.2.1]; rfl
  | n + 1, i => by
    rw [joinG_succ, cutL_app _ _ _ (gl_facts s i).2.2.2.1, cut_join s n (i + 1), List.range_succ_eq_map (n := n + 1)]
    simp [Function.comp_def]
    intro j _
    rw [show i + (j + 1) = i + 1 + j by omega]

theorem allSome_map {α β γ : Type} (f : β → Option γ) (g : α → β) (h : α → γ) (H : ∀ a, f (g a) = some (h a)) : ∀ l : List α, allSome f (l.map g) = some (l.map h)
  | [] => rfl
  | a :: l => by simp [allSome, H, allSome_map f g h H l]

theorem half_join (s : ByteArray) (i n : Nat) : halfS (joinG s i n) = some ((gsOf s i n).flatMap two) := by
  cases n with
  | zero => simp [halfS, joinG_zero, gsOf]
  | succ n =>
    obtain ⟨c, r, h, _⟩ := joinG_head s i n
    unfold halfS
    rw [if_neg (by rw [h]; simp), cut_join, allSome_map wordS (fun j => gl s (i + j)) (fun j => (grp s (i + j)).toNat) (fun j => wordS_gl s (i + j))]
    rfl

theorem cc_skip : ∀ (a l : List UInt8) (k : Nat), (58 : UInt8) ∉ a → ccFirst k (a ++ l) = ccFirst (k + a.length) l
  | [], l, k, _ => by simp
  | x :: a, l, k, h => by
    have hx : x ≠ 58 := fun e => h (by simp [e])
    rw [List.cons_append]
    show (if x = 58 ∧ _ then _ else ccFirst (k + 1) (a ++ l)) = _
    rw [if_neg (fun e => hx e.1), cc_skip a l (k + 1) (fun e => h (by simp [e]))]
    congr 1; simp; omega

theorem cc_join (s : ByteArray) (t : List UInt8) : ∀ (n i k : Nat), ccFirst k (joinG s i n ++ 58 :: 58 :: t) = some (k + (joinG s i n).length)
  | 0, i, k => by simp [joinG_zero, ccFirst]
  | 1, i, k => by rw [joinG_one, cc_skip _ _ _ (gl_facts s i).2.2.2.1]; simp [ccFirst]
  | n + 2, i, k => by
    obtain ⟨c, r, h, hc⟩ := joinG_head s (i + 1) n
    have ih := cc_join s t (n + 1) (i + 1) (k + (gl s i).length + 1)
    rw [joinG_succ, List.append_assoc, cc_skip _ _ _ (gl_facts s i).2.2.2.1]
    rw [List.cons_append]
    show (if (58 : UInt8) = 58 ∧ _ then _ else _) = _
    rw [if_neg (by rw [h]; simp [hc]), ih]
    simp; omega

theorem cc_none (s : ByteArray) : ∀ (n i k : Nat), ccFirst k (joinG s i n) = none
  | 0, i, k => rfl
  | 1, i, k => by
    have := cc_skip (gl s i) [] k (gl_facts s i).2.2.2.1
    rw [joinG_one]; rw [List.append_nil] at this; rw [this]; rfl
  | n + 2, i, k => by
    obtain ⟨c, r, h, hc⟩ := joinG_head s (i + 1) n
    have ih := cc_none s (n + 1) (i + 1) (k + (gl s i).length + 1)
    rw [joinG_succ, cc_skip _ _ _ (gl_facts s i).2.2.2.1]
    show (if (58 : UInt8) = 58 ∧ _ then _ else _) = _
    rw [if_neg (by rw [h]; simp [hc]), ih]

theorem colonK_one (k : List UInt8 → List Nat → Option Nat → Option (List Nat × Option Nat)) (r : List UInt8) (gs : List Nat) (gap : Option Nat) (h : r.head? ≠ some 58) : colonK k (58 :: r) gs gap = k r gs gap := by
  simp [colonK, h]
theorem colonK_two (k : List UInt8 → List Nat → Option Nat → Option (List Nat × Option Nat)) (r : List UInt8) (gs : List Nat) : colonK k (58 :: 58 :: r) gs none = if r = [] then some (gs, some gs.length) else k r gs (some gs.length) := by
  by_cases h : r = []
  · simp [colonK, h]
  · simp [colonK, h]

theorem mach_join (s : ByteArray) (t : List UInt8) (ht : t = [] ∨ ∃ r, t = 58 :: r) : ∀ (n i f : Nat) (gs : List Nat) (gap : Option Nat), gs.length + n < 8 → n < f →
    mach f (joinG s i (n + 1) ++ t) gs gap = if t = [] then some (gs ++ gsOf s i (n + 1), gap) else colonK (mach (f - (n + 1))) t (gs ++ gsOf s i (n + 1)) gap
  | 0, i, f, gs, gap, h1, h2 => by
    obtain ⟨f, rfl⟩ : ∃ g, f = g + 1 := ⟨f - 1, by omega⟩
    have hg := gl_facts s i
    have hl := hg.2.2.2.2.2 t (by
      intro c r e
      rcases ht with rfl | ⟨r2, rfl⟩
      · simp at e
      · simp at e; rw [← e.1]; rfl)
    have h0 : ¬ (gl s i).length = 0 := fun e => hg.1 (List.eq_nil_of_length_eq_zero e)
    rw [joinG_one]
    show (if (lead (gl s i ++ t)).2 = 0 ∨ _ then _ else _) = _
    rw [hl]
    simp only []
    rw [if_neg (by omega), List.drop_left, gsOf_succ]
    rfl
  | n + 1, i, f, gs, gap, h1, h2 => by
    obtain ⟨f, rfl⟩ : ∃ g, f = g + 1 := ⟨f - 1, by omega⟩
    obtain ⟨c, r, h, hc⟩ := joinG_head s (i + 1) n
    have hg := gl_facts s i
    have hl := hg.2.2.2.2.2 (58 :: (joinG s (i + 1) (n + 1) ++ t)) (by
      intro c r e
      simp at e; rw [← e.1]; rfl)
    have h0 : ¬ (gl s i).length = 0 := fun e => hg.1 (List.eq_nil_of_length_eq_zero e)
    have ih := mach_join s t ht n (i + 1) f (gs ++ [(grp s i).toNat]) gap (by simp; omega) (by omega)
    rw [joinG_succ, List.append_assoc, List.cons_append]
    show (if (lead (gl s i ++ 58 :: (joinG s (i + 1) (n + 1) ++ t))).2 = 0 ∨ _ then _ else _) = _
    rw [hl]
    simp only []
    rw [if_neg (by omega), List.drop_left, if_neg (by simp)]
    rw [colonK_one _ _ _ _ (by rw [h]; simp [hc]), ih, gsOf_succ s i (n + 1), show f + 1 - (n + 1 + 1) = f - (n + 1) by omega]
    simp only [List.append_assoc, List.cons_append, List.nil_append]

theorem runL_zero (g : Nat → Int) : ∀ (f i j : Nat), j < runL g i f → g (i + j) = 0
  | 0, i, j, h => by simp [runL] at h
  | f + 1, i, j, h => by
    by_cases hz : g i = 0
    · rw [runL_step hz] at h
      cases j with
      | zero => exact hz
      | succ j => rw [show i + (j + 1) = i + 1 + j by omega]; exact runL_zero g f (i + 1) j (by omega)
    · rw [runL_stop hz] at h; omega

theorem bestN_zero (g : Nat → Int) : ∀ (i j : Nat), j < (bestN g i).2 → g ((bestN g i).1 + j) = 0
  | 0, j, h => by simp [bestN] at h
  | i + 1, j, h => by
    have e : bestN g (i + 1) = if (bestN g i).2 < runL g i (8 - i) then (i, runL g i (8 - i)) else bestN g i := rfl
    rw [e] at h ⊢
    by_cases hb : (bestN g i).2 < runL g i (8 - i)
    · rw [if_pos hb] at h ⊢; exact runL_zero g _ _ _ h
    · rw [if_neg hb] at h ⊢; exact bestN_zero g i j h

theorem zerosV_zero (s : ByteArray) (j : Nat) (h : j < (zerosV s).2) : grp s ((zerosV s).1 + j) = 0 := by
  unfold zerosV at h ⊢
  split at h
  · simp at h
  · rw [if_neg ‹_›]; exact bestN_zero _ _ _ h

theorem zerosV_two (s : ByteArray) : (zerosV s).2 = 0 ∨ 2 ≤ (zerosV s).2 := by
  unfold zerosV
  split
  · exact .inl rfl
  · exact .inr (by omega)

/-- The bytes of groups. -/
def byS (s : ByteArray) (i n : Nat) : List UInt8 := (gsOf s i n).flatMap two

theorem byS_succ (s : ByteArray) (i n : Nat) : byS s i (n + 1) = two (grp s i).toNat ++ byS s (i + 1) n := by
  unfold byS; rw [gsOf_succ]; simp

theorem byS_length (s : ByteArray) : ∀ n i : Nat, (byS s i n).length = 2 * n
  | 0, i => by simp [byS, gsOf]
  | n + 1, i => by rw [byS_succ]; simp [two, byS_length s n (i + 1)]; omega

theorem two_grp (l : List UInt8) (i : Nat) (h : 2 * i + 1 < l.length) : two (grp (ofL l) i).toNat = [l[2 * i]'(by omega), l[2 * i + 1]] := by
  have h0 := bt_toNat l (2 * i) (by omega)
  have h1 := bt_toNat l (2 * i + 1) h
  have n0 := bt_nonneg (ofL l) (2 * i)
  have n1 := bt_nonneg (ofL l) (2 * i + 1)
  have b0 := (l[2 * i]'(by omega)).toNat_lt
  have b1 := (l[2 * i + 1]).toNat_lt
  have e : (grp (ofL l) i).toNat = (l[2 * i]'(by omega)).toNat * 256 + (l[2 * i + 1]).toNat := by
    unfold grp wordN
    omega
  have q0 : ((l[2 * i]'(by omega)).toNat * 256 + (l[2 * i + 1]).toNat) / 256 = (l[2 * i]'(by omega)).toNat := by omega
  unfold two
  rw [e, q0]
  congr 1
  · simp
  · congr 1
    apply UInt8.toNat.inj
    simp

theorem byS_drop (l : List UInt8) (hl : l.length = 16) : ∀ n i : Nat, i + n = 8 → byS (ofL l) i n = l.drop (2 * i)
  | 0, i, h => by rw [List.drop_eq_nil_of_le (by omega)]; rfl
  | n + 1, i, h => by
    rw [byS_succ, byS_drop l hl n (i + 1) (by omega), two_grp l i (by omega), show 2 * (i + 1) = 2 * i + 1 + 1 by omega]
    rw [List.drop_eq_getElem_cons (i := 2 * i) (by omega), List.drop_eq_getElem_cons (i := 2 * i + 1) (by omega)]
    rfl

theorem gsOf_add (s : ByteArray) : ∀ n m i : Nat, gsOf s i (n + m) = gsOf s i n ++ gsOf s (i + n) m
  | 0, m, i => by simp [gsOf]
  | n + 1, m, i => by
    rw [show n + 1 + m = n + m + 1 by omega, gsOf_succ, gsOf_add s n m (i + 1), gsOf_succ s i n, show i + 1 + n = i + (n + 1) by omega]; rfl

theorem byS_add (s : ByteArray) (n m i : Nat) : byS s i (n + m) = byS s i n ++ byS s (i + n) m := by
  unfold byS; rw [gsOf_add]; simp

theorem byS_zero (s : ByteArray) : ∀ n i : Nat, (∀ j, j < n → grp s (i + j) = 0) → byS s i n = List.replicate (2 * n) 0
  | 0, i, _ => rfl
  | n + 1, i, h => by
    have h0 := h 0 (by omega)
    rw [Nat.add_zero] at h0
    rw [byS_succ, h0, byS_zero s n (i + 1) (fun j hj => by have := h (j + 1) (by omega); rwa [show i + (j + 1) = i + 1 + j by omega] at this), show 2 * (n + 1) = 2 * n + 1 + 1 by omega]
    rfl

theorem whole_by (l : List UInt8) (hl : l.length = 16) (a m : Nat) (h : a + m ≤ 8) (hz : ∀ j, j < m → grp (ofL l) (a + j) = 0) : byS (ofL l) 0 a ++ List.replicate (2 * m) 0 ++ byS (ofL l) (a + m) (8 - (a + m)) = l := by
  have e := byS_drop l hl 8 0 rfl
  rw [show (8 : Nat) = a + (m + (8 - (a + m))) by omega, byS_add, byS_add, Nat.zero_add, byS_zero _ m a hz] at e
  simpa using e

/-- What the specification reads, and what the program reads. -/
def readS (l : List UInt8) : Option (List UInt8) := match fourS l with
  | some a => some a
  | none => sixS l
def readI (l : List UInt8) : Option (List UInt8) := match sixI l with
  | some a => some a
  | none => fourI l

/-- It counts if it has this very text. -/
def finV (r : Option (List UInt8)) (l : List UInt8) : Option (List UInt8) := match r with
  | some a => if addrTextL (ofL a) = l then some a else none
  | none => none

theorem dec_lead : ∀ n : Fin 256, (lead (decL n.val ++ [46])).2 = (decL n.val).length ∧ (decL n.val).length ≤ 3 := by decide +kernel
theorem leadF_more (t : List UInt8) : ∀ (p : List UInt8) (f w n : Nat), leadF f w n (p ++ [46]) = leadF f w n (p ++ 46 :: t)
  | [], f, w, n => by cases f <;> simp [leadF, hexV]
  | c :: p, 0, w, n => rfl
  | c :: p, f + 1, w, n => by
    simp only [List.cons_append, leadF]
    cases hexV c with
    | none => rfl
    | some d => exact leadF_more t p f (16 * w + d) (n + 1)

theorem six_no_four (n : Nat) (h : n ≤ 255) (t : List UInt8) : sixI (decL n ++ 46 :: t) = none := by
  obtain ⟨h1, h2⟩ := dec_lead ⟨n, by omega⟩
  simp only at h1 h2
  have hl : (lead (decL n ++ 46 :: t)).2 = (decL n).length := by rw [← h1]; unfold lead; rw [leadF_more t]
  have hg : groupsI (decL n ++ 46 :: t) = mach 9 (decL n ++ 46 :: t) [] none := by
    unfold groupsI
    rw [if_neg]
    have : ∀ n : Fin 256, (decL n.val).head? ≠ some 58 ∧ (decL n.val) ≠ [] := by decide +kernel
    obtain ⟨q1, q2⟩ := this ⟨n, by omega⟩
    simp only at q1 q2
    cases hd : decL n with
    | nil => exact absurd hd q2
    | cons c r => rw [hd] at q1; simp at q1; simp [q1]
  unfold sixI
  rw [hg]
  unfold mach
  rw [hl, List.drop_left]
  by_cases h0 : (decL n).length = 0
  · rw [if_pos (.inl h0)]
  · rw [if_neg (by simp; simpa using h0), if_neg (by simp)]
    simp [colonK]

theorem no_dot_join (s : ByteArray) : ∀ n i : Nat, (46 : UInt8) ∉ joinG s i n
  | 0, i => by simp [joinG_zero]
  | 1, i => by rw [joinG_one]; exact (gl_facts s i).2.2.2.2.1
  | n + 2, i => by
    rw [joinG_succ]
    simp [(gl_facts s i).2.2.2.2.1, no_dot_join s (n + 1) (i + 1)]

theorem no_four (l : List UInt8) (h : (46 : UInt8) ∉ l) : fourS l = none ∧ fourI l = none := by
  unfold fourS fourI
  rw [cutL_none _ _ h]
  constructor
  · cases ha : allSome numS [l] with
    | none => rfl
    | some ns =>
      have := allSome_length _ _ _ ha
      simp at this
      simp [this]
  · simp

theorem six_read (l : List UInt8) (hl : l.length = 16) : sixS (restF (ofL l) (zerosV (ofL l)).1 (zerosV (ofL l)).2 8 0) = some l ∧ sixI (restF (ofL l) (zerosV (ofL l)).1 (zerosV (ofL l)).2 8 0) = some l ∧ (46 : UInt8) ∉ restF (ofL l) (zerosV (ofL l)).1 (zerosV (ofL l)).2 8 0 := by
  have hsum := zerosV_sum (ofL l)
  have hz := zerosV_zero (ofL l)
  have h2 := zerosV_two (ofL l)
  generalize zerosV (ofL l) = z at *
  obtain ⟨a, m⟩ := z
  simp only at hsum hz h2 ⊢
  by_cases hm : m = 0
  · have ha : a = 0 := hsum.2 hm
    subst hm ha
    rw [rest_none]
    have hw : byS (ofL l) 0 8 = l := byS_drop l hl 8 0 rfl
    refine ⟨?_, ?_, no_dot_join _ _ _⟩
    · unfold sixS
      rw [cc_none, half_join]
      show (if (byS (ofL l) 0 8).length = 16 then some (byS (ofL l) 0 8) else none) = some l
      rw [hw, if_pos hl]
    · have hg : groupsI (joinG (ofL l) 0 8) = some (gsOf (ofL l) 0 8, none) := by
        unfold groupsI
        obtain ⟨c, r, h, hc⟩ := joinG_head (ofL l) 0 7
        rw [if_neg (by rw [h]; simp [hc])]
        have := mach_join (ofL l) [] (.inl rfl) 7 0 9 [] none (by simp) (by omega)
        rw [List.append_nil] at this
        rw [this]; simp
      unfold sixI
      rw [hg]
      show (if (gsOf (ofL l) 0 8).length = 8 then some (byS (ofL l) 0 8) else none) = some l
      rw [gsOf_length, if_pos rfl, hw]
  · have hw := whole_by l hl a m hsum.1 hz
    obtain ⟨n, hn⟩ : ∃ n, n = 8 - (a + m) := ⟨_, rfl⟩
    rw [rest_row _ _ _ (by omega) hsum.1]
    rw [← hn] at hw ⊢
    have e : joinG (ofL l) 0 a ++ [58, 58] ++ joinG (ofL l) (a + m) n = joinG (ofL l) 0 a ++ 58 :: 58 :: joinG (ofL l) (a + m) n := by simp
    have la := byS_length (ofL l) a 0
    have lb := byS_length (ofL l) n (a + m)
    refine ⟨?_, ?_, by simp [no_dot_join]⟩
    · rw [e]
      unfold sixS
      rw [cc_join, Nat.zero_add]
      simp only []
      rw [List.take_left, show (joinG (ofL l) 0 a ++ 58 :: 58 :: joinG (ofL l) (a + m) n).drop ((joinG (ofL l) 0 a).length + 2) = joinG (ofL l) (a + m) n by
        rw [← List.drop_drop, List.drop_left]; rfl, half_join, half_join]
      show (if 14 < (byS (ofL l) 0 a).length + (byS (ofL l) (a + m) n).length then none else some (byS (ofL l) 0 a ++ List.replicate (16 - (byS (ofL l) 0 a).length - (byS (ofL l) (a + m) n).length) 0 ++ byS (ofL l) (a + m) n)) = some l
      rw [la, lb, if_neg (by omega), show 16 - 2 * a - 2 * n = 2 * m by omega, hw]
    · rw [e]
      have hg : groupsI (joinG (ofL l) 0 a ++ 58 :: 58 :: joinG (ofL l) (a + m) n) = some (gsOf (ofL l) 0 a ++ gsOf (ofL l) (a + m) n, some a) := by
        have key : ∀ f, n < f → colonK (mach f) (58 :: 58 :: joinG (ofL l) (a + m) n) (gsOf (ofL l) 0 a) none = some (gsOf (ofL l) 0 a ++ gsOf (ofL l) (a + m) n, some a) := by
          intro f hf
          rw [colonK_two, gsOf_length]
          cases n with
          | zero => rw [joinG_zero, if_pos rfl]; simp [gsOf]
          | succ n =>
            obtain ⟨c, r, h, hc⟩ := joinG_head (ofL l) (a + m) n
            rw [if_neg (by rw [h]; simp)]
            have := mach_join (ofL l) [] (.inl rfl) n (a + m) f (gsOf (ofL l) 0 a) (some a) (by rw [gsOf_length]; omega) (by omega)
            rw [List.append_nil] at this
            rw [this]; simp
        unfold groupsI
        cases a with
        | zero =>
          rw [joinG_zero, List.nil_append, if_pos (by simp)]
          exact key 9 (by omega)
        | succ a =>
          obtain ⟨c, r, h, hc⟩ := joinG_head (ofL l) 0 a
          rw [if_neg (by rw [h]; simp [hc])]
          rw [mach_join (ofL l) (58 :: 58 :: joinG (ofL l) (a + 1 + m) n) (.inr ⟨_, rfl⟩) a 0 9 [] none (by simp; omega) (by omega), if_neg (by simp), List.nil_append]
          exact key _ (by omega)
      unfold sixI
      rw [hg]
      show some (((gsOf (ofL l) 0 a ++ gsOf (ofL l) (a + m) n).take a).flatMap two ++ List.replicate (16 - 2 * (gsOf (ofL l) 0 a ++ gsOf (ofL l) (a + m) n).length) 0 ++ ((gsOf (ofL l) 0 a ++ gsOf (ofL l) (a + m) n).drop a).flatMap two) = some l
      have ga := gsOf_length (ofL l) 0 a
      have gb := gsOf_length (ofL l) (a + m) n
      rw [List.take_append_of_le_length (by omega), List.take_of_length_le (by omega), List.drop_append_of_le_length (by omega), List.drop_eq_nil_of_le (by omega), List.nil_append, List.length_append, ga, gb, show 16 - 2 * (a + n) = 2 * m by omega]
      exact congrArg some hw

/-- Both readers find an address by its text. -/
theorem read_text (a : List UInt8) (h : a.length = 4 ∨ a.length = 16) : readS (addrTextL (ofL a)) = some a ∧ readI (addrTextL (ofL a)) = some a := by
  rcases h with h | h
  · obtain ⟨x, y, z, u, rfl⟩ : ∃ x y z u, a = [x, y, z, u] := by
      match a, h with
      | [x, y, z, u], _ => exact ⟨x, y, z, u, rfl⟩
    have e : addrTextL (ofL [x, y, z, u]) = fourN (ofL [x, y, z, u]) 4 := by unfold addrTextL; rw [if_pos (by rw [ofL_size]; rfl)]
    have hx := x.toNat_lt
    rw [e]
    unfold readS readI
    rw [(four_read x y z u).1, (four_read x y z u).2]
    have : sixI (fourN (ofL [x, y, z, u]) 4) = none := by rw [four_text]; exact six_no_four _ (by omega) _
    rw [this]
    exact ⟨rfl, rfl⟩
  · have e : addrTextL (ofL a) = restF (ofL a) (zerosV (ofL a)).1 (zerosV (ofL a)).2 8 0 := by unfold addrTextL; rw [if_neg (by rw [ofL_size]; omega), if_pos (by rw [ofL_size]; exact h)]
    rw [e]
    obtain ⟨h1, h2, h3⟩ := six_read a h
    unfold readS readI
    rw [(no_four _ h3).1, h1, h2]
    exact ⟨rfl, rfl⟩

theorem fin_some {r : Option (List UInt8)} {l a : List UInt8} (h : finV r l = some a) : r = some a ∧ addrTextL (ofL a) = l := by
  unfold finV at h
  cases r with
  | none => simp at h
  | some b =>
    simp only at h
    split at h
    · injection h with h; subst h; exact ⟨rfl, ‹_›⟩
    · simp at h

theorem read_nil : readS [] = none ∧ readI [] = none := by decide +kernel

theorem read_size {l a : List UInt8} (h : addrTextL (ofL a) = l) (hr : readS l = some a ∨ readI l = some a) : a.length = 4 ∨ a.length = 16 := by
  by_cases h4 : a.length = 4
  · exact .inl h4
  · by_cases h16 : a.length = 16
    · exact .inr h16
    · have e : addrTextL (ofL a) = [] := by unfold addrTextL; rw [if_neg (by rw [ofL_size]; exact h4), if_neg (by rw [ofL_size]; exact h16)]
      rw [← h, e, read_nil.1, read_nil.2] at hr
      rcases hr with hr | hr <;> simp at hr

/-- The program reads what the specification reads. -/
theorem fin_same (l : List UInt8) : finV (readI l) l = finV (readS l) l := by
  cases hS : finV (readS l) l with
  | some a =>
    obtain ⟨h1, h2⟩ := fin_some hS
    have := (read_text a (read_size h2 (.inl h1))).2
    rw [h2] at this
    rw [this]
    simp [finV, h2]
  | none =>
    cases hI : finV (readI l) l with
    | none => rfl
    | some a =>
      obtain ⟨h1, h2⟩ := fin_some hI
      have := (read_text a (read_size h2 (.inr h1))).1
      rw [h2] at this
      rw [this] at hS
      simp [finV, h2] at hS

end Go.Proofs.YtebhljogijemoaaDoor
