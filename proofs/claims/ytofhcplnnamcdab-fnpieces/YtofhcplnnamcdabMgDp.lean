/- MgDp: Prefix, Embed, DrawPrefix, DrawPa, in one text. -/
import Derived.Test.YtofhcplnnamcdabBits
import Derived.RegionTactic
import Derived.BigQuiet
import Derived.Deep.QuietTactic
import Derived.Deep.DeepCutAuto
import Derived.Laws.IdiomStrings
import Derived.Test.YtofhcplnnamcdabDrState
import Derived.Test.YtofhcplnnamcdabDrawPcs

/- Prefixes: what the specification's PrefixRight, l02Has, PrefixHas and l02Nat answer. -/
namespace Go.Proofs.Ytofhcplnnamcdab
open Go.RowKit Go.PlainAid
set_option linter.unusedVariables false
set_option linter.unusedSimpArgs false


/-- All bits from k on, n of them, are 0. -/
def zerosN (f : Nat → Int) (k : Nat) : Nat → Bool
  | 0 => true
  | n + 1 => bitN f k == 0 && zerosN f (k + 1) n

/-- The first n bits from k on are the same. -/
def sameN (f g : Nat → Int) (k : Nat) : Nat → Bool
  | 0 => true
  | n + 1 => bitN f k == bitN g k && sameN f g (k + 1) n

/-- Is a prefix refused ahead of its bits? -/
def badP (s : ByteArray) (b : Int) : Bool := !(addrOk s && decide (0 ≤ b) && decide (b ≤ 8 * (s.size : Int)))

/-- Is a prefix right? -/
def prefixOk (s : ByteArray) (b : Int) : Bool := addrOk s && decide (0 ≤ b) && decide (b ≤ 8 * (s.size : Int)) && zerosN (bt s) b.toNat (8 * s.size - b.toNat)

theorem zerosN_step (f : Nat → Int) (k m : Nat) (h : k < m) : zerosN f k (m - k) = (bitN f k == 0 && zerosN f (k + 1) (m - (k + 1))) := by
  obtain ⟨n, e⟩ : ∃ n, m - k = n + 1 := ⟨m - k - 1, by omega⟩
  rw [e, show m - (k + 1) = n by omega]; rfl

theorem sameN_step (f g : Nat → Int) (k m : Nat) (h : k < m) : sameN f g k (m - k) = (bitN f k == bitN g k && sameN f g (k + 1) (m - (k + 1))) := by
  obtain ⟨n, e⟩ : ∃ n, m - k = n + 1 := ⟨m - k - 1, by omega⟩
  rw [e, show m - (k + 1) = n by omega]; rfl

theorem zerosN_end (f : Nat → Int) (k m : Nat) (h : m ≤ k) : zerosN f k (m - k) = true := by rw [show m - k = 0 by omega]; rfl
theorem sameN_end (f g : Nat → Int) (k m : Nat) (h : m ≤ k) : sameN f g k (m - k) = true := by rw [show m - k = 0 by omega]; rfl


/-- Have two addresses of one length the same first bits? -/
def hasV (p : ByteArray) (b : Int) (a : ByteArray) : Bool := decide (a.size = p.size) && sameN (bt p) (bt a) 0 b.toNat


theorem prefixOk_le {s : ByteArray} {b : Int} (h : prefixOk s b = true) : 0 ≤ b ∧ b ≤ 8 * (s.size : Int) ∧ (s.size = 4 ∨ s.size = 16) := by
  simp [prefixOk] at h
  exact ⟨h.1.1.2, h.1.2, addrOk_size h.1.1.1⟩

/-- What PrefixHas answers. -/
def prefixHasV (p : ByteArray) (b : Int) (a : ByteArray) : Bool := prefixOk p b && addrOk a && hasV p b a


end Go.Proofs.Ytofhcplnnamcdab

/- Addresses of IPv4 in prefixes: what the specification's l02Nat, Embed and Extract answer. -/
namespace Go.Proofs.Ytofhcplnnamcdab
open Go.RowKit Go.PlainAid
set_option linter.unusedVariables false
set_option linter.unusedSimpArgs false

/-- The text of the first n numbers of a row of bytes. -/
def bytesOf (n : Nat) (f : Nat → Int) : ByteArray := ⟨((List.range n).map fun i => UInt8.ofNat (f i).toNat).toArray⟩

theorem bytesOf_size (n : Nat) (f : Nat → Int) : (bytesOf n f).size = n := by simp [bytesOf, ByteArray.size]

theorem bytesOf_bt {n : Nat} {f : Nat → Int} {i : Nat} (hi : i < n) (h0 : 0 ≤ f i) (h1 : f i ≤ 255) : bt (bytesOf n f) i = f i := by
  have hs := bytesOf_size n f
  unfold bt
  rw [dif_pos (by omega), ByteArray.getElem_eq_getElem_data]
  simp only [bytesOf, List.getElem_toArray, List.getElem_map, List.getElem_range, UInt8.toNat_ofNat']
  omega

theorem ba_ext {a b : ByteArray} (hs : a.size = b.size) (h : ∀ i, i < a.size → bt a i = bt b i) : a = b := by
  apply ByteArray.ext
  apply Array.ext
  · exact hs
  · intro i h1 h2
    have hi := h i h1
    unfold bt at hi
    rw [dif_pos (show i < a.size from h1), dif_pos (show i < b.size from h2), ByteArray.getElem_eq_getElem_data, ByteArray.getElem_eq_getElem_data] at hi
    exact UInt8.toNat_inj.1 (by exact_mod_cast hi)

/-- A row of n bytes in block B that may be written. -/
structure Holds (w : World) (B n : Nat) (f : Nat → Int) : Prop where
  get : ∀ i, i < n → w.cell? ⟨B, i, none⟩ = some (.int .u8 (f i)) ∧ w.frozen? ⟨B, i, none⟩ = false

theorem Holds.set {w : World} {B n : Nat} {f : Nat → Int} (h : Holds w B n f) (j : Nat) (hj : j < n) (x : Int) : Holds (w.setCell ⟨B, j, none⟩ (.int .u8 x)) B n (fun i => if i = j then x else f i) := by
  refine ⟨fun i hi => ⟨?_, by rw [World.frozen?_setCell]; exact (h.get i hi).2⟩⟩
  by_cases e : i = j
  · subst e; show _ = some (Value.int .u8 (if i = i then x else f i)); rw [if_pos rfl]; exact World.cell?_setCell_same _ _ _ (h.get i hi).1
  · show _ = some (Value.int .u8 (if i = j then x else f i)); rw [if_neg e, World.cell?_setCell_other _ _ _ _ (fun e2 => e (by injection e2 with _ h2; exact h2.symm))]; exact (h.get i hi).1

theorem Holds.conv {w : World} {B n cap : Nat} {f : Nat → Int} (h : Holds w B n f) (hf : isByte f) :
    (convert 22 9 (.slice (some ⟨B, 0, none⟩) n cap)).run Try.prog w = .ok (.string (bytesOf n f)) w := by
  have hl : ((List.range n).map fun i => UInt8.ofNat (f i).toNat).length = n := by simp
  have := run_convert_bytes_back (P := Try.prog) w 22 9 5 ⟨B, 0, none⟩ cap ((List.range n).map fun i => UInt8.ofNat (f i).toNat) Try.underlying22 Try.underlying5 Try.underlying9 (by
    intro j hj
    have hj' : j < n := by simpa using hj
    have ha : Addr.add ⟨B, 0, none⟩ j = ⟨B, j, none⟩ := by simp only [Addr.add, Nat.zero_add]; split <;> simp_all
    rw [ha, (h.get j hj').1]
    have := hf j
    simp only [List.getElem_map, List.getElem_range, UInt8.toNat_ofNat']
    congr 2; omega)
  rw [hl] at this
  exact this

/-- A new row of a text's bytes. -/
theorem bytes_new (w : World) (s : ByteArray) : ∃ cap W2, (convert 9 22 (.string s)).run Try.prog w = .ok (.slice (some ⟨w.heap.size, 0, none⟩) s.size cap) W2 ∧ Holds W2 w.heap.size s.size (bt s) ∧ Below w.heap.size w W2 ∧ s.size ≤ cap := by
  refine ⟨grownCap w s.size 0 5, _, run_bytes_of_string (P := Try.prog) w 9 22 5 s Try.underlying9 Try.underlying22 Try.underlying5, ?_, ?_, ?_⟩
  · refine ⟨fun i hi => ?_⟩
    have hz : (bytesRow s (grownCap w s.size 0 5)).size = s.size + (grownCap w s.size 0 5 - s.size) := by unfold bytesRow; rw [Array.size_append, Array.size_map, Array.size_replicate]; rfl
    constructor
    · refine (World.cell?_alloc_mark w.drew _ _ _ i).trans ?_
      rw [bytesRow_at s _ i hi, ← get_bt s i hi]; rfl
    · refine (World.frozen?_alloc_mark w.drew _ _ _ _ i).trans ?_
      simp; omega
  · exact (Below.refl _ w).drew.alloc (Nat.le_refl _) _
  · exact grownCap_ge _ _ _ _

/-- Where the byte of the number k comes to lie: that of the number 8 is passed over. -/
def posE (at1 k : Nat) : Nat := if at1 ≤ 8 ∧ 8 ≤ at1 + k then at1 + k + 1 else at1 + k
/-- Where the next one is looked for. -/
def nextE (at1 k : Nat) : Nat := if at1 ≤ 8 ∧ 8 < at1 + k then at1 + k + 1 else at1 + k
/-- The bytes of a prefix into which k bytes have been put. -/
def embF (p : ByteArray) (at1 : Nat) (four : ByteArray) : Nat → Nat → Int
  | 0 => bt p
  | k + 1 => fun i => if i = posE at1 k then bt four k else embF p at1 four k i

theorem embF_byte (p : ByteArray) (at1 : Nat) (four : ByteArray) : ∀ k, isByte (embF p at1 four k)
  | 0 => bt_isByte p
  | k + 1 => fun i => by
    show 0 ≤ (if i = posE at1 k then bt four k else embF p at1 four k i) ∧ (if i = posE at1 k then bt four k else embF p at1 four k i) ≤ 255
    split
    · exact bt_isByte four k
    · exact embF_byte p at1 four k i

theorem nextE_zero (at1 : Nat) : nextE at1 0 = at1 := by unfold nextE; split <;> omega

theorem embE (at1 k : Nat) (ha : at1 ≤ 8 ∨ at1 = 12) (hk : k < 4) : posE at1 k < 16 ∧ nextE at1 (k + 1) = posE at1 k + 1 ∧ posE at1 k = if nextE at1 k = 8 then 9 else nextE at1 k := by
  unfold posE nextE
  refine ⟨by split <;> omega, by split <;> split <;> omega, ?_⟩
  split <;> split <;> split <;> omega

/-- What l02Embed answers. -/
def embV (p : ByteArray) (at1 : Nat) (four : ByteArray) : ByteArray := bytesOf 16 (embF p at1 four 4)


/-- May addresses of IPv4 lie in a prefix? -/
def natBits (b : Int) : Bool := b == 96 || (decide (32 ≤ b) && decide (b ≤ 64) && b % 8 == 0)
def natOk (s : ByteArray) (b : Int) : Bool := prefixOk s b && s.size == 16 && natBits b

theorem natOk_parts {s : ByteArray} {b : Int} (h : natOk s b = true) : prefixOk s b = true ∧ s.size = 16 ∧ 0 ≤ b ∧ b ≤ 128 ∧ ∃ at1 : Nat, b / 8 = (at1 : Int) ∧ b = 8 * (at1 : Int) ∧ at1 ≤ 12 ∧ (at1 ≤ 8 ∨ at1 = 12) := by
  simp [natOk, natBits] at h
  obtain ⟨⟨h1, h2⟩, h3⟩ := h
  obtain ⟨a, b', _⟩ := prefixOk_le h1
  refine ⟨h1, h2, a, by omega, (b / 8).toNat, by omega, ?_, ?_, ?_⟩ <;> omega


/-- Two boxes of two cells that the call has just laid, in a later world. -/
theorem box_cells {w wx : World} {t1 t2 : TypeId} {a0 a1 v0 v1 : Value} (h : Below (w.heap.size + 2) ((w.alloc (.cells #[a0, a1] t1)).alloc (.cells #[v0, v1] t2)) wx) :
    wx.cell? ⟨w.heap.size, 0, none⟩ = some a0 ∧ wx.cell? ⟨w.heap.size, 1, none⟩ = some a1 ∧ wx.cell? ⟨w.heap.size + 1, 0, none⟩ = some v0 ∧ wx.cell? ⟨w.heap.size + 1, 1, none⟩ = some v1 ∧
      wx.frozen? ⟨w.heap.size + 1, 0, none⟩ = false ∧ wx.frozen? ⟨w.heap.size + 1, 1, none⟩ = false := by
  refine ⟨?_, ?_, ?_, ?_, ?_, ?_⟩
  · rw [h.cell (p := ⟨w.heap.size, 0, none⟩) (show w.heap.size < w.heap.size + 2 by omega)]; simp
  · rw [h.cell (p := ⟨w.heap.size, 1, none⟩) (show w.heap.size < w.heap.size + 2 by omega)]; simp
  · rw [h.cell (p := ⟨w.heap.size + 1, 0, none⟩) (show w.heap.size + 1 < w.heap.size + 2 by omega)]; simp
  · rw [h.cell (p := ⟨w.heap.size + 1, 1, none⟩) (show w.heap.size + 1 < w.heap.size + 2 by omega)]; simp
  · rw [h.frozen (p := ⟨w.heap.size + 1, 0, none⟩) (show w.heap.size + 1 < w.heap.size + 2 by omega)]; simp
  · rw [h.frozen (p := ⟨w.heap.size + 1, 1, none⟩) (show w.heap.size + 1 < w.heap.size + 2 by omega)]; simp

theorem box_keep {w wx : World} {o1 o2 : Obj} (h : Below ((w.alloc o1).alloc o2).heap.size ((w.alloc o1).alloc o2) wx) : Below (w.heap.size + 2) ((w.alloc o1).alloc o2) wx := h.mono (by simp)
theorem box_size {w wx : World} {o1 o2 : Obj} (h : Below (w.heap.size + 2) ((w.alloc o1).alloc o2) wx) : w.heap.size + 2 ≤ wx.heap.size := Nat.le_trans (by simp) h.size

/-- What Embed answers: the text, and the code. -/
def embedV (p : ByteArray) (b : Int) (four : ByteArray) : ByteArray × Int := if natOk p b = true ∧ four.size = 4 then (embV p (b / 8).toNat four, 0) else (⟨#[]⟩, 1)


end Go.Proofs.Ytofhcplnnamcdab

/- The source of draws: what edge, l02Cut, l02Prefix and l02NatPrefix answer: numbers of 64 bits, texts of at most 16 bytes, prefixes of these. -/
namespace Go.Proofs.Ytofhcplnnamcdab
open Go.RowKit Go.PlainAid
set_option linter.unusedVariables false
set_option linter.unusedSimpArgs false

/-- A number of 64 bits. -/
def In64 (r : Int) : Prop := -9223372036854775808 ≤ r ∧ r ≤ 9223372036854775807

theorem drawEdge_any (B : Nat) (a : Option Addr) (len cap : Nat) (size : Int) (w : World) (hl : len ≤ 1048576) (hs : Src w B a len cap size) :
    Calls Try.prog 23 #[.pointer (some ⟨B, 0, none⟩)] w fun e w' => ∃ r, e = .returned (.int .i64 r) ∧ In64 r ∧ Src w' B a len cap size ∧ w.grownBy w' (some B) := by
  have hB : B < w.heap.size := by obtain ⟨_, _, _, h⟩ := hs; exact World.block_lt_of_cell? w _ h.cb
  have HS : Hid (Src w B a len cap size) := hs
  clear hs
  go_enter Try.func23, Try.ntmps23
  go_wp2_with fail
  refine (drawN_more 14 B a len cap size _ (by omega) (by omega) hl (HS.out.kept (World.grownBy_alloc _ _ none) (by simp))).mono ?_
  rintro e w1 ⟨q, rfl, q0, q1, hs1, hg1⟩
  obtain ⟨k, rfl⟩ := Int.eq_ofNat_of_zero_le q0
  have hc : ∃ r, w1.cell? ⟨w.heap.size, k, none⟩ = some (.int .i64 r) ∧ In64 r := by
    have hk : k < 14 := by omega
    match k, hk with
    | 0, _ => exact ⟨_, hg1.cell ((World.cell?_alloc_mark w _ _ _ 0).trans rfl) (by simp; omega), by unfold In64; omega⟩
    | 1, _ => exact ⟨_, hg1.cell ((World.cell?_alloc_mark w _ _ _ 1).trans rfl) (by simp; omega), by unfold In64; omega⟩
    | 2, _ => exact ⟨_, hg1.cell ((World.cell?_alloc_mark w _ _ _ 2).trans rfl) (by simp; omega), by unfold In64; omega⟩
    | 3, _ => exact ⟨_, hg1.cell ((World.cell?_alloc_mark w _ _ _ 3).trans rfl) (by simp; omega), by unfold In64; omega⟩
    | 4, _ => exact ⟨_, hg1.cell ((World.cell?_alloc_mark w _ _ _ 4).trans rfl) (by simp; omega), by unfold In64; omega⟩
    | 5, _ => exact ⟨_, hg1.cell ((World.cell?_alloc_mark w _ _ _ 5).trans rfl) (by simp; omega), by unfold In64; omega⟩
    | 6, _ => exact ⟨_, hg1.cell ((World.cell?_alloc_mark w _ _ _ 6).trans rfl) (by simp; omega), by unfold In64; omega⟩
    | 7, _ => exact ⟨_, hg1.cell ((World.cell?_alloc_mark w _ _ _ 7).trans rfl) (by simp; omega), by unfold In64; omega⟩
    | 8, _ => exact ⟨_, hg1.cell ((World.cell?_alloc_mark w _ _ _ 8).trans rfl) (by simp; omega), by unfold In64; omega⟩
    | 9, _ => exact ⟨_, hg1.cell ((World.cell?_alloc_mark w _ _ _ 9).trans rfl) (by simp; omega), by unfold In64; omega⟩
    | 10, _ => exact ⟨_, hg1.cell ((World.cell?_alloc_mark w _ _ _ 10).trans rfl) (by simp; omega), by unfold In64; omega⟩
    | 11, _ => exact ⟨_, hg1.cell ((World.cell?_alloc_mark w _ _ _ 11).trans rfl) (by simp; omega), by unfold In64; omega⟩
    | 12, _ => exact ⟨_, hg1.cell ((World.cell?_alloc_mark w _ _ _ 12).trans rfl) (by simp; omega), by unfold In64; omega⟩
    | 13, _ => exact ⟨_, hg1.cell ((World.cell?_alloc_mark w _ _ _ 13).trans rfl) (by simp; omega), by unfold In64; omega⟩
  obtain ⟨r, hc, hr⟩ := hc
  have H1 : Hid (In64 r ∧ Src w1 B a len cap size ∧ w.grownBy w1 (some B)) := ⟨hr, hs1, grown_trans (World.grownBy_alloc _ _ _) hg1⟩
  clear hr hs1 hg1
  go_wp2
  go_ret
  exact ⟨r, rfl, H1.out.1, H1.out.2.1, H1.out.2.2⟩


/-- A prefix in a box of its own. -/
structure BoxP (w : World) (P : Nat) (s : ByteArray) (b : Int) : Prop where
  c0 : w.cell? ⟨P, 0, none⟩ = some (.string s)
  c1 : w.cell? ⟨P, 1, none⟩ = some (.int .i64 b)
  f0 : w.frozen? ⟨P, 0, none⟩ = false
  f1 : w.frozen? ⟨P, 1, none⟩ = false

section
variable {w wx wy : World} {B P : Nat} {s : ByteArray} {b : Int} {a : Option Addr} {len cap : Nat} {size : Int}

theorem BoxP.new (w : World) (s : ByteArray) (b : Int) (t : TypeId) : BoxP (w.alloc (.cells #[.string s, .int .i64 b] t)) w.heap.size s b := ⟨by simp, by simp, by simp, by simp⟩
theorem BoxP.lt (h : BoxP w P s b) : P < w.heap.size := World.block_lt_of_cell? w _ h.c0
theorem BoxP.kept {row : Option Nat} (h : BoxP wx P s b) (hg : wx.grownBy wy row) (hr : some P ≠ row) : BoxP wy P s b :=
  have hb := hg.block P h.lt hr
  ⟨hg.cell h.c0 hr, hg.cell h.c1 hr, (World.frozen?_of_block (a := ⟨P, 0, none⟩) hb).trans h.f0, (World.frozen?_of_block (a := ⟨P, 1, none⟩) hb).trans h.f1⟩
theorem BoxP.set0 (h : BoxP wx P s b) (u : ByteArray) : BoxP (wx.setCell ⟨P, 0, none⟩ (.string u)) P u b :=
  ⟨World.cell?_setCell_same _ _ _ h.c0, (World.cell?_setCell_other _ _ _ _ (by simp)).trans h.c1, by rw [World.frozen?_setCell]; exact h.f0, by rw [World.frozen?_setCell]; exact h.f1⟩
theorem BoxP.set1 (h : BoxP wx P s b) (n : Int) : BoxP (wx.setCell ⟨P, 1, none⟩ (.int .i64 n)) P s n :=
  ⟨(World.cell?_setCell_other _ _ _ _ (by simp)).trans h.c0, World.cell?_setCell_same _ _ _ h.c1, by rw [World.frozen?_setCell]; exact h.f0, by rw [World.frozen?_setCell]; exact h.f1⟩

end



end Go.Proofs.Ytofhcplnnamcdab

/- DrawPa: what the draws of PieceAdd and PieceTick answer. Printed by mkdpa.py. -/
namespace Go.Proofs.Ytofhcplnnamcdab
open Go.RowKit Go.PlainAid
set_option linter.unusedVariables false
set_option linter.unusedSimpArgs false

section
variable {w w1 wx : World} {B len cap g c : Nat} {a : Option Addr} {size : Int} {xs : List Pc}
theorem pa_row (h : LS w1 B a len cap size (.slice (some ⟨g, 0, none⟩) xs.length c) xs wx) (hw : w.heap.size < w1.heap.size) (v0 v1 v2 v3 v4 v5 v6 v7 : Value) :
    SlAt pcL 8 ((((((((wx.setCell ⟨w.heap.size, 0, none⟩ v0).setCell ⟨w.heap.size, 1, none⟩ v1).setCell ⟨w.heap.size, 2, none⟩ v2).setCell ⟨w.heap.size, 3, none⟩ v3).setCell ⟨w.heap.size, 4, none⟩ v4).setCell ⟨w.heap.size, 5, none⟩ v5).setCell ⟨w.heap.size, 6, none⟩ v6).setCell ⟨w.heap.size, 7, none⟩ v7) g 0 xs := by
  obtain ⟨g2, c2, e2, hrow⟩ := h.row
  injection e2 with e2 _ _
  injection e2 with e2
  injection e2 with e2 _
  subst e2
  have hr := hrow.grown (grown_set (o := 7) (grown_set (o := 6) (grown_set (o := 5) (grown_set (o := 4) (grown_set (o := 3) (grown_set (o := 2) (grown_set (o := 1) (grown_set (o := 0) (World.grownBy.refl wx _) v0) v1) v2) v3) v4) v5) v6) v7) hw
  obtain ⟨g3, e3, _, hl⟩ := hr.laid
  injection e3 with e3
  injection e3 with e3 _
  subst e3
  exact hl.at
theorem pa_lt (h : LS w1 B a len cap size (.slice (some ⟨g, 0, none⟩) xs.length c) xs wx) : g < wx.heap.size := by
  obtain ⟨g2, c2, e2, hrow⟩ := h.row
  injection e2 with e2 _ _
  injection e2 with e2
  injection e2 with e2 _
  subst e2
  obtain ⟨g3, e3, _, hl⟩ := hrow.laid
  injection e3 with e3
  injection e3 with e3 _
  subst e3
  exact hl.blk
theorem pa_at (h : LS w1 B a len cap size (.slice (some ⟨g, 0, none⟩) xs.length c) xs wx) : SlAt pcL 8 wx g 0 xs := by
  obtain ⟨g2, c2, e2, hrow⟩ := h.row
  injection e2 with e2 _ _
  injection e2 with e2
  injection e2 with e2 _
  subst e2
  obtain ⟨g3, e3, _, hl⟩ := hrow.laid
  injection e3 with e3
  injection e3 with e3 _
  subst e3
  exact hl.at
theorem pa_bel0 (h : LS w1 B a len cap size (.slice (some ⟨g, 0, none⟩) xs.length c) xs wx) (hw : w.heap.size < w1.heap.size) (hb : Below w.heap.size w w1) (hB : w.heap.size ≤ B) : Below w.heap.size w wx := below_grown hb h.dr.grown hB hb.size
theorem pa_bel (h : LS w1 B a len cap size (.slice (some ⟨g, 0, none⟩) xs.length c) xs wx) (hw : w.heap.size < w1.heap.size) (hb : Below w.heap.size w w1) (hB : w.heap.size ≤ B) (v0 v1 v2 v3 v4 v5 v6 v7 : Value) :
    Below w.heap.size w ((((((((wx.setCell ⟨w.heap.size, 0, none⟩ v0).setCell ⟨w.heap.size, 1, none⟩ v1).setCell ⟨w.heap.size, 2, none⟩ v2).setCell ⟨w.heap.size, 3, none⟩ v3).setCell ⟨w.heap.size, 4, none⟩ v4).setCell ⟨w.heap.size, 5, none⟩ v5).setCell ⟨w.heap.size, 6, none⟩ v6).setCell ⟨w.heap.size, 7, none⟩ v7) := by
  have h0 := pa_bel0 h hw hb hB
  exact (((((((h0.setCell (p := ⟨w.heap.size, 0, none⟩) (Nat.le_refl _) v0).setCell (p := ⟨w.heap.size, 1, none⟩) (Nat.le_refl _) v1).setCell (p := ⟨w.heap.size, 2, none⟩) (Nat.le_refl _) v2).setCell (p := ⟨w.heap.size, 3, none⟩) (Nat.le_refl _) v3).setCell (p := ⟨w.heap.size, 4, none⟩) (Nat.le_refl _) v4).setCell (p := ⟨w.heap.size, 5, none⟩) (Nat.le_refl _) v5).setCell (p := ⟨w.heap.size, 6, none⟩) (Nat.le_refl _) v6).setCell (p := ⟨w.heap.size, 7, none⟩) (Nat.le_refl _) v7
end

set_option maxHeartbeats 1000000 in
theorem drawTick_any (a : Option Addr) (len cap : Nat) (w : World) (hl : len ≤ 1048576) (hb : Bytes w a len w.heap.size) :
    Calls Try.prog 16 #[.slice a len cap] w fun e w' => ∃ (xs : List Pc) (late : Int) (g c : Nat), e = .returned (.tuple #[.slice (some ⟨g, 0, none⟩) xs.length c, .int .i64 late]) ∧ xs.length ≤ 100 ∧ (∀ x ∈ xs, PcDr x) ∧ 0 ≤ late ∧ late < 80 ∧ g < w'.heap.size ∧ SlAt pcL 8 w' g 0 xs ∧ Below w.heap.size w w' := by
  have HS : Hid _ := source_any a len cap w hl hb
  clear hb
  go_enter Try.func16, Try.ntmps16
  go_wp2_with fail
  refine Calls.mono HS.out ?_
  rintro e w1 ⟨rfl, b1, size, s0, s1, hs1⟩
  have HB1 : Hid (Below w.heap.size w w1) := b1
  have HS1 : Hid (Src w1 w.heap.size a len cap size) := hs1
  have hw1 : w.heap.size < w1.heap.size := (Dr.start hs1).hB
  clear b1 hs1 HS s0 s1
  go_wp2_with fail
  refine (drawPieces_any w.heap.size a len cap size _ hl HS1.out).mono ?_
  rintro e w2 ⟨v, xs, rfl, hx100, hL⟩
  obtain ⟨g, c, rfl, _⟩ := hL.row
  have L2 : Hid (LS w1 w.heap.size a len cap size (.slice (some ⟨g, 0, none⟩) xs.length c) xs w2) := hL
  clear hL HS1
  go_wp2_with fail
  refine (drawN_more 80 w.heap.size a len cap size _ (by omega) (by omega) hl L2.out.dr.src).mono ?_
  rintro e w3 ⟨late, rfl, t0, t1, hs1, hg1⟩
  have L3 : Hid (LS w1 w.heap.size a len cap size (.slice (some ⟨g, 0, none⟩) xs.length c) xs w3) := L2.out.draw hs1 hg1
  clear hs1 hg1 L2
  go_wp2_with fail
  go_ret2
  exact ⟨xs, late, g, c, rfl, hx100, L3.out.all, t0, t1, pa_lt L3.out, pa_at L3.out, pa_bel0 L3.out hw1 HB1.out (Nat.le_refl _)⟩

set_option maxRecDepth 100000 in
set_option maxHeartbeats 2000000 in
theorem drawPA_any (a : Option Addr) (len cap : Nat) (w : World) (hl : len ≤ 1048576) (hb : Bytes w a len w.heap.size) :
    Calls Try.prog 12 #[.slice a len cap] w fun e w' => ∃ (xs : List Pc) (p : Pc) (now : Int) (g c : Nat), e = .returned (.tuple #[.slice (some ⟨g, 0, none⟩) xs.length c, pcC p, .int .i64 now]) ∧ xs.length ≤ 100 ∧ (∀ x ∈ xs, PcDr x) ∧ PcDr p ∧ In64 now ∧ g < w'.heap.size ∧ SlAt pcL 8 w' g 0 xs ∧ Below w.heap.size w w' := by
  have O0 : Hid (HoldsL (w.alloc (.cells pcZ0.toArray 37)) w.heap.size pcZ0) := HoldsL.new w pcZ0 _
  have HBY : Hid (Bytes (w.alloc (.cells pcZ0.toArray 37)) a len (w.alloc (.cells pcZ0.toArray 37)).heap.size) := (hb.mono (by simp)).kept (World.grownBy_alloc _ _ none) (by simp)
  have HS : Hid _ := source_any a len cap (w.alloc (.cells pcZ0.toArray 37)) hl HBY.out
  rw [show pcZ0.toArray = #[.string ⟨#[]⟩, .string ⟨#[]⟩, .int .i64 0, .int .i64 0, .int .i64 0, .bool false, .string ⟨#[]⟩, .int .i64 0] from rfl] at O0 HS
  have hZ : (pcZ0).length = 8 := rfl
  clear hb HBY
  unfold pcC
  go_enter Try.func12, Try.ntmps12
  go_wp2_with fail
  refine Calls.mono HS.out ?_
  rintro e w1 ⟨rfl, b1, size, s0, s1, hs1⟩
  have HB1 : Hid (Below w.heap.size w w1) := ((Below.refl _ _).alloc (Nat.le_refl _) _).trans (b1.mono (by simp))
  have O1 : Hid (HoldsL w1 w.heap.size pcZ0) := O0.out.kept (by rw [hZ]; omega) b1
  have HB : Hid ((w.alloc (.cells #[.string ⟨#[]⟩, .string ⟨#[]⟩, .int .i64 0, .int .i64 0, .int .i64 0, .bool false, .string ⟨#[]⟩, .int .i64 0] 37)).heap.size = w.heap.size + 1) := by unfold Hid; simp
  rw [HB.out] at hs1 ⊢
  have HS1 : Hid (Src w1 (w.heap.size + 1) a len cap size) := hs1
  have hw1 : w.heap.size < w1.heap.size := by have := (Dr.start hs1).hB; omega
  obtain ⟨B, hBd', hBd⟩ : ∃ B, B = w.heap.size + 1 ∧ w.heap.size < B := ⟨_, rfl, by omega⟩
  rw [← hBd'] at HS1 ⊢
  clear b1 hs1 HS s0 s1 O0 HB hBd'
  go_wp2_with fail
  refine (drawPieces_any B a len cap size _ hl HS1.out).mono ?_
  rintro e w2 ⟨v, xs, rfl, hx100, hL⟩
  obtain ⟨g, c, rfl, _⟩ := hL.row
  have L2 : Hid (LS w1 B a len cap size (.slice (some ⟨g, 0, none⟩) xs.length c) xs w2) := hL
  have HALL : Hid (∀ x ∈ xs, PcDr x) := hL.all
  have O2 : Hid (HoldsL w2 w.heap.size pcZ0) := O1.out.grown (by rw [hZ]; omega) hL.dr.grown (by simp; omega)
  clear hL HS1 O1
  go_wp2_with fail
  refine (drawPiece_any B a len cap size _ hl L2.out.dr.src).mono ?_
  rintro e w3 ⟨p, rfl, hp, hs1, hg1⟩
  have HP : Hid (PcDr p) := hp
  have L3 : Hid (LS w1 B a len cap size (.slice (some ⟨g, 0, none⟩) xs.length c) xs (w3.alloc (.cells (pcL p).toArray 37))) := (L2.out.draw hs1 hg1).alloc _
  have O3 : Hid (HoldsL (w3.alloc (.cells (pcL p).toArray 37)) w.heap.size pcZ0) := (O2.out.grown (by rw [hZ]; omega) hg1 (by simp; omega)).alloc _
  have Q3 : Hid (HoldsL (w3.alloc (.cells (pcL p).toArray 37)) w3.heap.size (pcL p)) := HoldsL.new w3 (pcL p) _
  have hQ1 : w1.heap.size ≤ w3.heap.size := (L2.out.draw hs1 hg1).dr.le
  have hBw1 : B < w1.heap.size := L2.out.dr.hB
  rw [show (pcL p).toArray = #[.string p.src, .string p.dst, .int .i64 p.proto, .int .i64 p.id, .int .i64 p.off, .bool p.more, .string p.data, .int .i64 p.since] from rfl] at L3 O3 Q3
  clear hs1 hg1 hp L2 O2
  unfold pcC
  go_wp2_with fail
  refine (drawOne_any 15 B a len cap size _ (by omega) hl L3.out.dr.src).mono ?_
  rintro e w4 ⟨c4, rfl, hs1, hg1⟩
  have L4 : Hid (LS w1 B a len cap size (.slice (some ⟨g, 0, none⟩) xs.length c) xs w4) := L3.out.draw hs1 hg1
  have O4 : Hid (HoldsL w4 w.heap.size pcZ0) := O3.out.grown (by rw [hZ]; omega) hg1 (by simp; omega)
  obtain ⟨Q, hQd, hQ1'⟩ : ∃ Q, Q = w3.heap.size ∧ w1.heap.size ≤ Q := ⟨_, rfl, hQ1⟩
  rw [← hQd] at Q3 ⊢
  have Q4 : Hid (HoldsL w4 Q (pcL p)) := Q3.out.grown (by simp [pcL]) hg1 (by simp; omega)
  clear hs1 hg1 L3 O3 Q3 hQd hQ1
  have hBl : w.heap.size < B := hBd
  replace hBd : w.heap.size ≤ B := by omega
  cases c4 with
  | true =>
    go_upto_region 5 with fail
    go_cut [2, 4] (fun v nv wx => v = .slice (some ⟨g, 0, none⟩) xs.length c ∧ ∃ r, nv = .int .i64 r ∧ In64 r ∧ HoldsL wx w.heap.size (pcL p) ∧ SlAt pcL 8 wx g 0 xs ∧ g < wx.heap.size ∧ Below w.heap.size w wx)
    case first =>
      have k0 : w4.cell? ⟨Q, 0, none⟩ = some (.string p.src) := Q4.out.cell rfl
      have k1 : w4.cell? ⟨Q, 1, none⟩ = some (.string p.dst) := Q4.out.cell rfl
      have k2 : w4.cell? ⟨Q, 2, none⟩ = some (.int .i64 p.proto) := Q4.out.cell rfl
      have k3 : w4.cell? ⟨Q, 3, none⟩ = some (.int .i64 p.id) := Q4.out.cell rfl
      have k4 : w4.cell? ⟨Q, 4, none⟩ = some (.int .i64 p.off) := Q4.out.cell rfl
      have k5 : w4.cell? ⟨Q, 5, none⟩ = some (.bool p.more) := Q4.out.cell rfl
      have k6 : w4.cell? ⟨Q, 6, none⟩ = some (.string p.data) := Q4.out.cell rfl
      have k7 : w4.cell? ⟨Q, 7, none⟩ = some (.int .i64 p.since) := Q4.out.cell rfl
      have z0 : w4.cell? ⟨w.heap.size, 0, none⟩ = some (.string ⟨#[]⟩) := O4.out.cell rfl
      have zf0 := O4.out.free (j := 0) (by simp [pcZ0])
      have z1 : w4.cell? ⟨w.heap.size, 1, none⟩ = some (.string ⟨#[]⟩) := O4.out.cell rfl
      have zf1 := O4.out.free (j := 1) (by simp [pcZ0])
      have z2 : w4.cell? ⟨w.heap.size, 2, none⟩ = some (.int .i64 0) := O4.out.cell rfl
      have zf2 := O4.out.free (j := 2) (by simp [pcZ0])
      have z3 : w4.cell? ⟨w.heap.size, 3, none⟩ = some (.int .i64 0) := O4.out.cell rfl
      have zf3 := O4.out.free (j := 3) (by simp [pcZ0])
      have z4 : w4.cell? ⟨w.heap.size, 4, none⟩ = some (.int .i64 0) := O4.out.cell rfl
      have zf4 := O4.out.free (j := 4) (by simp [pcZ0])
      have z5 : w4.cell? ⟨w.heap.size, 5, none⟩ = some (.bool false) := O4.out.cell rfl
      have zf5 := O4.out.free (j := 5) (by simp [pcZ0])
      have z6 : w4.cell? ⟨w.heap.size, 6, none⟩ = some (.string ⟨#[]⟩) := O4.out.cell rfl
      have zf6 := O4.out.free (j := 6) (by simp [pcZ0])
      have z7 : w4.cell? ⟨w.heap.size, 7, none⟩ = some (.int .i64 0) := O4.out.cell rfl
      have zf7 := O4.out.free (j := 7) (by simp [pcZ0])
      go_region_with (go_at_call 23; refine (drawEdge_any B a len cap size _ hl (L4.out.dr.src.kept (grown_drew (World.grownBy.refl w4 none)) (by simp))).mono ?_; rintro e w6 ⟨r, rfl, hr, hs1, hg1⟩; have L6 : Hid (LS w1 B a len cap size (.slice (some ⟨g, 0, none⟩) xs.length c) xs w6) := L4.out.draw hs1 (grown_trans (grown_drew (World.grownBy.refl w4 _)) hg1); have Q6 : Hid (HoldsL w6 Q (pcL p)) := Q4.out.drew.grown (by simp [pcL]) hg1 (by simp; omega); have O6 : Hid (HoldsL w6 w.heap.size pcZ0) := O4.out.drew.grown (by simp [pcZ0]) hg1 (by simp; omega); have q0 : w6.cell? ⟨Q, 0, none⟩ = some (.string p.src) := Q6.out.cell rfl; have q1 : w6.cell? ⟨Q, 1, none⟩ = some (.string p.dst) := Q6.out.cell rfl; have q2 : w6.cell? ⟨Q, 2, none⟩ = some (.int .i64 p.proto) := Q6.out.cell rfl; have q3 : w6.cell? ⟨Q, 3, none⟩ = some (.int .i64 p.id) := Q6.out.cell rfl; have q4 : w6.cell? ⟨Q, 4, none⟩ = some (.int .i64 p.off) := Q6.out.cell rfl; have q5 : w6.cell? ⟨Q, 5, none⟩ = some (.bool p.more) := Q6.out.cell rfl; have q6 : w6.cell? ⟨Q, 6, none⟩ = some (.string p.data) := Q6.out.cell rfl; have q7 : w6.cell? ⟨Q, 7, none⟩ = some (.int .i64 p.since) := Q6.out.cell rfl; have y0 : w6.cell? ⟨w.heap.size, 0, none⟩ = some (.string ⟨#[]⟩) := O6.out.cell rfl; have yf0 := O6.out.free (j := 0) (by simp [pcZ0]); have y1 : w6.cell? ⟨w.heap.size, 1, none⟩ = some (.string ⟨#[]⟩) := O6.out.cell rfl; have yf1 := O6.out.free (j := 1) (by simp [pcZ0]); have y2 : w6.cell? ⟨w.heap.size, 2, none⟩ = some (.int .i64 0) := O6.out.cell rfl; have yf2 := O6.out.free (j := 2) (by simp [pcZ0]); have y3 : w6.cell? ⟨w.heap.size, 3, none⟩ = some (.int .i64 0) := O6.out.cell rfl; have yf3 := O6.out.free (j := 3) (by simp [pcZ0]); have y4 : w6.cell? ⟨w.heap.size, 4, none⟩ = some (.int .i64 0) := O6.out.cell rfl; have yf4 := O6.out.free (j := 4) (by simp [pcZ0]); have y5 : w6.cell? ⟨w.heap.size, 5, none⟩ = some (.bool false) := O6.out.cell rfl; have yf5 := O6.out.free (j := 5) (by simp [pcZ0]); have y6 : w6.cell? ⟨w.heap.size, 6, none⟩ = some (.string ⟨#[]⟩) := O6.out.cell rfl; have yf6 := O6.out.free (j := 6) (by simp [pcZ0]); have y7 : w6.cell? ⟨w.heap.size, 7, none⟩ = some (.int .i64 0) := O6.out.cell rfl; have yf7 := O6.out.free (j := 7) (by simp [pcZ0]); have hIn : In64 r := hr; clear hs1 hg1)
      all_goals go_wp2_with fail
      all_goals go_meet
      all_goals exact ⟨rfl, r, rfl, hIn, (((((((O6.out.set 0 _).set 1 _).set 2 _).set 3 _).set 4 _).set 5 _).set 6 _).set 7 _, pa_row L6.out hw1 _ _ _ _ _ _ _ _, by have := pa_lt L6.out; simpa using this, pa_bel L6.out hw1 HB1.out hBd _ _ _ _ _ _ _ _⟩
    case rest =>
    obtain ⟨rfl, r, rfl, hr, hO, hA, hg, hb⟩ := hcut
    have z0 : wc.cell? ⟨w.heap.size, 0, none⟩ = some (.string p.src) := hO.cell rfl
    have z1 : wc.cell? ⟨w.heap.size, 1, none⟩ = some (.string p.dst) := hO.cell rfl
    have z2 : wc.cell? ⟨w.heap.size, 2, none⟩ = some (.int .i64 p.proto) := hO.cell rfl
    have z3 : wc.cell? ⟨w.heap.size, 3, none⟩ = some (.int .i64 p.id) := hO.cell rfl
    have z4 : wc.cell? ⟨w.heap.size, 4, none⟩ = some (.int .i64 p.off) := hO.cell rfl
    have z5 : wc.cell? ⟨w.heap.size, 5, none⟩ = some (.bool p.more) := hO.cell rfl
    have z6 : wc.cell? ⟨w.heap.size, 6, none⟩ = some (.string p.data) := hO.cell rfl
    have z7 : wc.cell? ⟨w.heap.size, 7, none⟩ = some (.int .i64 p.since) := hO.cell rfl
    have HA : Hid _ := hA
    have HBB : Hid _ := hb
    clear hO hA hb
    go_wp2_with fail
    exact bodyPost_ret (v := .tuple #[.slice (some ⟨g, 0, none⟩) xs.length c, .agg #[.string p.src, .string p.dst, .int .i64 p.proto, .int .i64 p.id, .int .i64 p.off, .bool p.more, .string p.data, .int .i64 p.since], .int .i64 r]) (by simp [results, Try.results12, go_sem, z0, z1, z2, z3, z4, z5, z6, z7]) rfl ⟨xs, p, r, g, c, rfl, hx100, HALL.out, HP.out, hr, hg, HA.out, HBB.out⟩
  | false =>
    go_upto_region 6 with fail
    go_cut [2, 4] (fun v nv wx => v = .slice (some ⟨g, 0, none⟩) xs.length c ∧ ∃ r, nv = .int .i64 r ∧ In64 r ∧ HoldsL wx w.heap.size (pcL p) ∧ SlAt pcL 8 wx g 0 xs ∧ g < wx.heap.size ∧ Below w.heap.size w wx)
    case first =>
      have k0 : w4.cell? ⟨Q, 0, none⟩ = some (.string p.src) := Q4.out.cell rfl
      have k1 : w4.cell? ⟨Q, 1, none⟩ = some (.string p.dst) := Q4.out.cell rfl
      have k2 : w4.cell? ⟨Q, 2, none⟩ = some (.int .i64 p.proto) := Q4.out.cell rfl
      have k3 : w4.cell? ⟨Q, 3, none⟩ = some (.int .i64 p.id) := Q4.out.cell rfl
      have k4 : w4.cell? ⟨Q, 4, none⟩ = some (.int .i64 p.off) := Q4.out.cell rfl
      have k5 : w4.cell? ⟨Q, 5, none⟩ = some (.bool p.more) := Q4.out.cell rfl
      have k6 : w4.cell? ⟨Q, 6, none⟩ = some (.string p.data) := Q4.out.cell rfl
      have k7 : w4.cell? ⟨Q, 7, none⟩ = some (.int .i64 p.since) := Q4.out.cell rfl
      have z0 : w4.cell? ⟨w.heap.size, 0, none⟩ = some (.string ⟨#[]⟩) := O4.out.cell rfl
      have zf0 := O4.out.free (j := 0) (by simp [pcZ0])
      have z1 : w4.cell? ⟨w.heap.size, 1, none⟩ = some (.string ⟨#[]⟩) := O4.out.cell rfl
      have zf1 := O4.out.free (j := 1) (by simp [pcZ0])
      have z2 : w4.cell? ⟨w.heap.size, 2, none⟩ = some (.int .i64 0) := O4.out.cell rfl
      have zf2 := O4.out.free (j := 2) (by simp [pcZ0])
      have z3 : w4.cell? ⟨w.heap.size, 3, none⟩ = some (.int .i64 0) := O4.out.cell rfl
      have zf3 := O4.out.free (j := 3) (by simp [pcZ0])
      have z4 : w4.cell? ⟨w.heap.size, 4, none⟩ = some (.int .i64 0) := O4.out.cell rfl
      have zf4 := O4.out.free (j := 4) (by simp [pcZ0])
      have z5 : w4.cell? ⟨w.heap.size, 5, none⟩ = some (.bool false) := O4.out.cell rfl
      have zf5 := O4.out.free (j := 5) (by simp [pcZ0])
      have z6 : w4.cell? ⟨w.heap.size, 6, none⟩ = some (.string ⟨#[]⟩) := O4.out.cell rfl
      have zf6 := O4.out.free (j := 6) (by simp [pcZ0])
      have z7 : w4.cell? ⟨w.heap.size, 7, none⟩ = some (.int .i64 0) := O4.out.cell rfl
      have zf7 := O4.out.free (j := 7) (by simp [pcZ0])
      go_region_with (go_at_call 22; refine (drawN_more 60 B a len cap size _ (by omega) (by omega) hl (L4.out.dr.src.kept (grown_drew (World.grownBy.refl w4 none)) (by simp))).mono ?_; rintro e w6 ⟨r, rfl, r0, r1, hs1, hg1⟩; have L6 : Hid (LS w1 B a len cap size (.slice (some ⟨g, 0, none⟩) xs.length c) xs w6) := L4.out.draw hs1 (grown_trans (grown_drew (World.grownBy.refl w4 _)) hg1); have Q6 : Hid (HoldsL w6 Q (pcL p)) := Q4.out.drew.grown (by simp [pcL]) hg1 (by simp; omega); have O6 : Hid (HoldsL w6 w.heap.size pcZ0) := O4.out.drew.grown (by simp [pcZ0]) hg1 (by simp; omega); have q0 : w6.cell? ⟨Q, 0, none⟩ = some (.string p.src) := Q6.out.cell rfl; have q1 : w6.cell? ⟨Q, 1, none⟩ = some (.string p.dst) := Q6.out.cell rfl; have q2 : w6.cell? ⟨Q, 2, none⟩ = some (.int .i64 p.proto) := Q6.out.cell rfl; have q3 : w6.cell? ⟨Q, 3, none⟩ = some (.int .i64 p.id) := Q6.out.cell rfl; have q4 : w6.cell? ⟨Q, 4, none⟩ = some (.int .i64 p.off) := Q6.out.cell rfl; have q5 : w6.cell? ⟨Q, 5, none⟩ = some (.bool p.more) := Q6.out.cell rfl; have q6 : w6.cell? ⟨Q, 6, none⟩ = some (.string p.data) := Q6.out.cell rfl; have q7 : w6.cell? ⟨Q, 7, none⟩ = some (.int .i64 p.since) := Q6.out.cell rfl; have y0 : w6.cell? ⟨w.heap.size, 0, none⟩ = some (.string ⟨#[]⟩) := O6.out.cell rfl; have yf0 := O6.out.free (j := 0) (by simp [pcZ0]); have y1 : w6.cell? ⟨w.heap.size, 1, none⟩ = some (.string ⟨#[]⟩) := O6.out.cell rfl; have yf1 := O6.out.free (j := 1) (by simp [pcZ0]); have y2 : w6.cell? ⟨w.heap.size, 2, none⟩ = some (.int .i64 0) := O6.out.cell rfl; have yf2 := O6.out.free (j := 2) (by simp [pcZ0]); have y3 : w6.cell? ⟨w.heap.size, 3, none⟩ = some (.int .i64 0) := O6.out.cell rfl; have yf3 := O6.out.free (j := 3) (by simp [pcZ0]); have y4 : w6.cell? ⟨w.heap.size, 4, none⟩ = some (.int .i64 0) := O6.out.cell rfl; have yf4 := O6.out.free (j := 4) (by simp [pcZ0]); have y5 : w6.cell? ⟨w.heap.size, 5, none⟩ = some (.bool false) := O6.out.cell rfl; have yf5 := O6.out.free (j := 5) (by simp [pcZ0]); have y6 : w6.cell? ⟨w.heap.size, 6, none⟩ = some (.string ⟨#[]⟩) := O6.out.cell rfl; have yf6 := O6.out.free (j := 6) (by simp [pcZ0]); have y7 : w6.cell? ⟨w.heap.size, 7, none⟩ = some (.int .i64 0) := O6.out.cell rfl; have yf7 := O6.out.free (j := 7) (by simp [pcZ0]); have hIn : In64 r := ⟨by omega, by omega⟩; clear hs1 hg1)
      all_goals go_wp2_with fail
      all_goals go_meet
      all_goals exact ⟨rfl, r, rfl, hIn, (((((((O6.out.set 0 _).set 1 _).set 2 _).set 3 _).set 4 _).set 5 _).set 6 _).set 7 _, pa_row L6.out hw1 _ _ _ _ _ _ _ _, by have := pa_lt L6.out; simpa using this, pa_bel L6.out hw1 HB1.out hBd _ _ _ _ _ _ _ _⟩
    case rest =>
    obtain ⟨rfl, r, rfl, hr, hO, hA, hg, hb⟩ := hcut
    have z0 : wc.cell? ⟨w.heap.size, 0, none⟩ = some (.string p.src) := hO.cell rfl
    have z1 : wc.cell? ⟨w.heap.size, 1, none⟩ = some (.string p.dst) := hO.cell rfl
    have z2 : wc.cell? ⟨w.heap.size, 2, none⟩ = some (.int .i64 p.proto) := hO.cell rfl
    have z3 : wc.cell? ⟨w.heap.size, 3, none⟩ = some (.int .i64 p.id) := hO.cell rfl
    have z4 : wc.cell? ⟨w.heap.size, 4, none⟩ = some (.int .i64 p.off) := hO.cell rfl
    have z5 : wc.cell? ⟨w.heap.size, 5, none⟩ = some (.bool p.more) := hO.cell rfl
    have z6 : wc.cell? ⟨w.heap.size, 6, none⟩ = some (.string p.data) := hO.cell rfl
    have z7 : wc.cell? ⟨w.heap.size, 7, none⟩ = some (.int .i64 p.since) := hO.cell rfl
    have HA : Hid _ := hA
    have HBB : Hid _ := hb
    clear hO hA hb
    go_wp2_with fail
    exact bodyPost_ret (v := .tuple #[.slice (some ⟨g, 0, none⟩) xs.length c, .agg #[.string p.src, .string p.dst, .int .i64 p.proto, .int .i64 p.id, .int .i64 p.off, .bool p.more, .string p.data, .int .i64 p.since], .int .i64 r]) (by simp [results, Try.results12, go_sem, z0, z1, z2, z3, z4, z5, z6, z7]) rfl ⟨xs, p, r, g, c, rfl, hx100, HALL.out, HP.out, hr, hg, HA.out, HBB.out⟩
end Go.Proofs.Ytofhcplnnamcdab
