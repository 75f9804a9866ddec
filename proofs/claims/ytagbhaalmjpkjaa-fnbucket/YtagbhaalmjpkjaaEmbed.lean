/- Addresses of IPv4 in prefixes: what the specification's l02Nat, Embed and Extract answer. -/
import Derived.Test.YtagbhaalmjpkjaaPrefix
import Derived.Laws.IdiomStrings
namespace Go.Proofs.Ytagbhaalmjpkjaa
open Go.RowKit Go.PlainAid
set_option linter.unusedVariables false
set_option linter.unusedSimpArgs false

/-- The text of the first n numbers of a row of bytes. -/
def bytesOf (n : Nat) (f : Nat → Int) : ByteArray := ⟨((List.range n).map fun i => UInt8.ofNat (f i).toNat).toArray⟩

theorem bytesOf_size (n : Nat) (f : Nat → Int) : (bytesOf n f).size = n := by simp [bytesOf, ByteArray.size]

theorem bytesOf_bt {n : Nat} {f : Nat → Int} {i : Nat} (hi : i < n) (h0 : 0 ≤ f i) (h1 : f i ≤ 255) : bt (bytesOf n f) i = f i := by
  have hs := bytesOf_size n f
  unfold bt
  rw [dif_pos (by omega), ByteArray.getElem_eq_getElem_data]
  simp only [bytesOf, List.getElem_toArray, List.getElem_map, List.getElem_range, UInt8.toNat_ofNat']
  omega

theorem ba_ext {a b : ByteArray} (hs : a.size = b.size) (h : ∀ i, i < a.size → bt a i = bt b i) : a = b := by
  apply ByteArray.ext
  apply Array.ext
  · exact hs
  · intro i h1 h2
    have hi := h i h1
    unfold bt at hi
    rw [dif_pos (show i < a.size from h1), dif_pos (show i < b.size from h2), ByteArray.getElem_eq_getElem_data, ByteArray.getElem_eq_getElem_data] at hi
    exact UInt8.toNat_inj.1 (by exact_mod_cast hi)

/-- A row of n bytes in block B that may be written. -/
structure Holds (w : World) (B n : Nat) (f : Nat → Int) : Prop where
  get : ∀ i, i < n → w.cell? ⟨B, i, none⟩ = some (.int .u8 (f i)) ∧ w.frozen? ⟨B, i, none⟩ = false

theorem Holds.set {w : World} {B n : Nat} {f : Nat → Int} (h : Holds w B n f) (j : Nat) (hj : j < n) (x : Int) : Holds (w.setCell ⟨B, j, none⟩ (.int .u8 x)) B n (fun i => if i = j then x else f i) := by
  refine ⟨fun i hi => ⟨?_, by rw [World.frozen?_setCell]; exact (h.get i hi).2⟩⟩
  by_cases e : i = j
  · subst e; show _ = some (Value.int .u8 (if i = i then x else f i)); rw [if_pos rfl]; exact World.cell?_setCell_same _ _ _ (h.get i hi).1
  · show _ = some (Value.int .u8 (if i = j then x else f i)); rw [if_neg e, World.cell?_setCell_other _ _ _ _ (fun e2 => e (by injection e2 with _ h2; exact h2.symm))]; exact (h.get i hi).1

theorem Holds.conv {w : World} {B n cap : Nat} {f : Nat → Int} (h : Holds w B n f) (hf : isByte f) :
    (convert 22 9 (.slice (some ⟨B, 0, none⟩) n cap)).run Try.prog w = .ok (.string (bytesOf n f)) w := by
  have hl : ((List.range n).map fun i => UInt8.ofNat (f i).toNat).length = n := by simp
  have := run_convert_bytes_back (P := Try.prog) w 22 9 5 ⟨B, 0, none⟩ cap ((List.range n).map fun i => UInt8.ofNat (f i).toNat) Try.underlying22 Try.underlying5 Try.underlying9 (by
    intro j hj
    have hj' : j < n := by simpa using hj
    have ha : Addr.add ⟨B, 0, none⟩ j = ⟨B, j, none⟩ := by simp only [Addr.add, Nat.zero_add]; split <;> simp_all
    rw [ha, (h.get j hj').1]
    have := hf j
    simp only [List.getElem_map, List.getElem_range, UInt8.toNat_ofNat']
    congr 2; omega)
  rw [hl] at this
  exact this

/-- A new row of a text's bytes. -/
theorem bytes_new (w : World) (s : ByteArray) : ∃ cap W2, (convert 9 22 (.string s)).run Try.prog w = .ok (.slice (some ⟨w.heap.size, 0, none⟩) s.size cap) W2 ∧ Holds W2 w.heap.size s.size (bt s) ∧ Below w.heap.size w W2 ∧ s.size ≤ cap := by
  refine ⟨grownCap w s.size 0 5, _, run_bytes_of_string (P := Try.prog) w 9 22 5 s Try.underlying9 Try.underlying22 Try.underlying5, ?_, ?_, ?_⟩
  · refine ⟨fun i hi => ?_⟩
    have hz : (bytesRow s (grownCap w s.size 0 5)).size = s.size + (grownCap w s.size 0 5 - s.size) := by unfold bytesRow; rw [Array.size_append, Array.size_map, Array.size_replicate]; rfl
    constructor
    · refine (World.cell?_alloc_mark w.drew _ _ _ i).trans ?_
      rw [bytesRow_at s _ i hi, ← get_bt s i hi]; rfl
    · refine (World.frozen?_alloc_mark w.drew _ _ _ _ i).trans ?_
      simp; omega
  · exact (Below.refl _ w).drew.alloc (Nat.le_refl _) _
  · exact grownCap_ge _ _ _ _

/-- Where the byte of the number k comes to lie: that of the number 8 is passed over. -/
def posE (at1 k : Nat) : Nat := if at1 ≤ 8 ∧ 8 ≤ at1 + k then at1 + k + 1 else at1 + k
/-- Where the next one is looked for. -/
def nextE (at1 k : Nat) : Nat := if at1 ≤ 8 ∧ 8 < at1 + k then at1 + k + 1 else at1 + k
/-- The bytes of a prefix into which k bytes have been put. -/
def embF (p : ByteArray) (at1 : Nat) (four : ByteArray) : Nat → Nat → Int
  | 0 => bt p
  | k + 1 => fun i => if i = posE at1 k then bt four k else embF p at1 four k i

theorem embF_byte (p : ByteArray) (at1 : Nat) (four : ByteArray) : ∀ k, isByte (embF p at1 four k)
  | 0 => bt_isByte p
  | k + 1 => fun i => by
    show 0 ≤ (if i = posE at1 k then bt four k else embF p at1 four k i) ∧ (if i = posE at1 k then bt four k else embF p at1 four k i) ≤ 255
    split
    · exact bt_isByte four k
    · exact embF_byte p at1 four k i

theorem nextE_zero (at1 : Nat) : nextE at1 0 = at1 := by unfold nextE; split <;> omega

theorem embE (at1 k : Nat) (ha : at1 ≤ 8 ∨ at1 = 12) (hk : k < 4) : posE at1 k < 16 ∧ nextE at1 (k + 1) = posE at1 k + 1 ∧ posE at1 k = if nextE at1 k = 8 then 9 else nextE at1 k := by
  unfold posE nextE
  refine ⟨by split <;> omega, by split <;> split <;> omega, ?_⟩
  split <;> split <;> split <;> omega

/-- What l02Embed answers. -/
def embV (p : ByteArray) (at1 : Nat) (four : ByteArray) : ByteArray := bytesOf 16 (embF p at1 four 4)


/-- May addresses of IPv4 lie in a prefix? -/
def natBits (b : Int) : Bool := b == 96 || (decide (32 ≤ b) && decide (b ≤ 64) && b % 8 == 0)
def natOk (s : ByteArray) (b : Int) : Bool := prefixOk s b && s.size == 16 && natBits b

theorem natOk_parts {s : ByteArray} {b : Int} (h : natOk s b = true) : prefixOk s b = true ∧ s.size = 16 ∧ 0 ≤ b ∧ b ≤ 128 ∧ ∃ at1 : Nat, b / 8 = (at1 : Int) ∧ b = 8 * (at1 : Int) ∧ at1 ≤ 12 ∧ (at1 ≤ 8 ∨ at1 = 12) := by
  simp [natOk, natBits] at h
  obtain ⟨⟨h1, h2⟩, h3⟩ := h
  obtain ⟨a, b', _⟩ := prefixOk_le h1
  refine ⟨h1, h2, a, by omega, (b / 8).toNat, by omega, ?_, ?_, ?_⟩ <;> omega


/-- Two boxes of two cells that the call has just laid, in a later world. -/
theorem box_cells {w wx : World} {t1 t2 : TypeId} {a0 a1 v0 v1 : Value} (h : Below (w.heap.size + 2) ((w.alloc (.cells #[a0, a1] t1)).alloc (.cells #[v0, v1] t2)) wx) :
    wx.cell? ⟨w.heap.size, 0, none⟩ = some a0 ∧ wx.cell? ⟨w.heap.size, 1, none⟩ = some a1 ∧ wx.cell? ⟨w.heap.size + 1, 0, none⟩ = some v0 ∧ wx.cell? ⟨w.heap.size + 1, 1, none⟩ = some v1 ∧
      wx.frozen? ⟨w.heap.size + 1, 0, none⟩ = false ∧ wx.frozen? ⟨w.heap.size + 1, 1, none⟩ = false := by
  refine ⟨?_, ?_, ?_, ?_, ?_, ?_⟩
  · rw [h.cell (p := ⟨w.heap.size, 0, none⟩) (show w.heap.size < w.heap.size + 2 by omega)]; simp
  · rw [h.cell (p := ⟨w.heap.size, 1, none⟩) (show w.heap.size < w.heap.size + 2 by omega)]; simp
  · rw [h.cell (p := ⟨w.heap.size + 1, 0, none⟩) (show w.heap.size + 1 < w.heap.size + 2 by omega)]; simp
  · rw [h.cell (p := ⟨w.heap.size + 1, 1, none⟩) (show w.heap.size + 1 < w.heap.size + 2 by omega)]; simp
  · rw [h.frozen (p := ⟨w.heap.size + 1, 0, none⟩) (show w.heap.size + 1 < w.heap.size + 2 by omega)]; simp
  · rw [h.frozen (p := ⟨w.heap.size + 1, 1, none⟩) (show w.heap.size + 1 < w.heap.size + 2 by omega)]; simp

theorem box_keep {w wx : World} {o1 o2 : Obj} (h : Below ((w.alloc o1).alloc o2).heap.size ((w.alloc o1).alloc o2) wx) : Below (w.heap.size + 2) ((w.alloc o1).alloc o2) wx := h.mono (by simp)
theorem box_size {w wx : World} {o1 o2 : Obj} (h : Below (w.heap.size + 2) ((w.alloc o1).alloc o2) wx) : w.heap.size + 2 ≤ wx.heap.size := Nat.le_trans (by simp) h.size

/-- What Embed answers: the text, and the code. -/
def embedV (p : ByteArray) (b : Int) (four : ByteArray) : ByteArray × Int := if natOk p b = true ∧ four.size = 4 then (embV p (b / 8).toNat four, 0) else (⟨#[]⟩, 1)


end Go.Proofs.Ytagbhaalmjpkjaa
