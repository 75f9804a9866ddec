/- Bits, Prefix, Embed, in one text. -/
import Derived.Test.YtofenlclefkgdaaMerged1
import Derived.RegionTactic
import Derived.BigQuiet
import Derived.Deep.QuietTactic
import Derived.Deep.DeepCutAuto
import Derived.Laws.IdiomStrings

/- Addresses and their bits: what the specification's AddrRight, l02Bits and l02Bit answer. -/
namespace Go.Proofs.Ytofenlclefkgdaa
open Go.RowKit Go.PlainAid
set_option linter.unusedVariables false
set_option linter.unusedSimpArgs false

/-- Is a text an address? -/
def addrOk (s : ByteArray) : Bool := s.size == 4 || s.size == 16

theorem addrOk_size {s : ByteArray} (h : addrOk s = true) : s.size = 4 ∨ s.size = 16 := by simpa [addrOk] using h
theorem addrOk_yes {s : ByteArray} (h : s.size = 4 ∨ s.size = 16) : addrOk s = true := by simpa [addrOk] using h
theorem addrOk_no {s : ByteArray} (h : ¬ (s.size = 4 ∨ s.size = 16)) : addrOk s = false := by
 rw [Bool.eq_false_iff]; intro hh; exact h (addrOk_size hh)

theorem specAddrRight_any (s : ByteArray) (w : World) :
  Calls Try.prog 59 #[.string s] w fun e w' => e = .returned (.bool (addrOk s)) ∧ w' = w := by
 by_cases h4 : s.size = 4
 ·have HV : Hid (addrOk s = true) := addrOk_yes (.inl h4)
  have h4' : (s.size : Int) = 4 := by omega
  clear h4
  go_enter Try.func59, Try.ntmps59
  go_wp2
  go_ret
  exact ⟨ret_bool HV.out.symm, rfl⟩
 ·by_cases h16 : s.size = 16
  ·have HV : Hid (addrOk s = true) := addrOk_yes (.inr h16)
   have h16' : (s.size : Int) = 16 := by omega
   clear h16 h4
   go_enter Try.func59, Try.ntmps59
   go_wp2
   go_ret
   exact ⟨ret_bool HV.out.symm, rfl⟩
  ·have HV : Hid (addrOk s = false) := addrOk_no (by omega)
   have e1 : ((s.size : Int) == 4) = false := by simp; omega
   have e2 : ((s.size : Int) == 16) = false := by simp; omega
   go_enter Try.func59, Try.ntmps59
   go_wp2
   go_ret
   exact ⟨ret_bool HV.out.symm, rfl⟩


end Go.Proofs.Ytofenlclefkgdaa

/- Prefixes: what the specification's PrefixRight, l02Has, PrefixHas and l02Nat answer. -/
namespace Go.Proofs.Ytofenlclefkgdaa
open Go.RowKit Go.PlainAid
set_option linter.unusedVariables false
set_option linter.unusedSimpArgs false


end Go.Proofs.Ytofenlclefkgdaa

/- Addresses of IPv4 in prefixes: what the specification's l02Nat, Embed and Extract answer. -/
namespace Go.Proofs.Ytofenlclefkgdaa
open Go.RowKit Go.PlainAid
set_option linter.unusedVariables false
set_option linter.unusedSimpArgs false

/-- The text of the first n numbers of a row of bytes. -/
def bytesOf (n : Nat) (f : Nat → Int) : ByteArray := ⟨((List.range n).map fun i => UInt8.ofNat (f i).toNat).toArray⟩

theorem ba_ext {a b : ByteArray} (hs : a.size = b.size) (h : ∀ i, i < a.size → bt a i = bt b i) : a = b := by
 apply ByteArray.ext
 apply Array.ext
 ·exact hs
 ·intro i h1 h2
  have hi := h i h1
  unfold bt at hi
  rw [dif_pos (show i < a.size from h1), dif_pos (show i < b.size from h2), ByteArray.getElem_eq_getElem_data, ByteArray.getElem_eq_getElem_data] at hi
  exact UInt8.toNat_inj.1 (by exact_mod_cast hi)

/-- A row of n bytes in block B that may be written. -/
structure Holds (w : World) (B n : Nat) (f : Nat → Int) : Prop where
 get : ∀ i, i < n → w.cell? ⟨B, i, none⟩ = some (.int .u8 (f i)) ∧ w.frozen? ⟨B, i, none⟩ = false

theorem Holds.set {w : World} {B n : Nat} {f : Nat → Int} (h : Holds w B n f) (j : Nat) (hj : j < n) (x : Int) : Holds (w.setCell ⟨B, j, none⟩ (.int .u8 x)) B n (fun i => if i = j then x else f i) := by
 refine ⟨fun i hi => ⟨?_, by rw [World.frozen?_setCell]; exact (h.get i hi).2⟩⟩
 by_cases e : i = j
 ·subst e; show _ = some (Value.int .u8 (if i = i then x else f i)); rw [if_pos rfl]; exact World.cell?_setCell_same _ _ _ (h.get i hi).1
 ·show _ = some (Value.int .u8 (if i = j then x else f i)); rw [if_neg e, World.cell?_setCell_other _ _ _ _ (fun e2 => e (by injection e2 with _ h2; exact h2.symm))]; exact (h.get i hi).1

theorem Holds.conv {w : World} {B n cap : Nat} {f : Nat → Int} (h : Holds w B n f) (hf : isByte f) :
  (convert 22 9 (.slice (some ⟨B, 0, none⟩) n cap)).run Try.prog w = .ok (.string (bytesOf n f)) w := by
 have hl : ((List.range n).map fun i => UInt8.ofNat (f i).toNat).length = n := by simp
 have := run_convert_bytes_back (P := Try.prog) w 22 9 5 ⟨B, 0, none⟩ cap ((List.range n).map fun i => UInt8.ofNat (f i).toNat) Try.underlying22 Try.underlying5 Try.underlying9 (by
  intro j hj
  have hj' : j < n := by simpa using hj
  have ha : Addr.add ⟨B, 0, none⟩ j = ⟨B, j, none⟩ := by simp only [Addr.add, Nat.zero_add]; split <;> simp_all
  rw [ha, (h.get j hj').1]
  have := hf j
  simp only [List.getElem_map, List.getElem_range, UInt8.toNat_ofNat']
  congr 2; omega)
 rw [hl] at this
 exact this

/-- A new row of a text's bytes. -/
theorem bytes_new (w : World) (s : ByteArray) : ∃ cap W2, (convert 9 22 (.string s)).run Try.prog w = .ok (.slice (some ⟨w.heap.size, 0, none⟩) s.size cap) W2 ∧ Holds W2 w.heap.size s.size (bt s) ∧ Below w.heap.size w W2 ∧ s.size ≤ cap := by
 refine ⟨grownCap w s.size 0 5, _, run_bytes_of_string (P := Try.prog) w 9 22 5 s Try.underlying9 Try.underlying22 Try.underlying5, ?_, ?_, ?_⟩
 ·refine ⟨fun i hi => ?_⟩
  have hz : (bytesRow s (grownCap w s.size 0 5)).size = s.size + (grownCap w s.size 0 5 - s.size) := by unfold bytesRow; rw [Array.size_append, Array.size_map, Array.size_replicate]; rfl
  constructor
  ·refine (World.cell?_alloc_mark w.drew _ _ _ i).trans ?_
   rw [bytesRow_at s _ i hi, ← get_bt s i hi]; rfl
  ·refine (World.frozen?_alloc_mark w.drew _ _ _ _ i).trans ?_
   simp; omega
 ·exact (Below.refl _ w).drew.alloc (Nat.le_refl _) _
 ·exact grownCap_ge _ _ _ _

end Go.Proofs.Ytofenlclefkgdaa
