/- Addresses of IPv4 in prefixes: what the specification's l02Nat, Embed and Extract answer. -/
import Derived.Test.YtgnolcbdojjieaaMerged2
import Derived.Laws.IdiomStrings
namespace Go.Proofs.Ytgnolcbdojjieaa
open Go.RowKit Go.PlainAid
set_option linter.unusedVariables false
set_option linter.unusedSimpArgs false

theorem ba_ext {a b : ByteArray} (hs : a.size = b.size) (h : ∀ i, i < a.size → bt a i = bt b i) : a = b := by
 apply ByteArray.ext
 apply Array.ext
 ·exact hs
 ·intro i h1 h2
  have hi := h i h1
  unfold bt at hi
  rw [dif_pos (show i < a.size from h1), dif_pos (show i < b.size from h2), ByteArray.getElem_eq_getElem_data, ByteArray.getElem_eq_getElem_data] at hi
  exact UInt8.toNat_inj.1 (by exact_mod_cast hi)

/-- A row of n bytes in block B that may be written. -/
structure Holds (w : World) (B n : Nat) (f : Nat → Int) : Prop where
 get : ∀ i, i < n → w.cell? ⟨B, i, none⟩ = some (.int .u8 (f i)) ∧ w.frozen? ⟨B, i, none⟩ = false

theorem Holds.set {w : World} {B n : Nat} {f : Nat → Int} (h : Holds w B n f) (j : Nat) (hj : j < n) (x : Int) : Holds (w.setCell ⟨B, j, none⟩ (.int .u8 x)) B n (fun i => if i = j then x else f i) := by
 refine ⟨fun i hi => ⟨?_, by rw [World.frozen?_setCell]; exact (h.get i hi).2⟩⟩
 by_cases e : i = j
 ·subst e; show _ = some (Value.int .u8 (if i = i then x else f i)); rw [if_pos rfl]; exact World.cell?_setCell_same _ _ _ (h.get i hi).1
 ·show _ = some (Value.int .u8 (if i = j then x else f i)); rw [if_neg e, World.cell?_setCell_other _ _ _ _ (fun e2 => e (by injection e2 with _ h2; exact h2.symm))]; exact (h.get i hi).1

/-- A new row of a text's bytes. -/
theorem bytes_new (w : World) (s : ByteArray) : ∃ cap W2, (convert 9 22 (.string s)).run Try.prog w = .ok (.slice (some ⟨w.heap.size, 0, none⟩) s.size cap) W2 ∧ Holds W2 w.heap.size s.size (bt s) ∧ Below w.heap.size w W2 ∧ s.size ≤ cap := by
 refine ⟨grownCap w s.size 0 5, _, run_bytes_of_string (P := Try.prog) w 9 22 5 s Try.underlying9 Try.underlying22 Try.underlying5, ?_, ?_, ?_⟩
 ·refine ⟨fun i hi => ?_⟩
  have hz : (bytesRow s (grownCap w s.size 0 5)).size = s.size + (grownCap w s.size 0 5 - s.size) := by unfold bytesRow; rw [Array.size_append, Array.size_map, Array.size_replicate]; rfl
  constructor
  ·refine (World.cell?_alloc_mark w.drew _ _ _ i).trans ?_
   rw [bytesRow_at s _ i hi, ← get_bt s i hi]; rfl
  ·refine (World.frozen?_alloc_mark w.drew _ _ _ _ i).trans ?_
   simp; omega
 ·exact (Below.refl _ w).drew.alloc (Nat.le_refl _) _
 ·exact grownCap_ge _ _ _ _

end Go.Proofs.Ytgnolcbdojjieaa
