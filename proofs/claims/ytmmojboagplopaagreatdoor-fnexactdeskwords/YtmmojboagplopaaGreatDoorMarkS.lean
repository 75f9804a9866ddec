/- MarkS: rows that the laws mark: a row of marks that is being laid; nothing of the program but markText. -/
import Derived.Test.YtmmojboagplopaaGreatDoorFlatS
import Derived.Test.YtmmojboagplopaaGreatDoorMarkT
namespace Go.Proofs.YtmmojboagplopaaGreatDoor
open Go.RowKit Go.PlainAid
set_option linter.unusedVariables false
set_option linter.unusedSimpArgs false

/-- The numbers from which the rows are marked. -/
def marksOf (n k L : Nat) : List Nat := (List.range L).map fun i => k + n * i
theorem marksOf_length (n k L : Nat) : (marksOf n k L).length = L := by simp [marksOf]
theorem marksOf_get (n k L i : Nat) (h : i < (marksOf n k L).length) : (marksOf n k L)[i] = k + n * i := by simp [marksOf]

/-- A row of which the first m structs are marked, and the first cells of the next. -/
structure MkSt (en : Nat → List Value) (n : Nat) (w0 : World) (B k L m : Nat) (cs : List Value) (w : World) : Prop where
  laid : SlLaid en n w B (marksOf n k L) L m
  part : w.rangeAt B (m * n) cs
  grown : w0.grownBy w (some B)
section
variable {en : Nat → List Value} {n : Nat} {w0 w w' : World} {B k L m : Nat} {cs : List Value}
theorem MkSt.new (h : SlLaid en n w B (marksOf n k L) L m) (hg : w0.grownBy w (some B)) : MkSt en n w0 B k L m [] w := ⟨h, fun j v hv => by simp at hv, hg⟩
theorem MkSt.idx (hm : m < L) {j : Nat} (hj : j < n) : m * n + j < L * n := by
  have := Nat.mul_le_mul_right n (show m + 1 ≤ L from hm); rw [Nat.succ_mul] at this; omega
theorem MkSt.put (h : MkSt en n w0 B k L m cs w) (hn : ∀ x, (en x).length = n) (hc : cs.length < n) (hm : m < L) (v : Value) : MkSt en n w0 B k L m (cs ++ [v]) (w.setCell ⟨B, m * n + cs.length, none⟩ v) := by
  have hix := MkSt.idx hm hc
  obtain ⟨x, hx⟩ := Option.isSome_iff_exists.1 (h.laid.there _ hix)
  have ho : ∀ o, o ≠ m * n + cs.length → (w.setCell ⟨B, m * n + cs.length, none⟩ v).cell? ⟨B, o, none⟩ = w.cell? ⟨B, o, none⟩ := fun o ho => World.cell?_setCell_other _ _ _ _ (fun e => ho (by injection e with _ e2; exact e2.symm))
  have hs : (w.setCell ⟨B, m * n + cs.length, none⟩ v).cell? ⟨B, m * n + cs.length, none⟩ = some v := World.cell?_setCell_same _ _ _ hx
  refine ⟨⟨?_, fun i hi hk j u hu => ?_, fun i hi => ?_, fun i hi => by rw [World.frozen?_setCell]; exact h.laid.free i hi⟩, fun j u hu => ?_, grown_set h.grown v⟩
  · exact Nat.lt_of_lt_of_le h.laid.blk (((Below.refl 0 w).setCell (p := ⟨B, m * n + cs.length, none⟩) (Nat.zero_le _) v).size)
  · have hj := (List.getElem?_eq_some_iff.1 hu).1
    rw [hn] at hj
    have hle : i * n + n ≤ m * n := by have := Nat.mul_le_mul_right n (show i + 1 ≤ m by omega); rw [Nat.succ_mul] at this; exact this
    rw [ho _ (by omega)]; exact h.laid.at0 i hi hk j u hu
  · by_cases e : i = m * n + cs.length
    · rw [e, hs]; rfl
    · rw [ho _ e]; exact h.laid.there i hi
  · by_cases e : j < cs.length
    · rw [List.getElem?_append_left e] at hu
      rw [ho _ (by omega)]; exact h.part j u hu
    · have hj := (List.getElem?_eq_some_iff.1 hu).1
      rw [List.length_append] at hj
      have : j = cs.length := by simp at hj; omega
      subst this
      simp at hu
      rw [hs, hu]
theorem MkSt.call (h : MkSt en n w0 B k L m cs w) (q : Below w.heap.size w w') : MkSt en n w0 B k L m cs w' :=
  ⟨h.laid.kept q, fun j v hv => ((bcell q).1 B _ h.laid.blk).trans (h.part j v hv), grown_trans h.grown (grown_of_below q)⟩
theorem MkSt.there (h : MkSt en n w0 B k L m cs w) (hm : m < L) {j : Nat} (hj : j < n) : ∃ v, w.cell? ⟨B, m * n + j, none⟩ = some v := Option.isSome_iff_exists.1 (h.laid.there _ (MkSt.idx hm hj))
theorem MkSt.free (h : MkSt en n w0 B k L m cs w) (hm : m < L) {j : Nat} (hj : j < n) : w.frozen? ⟨B, m * n + j, none⟩ = false := h.laid.free _ (MkSt.idx hm hj)
theorem MkSt.next (hn : ∀ x, (en x).length = n) (h : MkSt en n w0 B k L m cs w) (hc : cs = en (k + n * m)) (hm : m < L) : SlLaid en n w B (marksOf n k L) L (m + 1) := by
  refine ⟨h.laid.blk, fun i hi hk j v hv => ?_, h.laid.there, h.laid.free⟩
  by_cases e : i = m
  · subst e
    rw [marksOf_get, ← hc] at hv
    exact h.part j v hv
  · exact h.laid.at0 i hi (by omega) j v hv
end

theorem markText_at (x : Int) (y : Nat) (w : World) (h : x = (y : Int)) (h0 : 0 < y) (h1 : y ≤ 1073741824) :
    Calls Tryz.prog 12 #[.int .i64 x] w fun e w' => e = .returned (.string (markV y)) ∧ Below w.heap.size w w' := by
  subst h; exact markText_any y w h0 h1
end Go.Proofs.YtmmojboagplopaaGreatDoor
