/- Flat: structs of one-cell fields: opened, their boxes; what is left behind texts. -/
import Derived.Test.YtmmojboagplopaaGreatDoorBase
import Derived.ChangeArms
import Derived.WideShapes
import Derived.ChangeShapes
namespace Go.Proofs.YtmmojboagplopaaGreatDoor
open Go.RowKit Go.ChangeShapes Go.WideShapes
set_option linter.unusedVariables false
set_option linter.unusedSimpArgs false

def In64t (n : Int) : Prop := -9223372036854775808 ≤ n ∧ n ≤ 9223372036854775807
theorem wf64s {n : Int} (h : (Lit.int .i64 n).wf = true) : -9223372036854775808 ≤ n ∧ n ≤ 9223372036854775807 := by
  have := h; simp [Lit.wf] at this; exact ⟨this.1, this.2⟩

/-- What is left behind texts of so many bytes. -/
def szN : List Nat → Int → Int
  | [], left => left
  | n :: l, left => if left < (n : Int) then -1 else szN l (left - n)
theorem szN_yes {n : Nat} {l : List Nat} {left : Int} (h : left < (n : Int)) : szN (n :: l) left = -1 := if_pos h
theorem szN_no {n : Nat} {l : List Nat} {left : Int} (h : ¬ left < (n : Int)) : szN (n :: l) left = szN l (left - n) := if_neg h
theorem szN_bound : ∀ (ns : List Nat) (left : Int), 0 ≤ szN ns left → ∀ q ∈ ns, (q : Int) ≤ left
  | [], _, _, q, hq => by simp at hq
  | p :: l, left, h, q, hq => by
    unfold szN at h
    split at h
    · omega
    · simp only [List.mem_cons] at hq
      rcases hq with rfl | hq
      · omega
      · have := szN_bound l _ h q hq; omega

theorem cell_new {w : World} {cs : Array Value} {t : TypeId} {j : Nat} {v : Value} (h : cs[j]? = some v) : (w.alloc (.cells cs t)).cell? ⟨w.heap.size, j, none⟩ = some v := by
  simp [h]

theorem arr11 {α : Type} {cs : Array α} (h : cs.size = 11) : ∃ c0 c1 c2 c3 c4 c5 c6 c7 c8 c9 c10, cs = #[c0, c1, c2, c3, c4, c5, c6, c7, c8, c9, c10] := by
  obtain ⟨l⟩ := cs
  match l, h with
  | [c0, c1, c2, c3, c4, c5, c6, c7, c8, c9, c10], _ => exact ⟨c0, c1, c2, c3, c4, c5, c6, c7, c8, c9, c10, rfl⟩

section
variable {H : Type} {enc : TypeId × Value → H} {P : Program} {w : World} {base : Nat} {spare : Nat → Bool} {held : Bool}
theorem flat_field {t : TypeId} {fs : Array Field} {n : Nat} {cs : List Value} {x : DataW H × List MemPlace} (ht : P.underlying t = some (.struct fs)) (h : DataW.trod enc P w base spare held n t cs = some x) (i : Nat) (f : Field) (hf : fs[i]? = some f) (ho : f.offset = i) (hc : P.cellsOf f.type = 1) (c : Value) (hcs : cs[i]? = some c) :
    ∃ m y, DataW.trod enc P w base spare held m f.type [c] = some y := by
  obtain ⟨xs, m, _, _, hl, hx, hg⟩ := DataW.trod_struct ht h
  have h1 := hg i f hf
  rw [ho, hc] at h1
  have hi : i < xs.length := by rw [hx]; exact (Array.getElem?_eq_some_iff.mp hf).1
  rw [List.getElem?_eq_getElem hi] at h1
  obtain ⟨hlt, hcc⟩ := List.getElem?_eq_some_iff.mp hcs
  have h2 : (cs.drop i).take 1 = [c] := by rw [List.drop_eq_getElem_cons hlt, hcc]; rfl
  rw [h2] at h1
  exact ⟨m, _, h1⟩
end

end Go.Proofs.YtmmojboagplopaaGreatDoor
