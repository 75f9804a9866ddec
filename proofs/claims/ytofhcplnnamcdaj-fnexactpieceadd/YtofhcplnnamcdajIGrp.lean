/- IGrp: the program's map of pieces by their packets: what it holds, an added piece; keyOf. -/
import Derived.Test.YtofhcplnnamcdajPcMath
import Derived.Test.YtofhcplnnamcdajMapG
import Derived.Test.YtofhcplnnamcdajOwnS
import Derived.Test.YtofhcplnnamcdajSTick
import Derived.DeepKeys5
import Derived.Deep.DeepCutAuto
namespace Go.Proofs.Ytofhcplnnamcdaj
open Go.RowKit Go.PlainAid
open Go.Maps (Keyed)
set_option linter.unusedVariables false
set_option linter.unusedSimpArgs false

/-- The key of a piece's packet. -/
def keyC (q : Pc) : Value := .agg #[.string q.src, .string q.dst, .int .i64 q.proto, .int .i64 q.id]
theorem keyC_eq {p q : Pc} : keyC p = keyC q ↔ onePk p q = true := by
  unfold keyC
  constructor
  · intro h
    simp at h
    exact onePk_of h.1 h.2.1 h.2.2.1 h.2.2.2
  · intro h
    obtain ⟨h1, h2, h3, h4⟩ := onePk_eq h
    rw [h1, h2, h3, h4]
def KeyIn (q : Pc) : Prop := q.src.size ≤ maxLen ∧ q.dst.size ≤ maxLen ∧ In64t q.proto ∧ In64t q.id
theorem keyIn_ok {q : Pc} (hs : PcSm q) (h : pieceOk q = true) : KeyIn q := by
  unfold pieceOk at h
  simp only [Bool.and_eq_true, decide_eq_true_eq] at h
  have h1 := isIn_parts h.1.1.1.1.1.1.1.2
  have h2 := isIn_parts h.1.1.1.1.1.1.2
  obtain ⟨g1, g2, _⟩ := hs
  exact ⟨by unfold maxLen; omega, by unfold maxLen; omega, ⟨by omega, by omega⟩, ⟨by omega, by omega⟩⟩

theorem keyed_pk : Keyed Try.prog 84 := Keyed.of_law (deep_law_gate (by kernel_rfl) (of_decide_eq_true (by kernel_rfl)) (of_decide_eq_true (by kernel_rfl)) (by kernel_rfl) (by kernel_rfl))

theorem wf64_of {n : Int} (h : In64t n) : (Lit.int .i64 n).wf = true := by
  simp [Lit.wf]; exact ⟨h.1, h.2⟩
theorem keyOf_pk (q : Pc) (h : KeyIn q) : ∃ l, keyOf Try.prog 84 (keyC q) = some l := by
  obtain ⟨h1, h2, h3, h4⟩ := h
  have k1 : Try.prog.keyType 84 = true := by kernel_rfl
  have k2 : Try.prog.cellsOf 84 = 4 := by kernel_rfl
  have k3 : Try.prog.cellsOf 9 = 1 := by kernel_rfl
  have k4 : Try.prog.cellsOf 2 = 1 := by kernel_rfl
  have k5 : ∃ m, Try.prog.types.size + 1 = m + 2 := ⟨Try.prog.types.size - 1, by have : 1 ≤ Try.prog.types.size := of_decide_eq_true (by kernel_rfl); omega⟩
  obtain ⟨m, k5⟩ := k5
  have w3 := wf64_of h3
  have w4 := wf64_of h4
  unfold keyOf
  rw [Try.underlying84]
  simp only [k1, Value.formed, keyC, Try.underlying84, k2, Value.cells, k5]
  simp [Program.keyLits, Try.underlying84, Try.underlying9, Try.underlying2, k2, k3, k4, h1, h2, w3, w4]
end Go.Proofs.Ytofhcplnnamcdaj
