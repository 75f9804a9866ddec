/- LawFlow: the laws' helpers for Flow, its box, and one that came in, opened. Printed by mkflat.py. -/
import Derived.Test.YtkakehchiadpbalFlat
import Derived.Test.YtkakehchiadpbalCarry
namespace Go.Proofs.Ytkakehchiadpbal
open Go.RowKit Go.PlainAid Go.ChangeShapes Go.WideShapes
set_option linter.unusedVariables false
set_option linter.unusedSimpArgs false

theorem arr5 {α : Type} {cs : Array α} (h : cs.size = 5) : ∃ c0 c1 c2 c3 c4, cs = #[c0, c1, c2, c3, c4] := by
  obtain ⟨l⟩ := cs
  match l, h with
  | [c0, c1, c2, c3, c4], _ => exact ⟨c0, c1, c2, c3, c4, rfl⟩

/-- As memory may hold it. -/
def FlWf (p : Fl) : Prop := In64t p.proto ∧ p.src.size ≤ maxLen ∧ p.dst.size ≤ maxLen ∧ In64t p.sp ∧ In64t p.dp
/-- Its texts are in the laws' limits. -/
def FlSm (p : Fl) : Prop := p.src.size ≤ 1048576 ∧ p.dst.size ≤ 1048576
def szFlowV (p : Fl) : Int := szN [p.src.size, p.dst.size] 1048576
theorem szFlow_in {p : Fl} (h : 0 ≤ szFlowV p) : FlSm p := by
  have hb := szN_bound _ _ h
  exact ⟨by have := hb p.src.size (by simp); omega, by have := hb p.dst.size (by simp); omega⟩
/-- It lies in a block. -/
structure BoxFlow (w : World) (B : Nat) (p : Fl) : Prop where
  c0 : w.cell? ⟨B, 0, none⟩ = some (.int .i64 p.proto)
  c1 : w.cell? ⟨B, 1, none⟩ = some (.string p.src)
  c2 : w.cell? ⟨B, 2, none⟩ = some (.string p.dst)
  c3 : w.cell? ⟨B, 3, none⟩ = some (.int .i64 p.sp)
  c4 : w.cell? ⟨B, 4, none⟩ = some (.int .i64 p.dp)
theorem BoxFlow.kept {w W : World} {B : Nat} {p : Fl} (h : BoxFlow w B p) (hB : Below w.heap.size w W) : BoxFlow W B p := by
  have hb := World.block_lt_of_cell? w _ h.c0
  exact ⟨((bcell hB).1 B 0 hb).trans h.c0, ((bcell hB).1 B 1 hb).trans h.c1, ((bcell hB).1 B 2 hb).trans h.c2, ((bcell hB).1 B 3 hb).trans h.c3, ((bcell hB).1 B 4 hb).trans h.c4⟩
theorem BoxFlow.new (w : World) (p : Fl) {t : TypeId} : BoxFlow (w.alloc (.cells #[.int .i64 p.proto, .string p.src, .string p.dst, .int .i64 p.sp, .int .i64 p.dp] t)) w.heap.size p := ⟨cell_new rfl, cell_new rfl, cell_new rfl, cell_new rfl, cell_new rfl⟩






end Go.Proofs.Ytkakehchiadpbal
