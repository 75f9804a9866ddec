/- LawBucket: the laws' helpers for Bucket, its box, and one that came in, opened. Printed by mkflat.py. -/
import Derived.Test.YtagbhaalmjpkjaaFlat
import Derived.Test.YtagbhaalmjpkjaaBuck
namespace Go.Proofs.Ytagbhaalmjpkjaa
open Go.RowKit Go.PlainAid Go.ChangeShapes Go.WideShapes
set_option linter.unusedVariables false
set_option linter.unusedSimpArgs false

theorem arr4Bucket {α : Type} {cs : Array α} (h : cs.size = 4) : ∃ c0 c1 c2 c3, cs = #[c0, c1, c2, c3] := by
  obtain ⟨l⟩ := cs
  match l, h with
  | [c0, c1, c2, c3], _ => exact ⟨c0, c1, c2, c3, rfl⟩

/-- As memory may hold it. -/
def BkWf (p : Bk) : Prop := In64t p.left ∧ In64t p.most ∧ In64t p.each ∧ In64t p.since
/-- It lies in a block. -/
structure BoxBucket (w : World) (B : Nat) (p : Bk) : Prop where
  c0 : w.cell? ⟨B, 0, none⟩ = some (.int .i64 p.left)
  c1 : w.cell? ⟨B, 1, none⟩ = some (.int .i64 p.most)
  c2 : w.cell? ⟨B, 2, none⟩ = some (.int .i64 p.each)
  c3 : w.cell? ⟨B, 3, none⟩ = some (.int .i64 p.since)
theorem BoxBucket.kept {w W : World} {B : Nat} {p : Bk} (h : BoxBucket w B p) (hB : Below w.heap.size w W) : BoxBucket W B p := by
  have hb := World.block_lt_of_cell? w _ h.c0
  exact ⟨((bcell hB).1 B 0 hb).trans h.c0, ((bcell hB).1 B 1 hb).trans h.c1, ((bcell hB).1 B 2 hb).trans h.c2, ((bcell hB).1 B 3 hb).trans h.c3⟩
theorem BoxBucket.new (w : World) (p : Bk) {t : TypeId} : BoxBucket (w.alloc (.cells #[.int .i64 p.left, .int .i64 p.most, .int .i64 p.each, .int .i64 p.since] t)) w.heap.size p := ⟨cell_new rfl, cell_new rfl, cell_new rfl, cell_new rfl⟩




end Go.Proofs.Ytagbhaalmjpkjaa
