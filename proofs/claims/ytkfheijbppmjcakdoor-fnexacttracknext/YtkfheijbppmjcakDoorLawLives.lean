/- LawLives: the laws' helpers for Lives, its box, and one that came in, opened. Printed by mkflat.py. -/
import Derived.Test.YtkfheijbppmjcakDoorFlat
import Derived.Test.YtkfheijbppmjcakDoorTrack
namespace Go.Proofs.YtkfheijbppmjcakDoor
open Go.RowKit Go.PlainAid Go.ChangeShapes Go.WideShapes
set_option linter.unusedVariables false
set_option linter.unusedSimpArgs false

theorem arr5Lives {α : Type} {cs : Array α} (h : cs.size = 5) : ∃ c0 c1 c2 c3 c4, cs = #[c0, c1, c2, c3, c4] := by
  obtain ⟨l⟩ := cs
  match l, h with
  | [c0, c1, c2, c3, c4], _ => exact ⟨c0, c1, c2, c3, c4, rfl⟩

/-- As memory may hold it. -/
def LvWf (p : Lv) : Prop := In64t p.udp ∧ In64t p.echo ∧ In64t p.opening ∧ In64t p.opn ∧ In64t p.closing
/-- It lies in a block. -/
structure BoxLives (w : World) (B : Nat) (p : Lv) : Prop where
  c0 : w.cell? ⟨B, 0, none⟩ = some (.int .i64 p.udp)
  c1 : w.cell? ⟨B, 1, none⟩ = some (.int .i64 p.echo)
  c2 : w.cell? ⟨B, 2, none⟩ = some (.int .i64 p.opening)
  c3 : w.cell? ⟨B, 3, none⟩ = some (.int .i64 p.opn)
  c4 : w.cell? ⟨B, 4, none⟩ = some (.int .i64 p.closing)
theorem BoxLives.kept {w W : World} {B : Nat} {p : Lv} (h : BoxLives w B p) (hB : Below w.heap.size w W) : BoxLives W B p := by
  have hb := World.block_lt_of_cell? w _ h.c0
  exact ⟨((bcell hB).1 B 0 hb).trans h.c0, ((bcell hB).1 B 1 hb).trans h.c1, ((bcell hB).1 B 2 hb).trans h.c2, ((bcell hB).1 B 3 hb).trans h.c3, ((bcell hB).1 B 4 hb).trans h.c4⟩
theorem BoxLives.new (w : World) (p : Lv) {t : TypeId} : BoxLives (w.alloc (.cells #[.int .i64 p.udp, .int .i64 p.echo, .int .i64 p.opening, .int .i64 p.opn, .int .i64 p.closing] t)) w.heap.size p := ⟨cell_new rfl, cell_new rfl, cell_new rfl, cell_new rfl, cell_new rfl⟩




end Go.Proofs.YtkfheijbppmjcakDoor
