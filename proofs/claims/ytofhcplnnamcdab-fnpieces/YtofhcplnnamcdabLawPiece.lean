/- LawPiece: the laws' helpers for Piece, its box, and one that came in, opened. Printed by mkflat.py. -/
import Derived.Test.YtofhcplnnamcdabFlat
import Derived.Test.YtofhcplnnamcdabPieces
namespace Go.Proofs.Ytofhcplnnamcdab
open Go.RowKit Go.PlainAid Go.ChangeShapes Go.WideShapes
set_option linter.unusedVariables false
set_option linter.unusedSimpArgs false

theorem arr8 {α : Type} {cs : Array α} (h : cs.size = 8) : ∃ c0 c1 c2 c3 c4 c5 c6 c7, cs = #[c0, c1, c2, c3, c4, c5, c6, c7] := by
  obtain ⟨l⟩ := cs
  match l, h with
  | [c0, c1, c2, c3, c4, c5, c6, c7], _ => exact ⟨c0, c1, c2, c3, c4, c5, c6, c7, rfl⟩

/-- As memory may hold it. -/
def PcWf (p : Pc) : Prop := p.src.size ≤ maxLen ∧ p.dst.size ≤ maxLen ∧ In64t p.proto ∧ In64t p.id ∧ In64t p.off ∧ p.data.size ≤ maxLen ∧ In64t p.since
/-- Its texts are in the laws' limits. -/
def PcSm (p : Pc) : Prop := p.src.size ≤ 1048576 ∧ p.dst.size ≤ 1048576 ∧ p.data.size ≤ 1048576
def szPieceV (p : Pc) : Int := szN [p.src.size, p.dst.size, p.data.size] 1048576
theorem szPiece_in {p : Pc} (h : 0 ≤ szPieceV p) : PcSm p := by
  have hb := szN_bound _ _ h
  exact ⟨by have := hb p.src.size (by simp); omega, by have := hb p.dst.size (by simp); omega, by have := hb p.data.size (by simp); omega⟩
/-- It lies in a block. -/
structure BoxPiece (w : World) (B : Nat) (p : Pc) : Prop where
  c0 : w.cell? ⟨B, 0, none⟩ = some (.string p.src)
  c1 : w.cell? ⟨B, 1, none⟩ = some (.string p.dst)
  c2 : w.cell? ⟨B, 2, none⟩ = some (.int .i64 p.proto)
  c3 : w.cell? ⟨B, 3, none⟩ = some (.int .i64 p.id)
  c4 : w.cell? ⟨B, 4, none⟩ = some (.int .i64 p.off)
  c5 : w.cell? ⟨B, 5, none⟩ = some (.bool p.more)
  c6 : w.cell? ⟨B, 6, none⟩ = some (.string p.data)
  c7 : w.cell? ⟨B, 7, none⟩ = some (.int .i64 p.since)
theorem BoxPiece.kept {w W : World} {B : Nat} {p : Pc} (h : BoxPiece w B p) (hB : Below w.heap.size w W) : BoxPiece W B p := by
  have hb := World.block_lt_of_cell? w _ h.c0
  exact ⟨((bcell hB).1 B 0 hb).trans h.c0, ((bcell hB).1 B 1 hb).trans h.c1, ((bcell hB).1 B 2 hb).trans h.c2, ((bcell hB).1 B 3 hb).trans h.c3, ((bcell hB).1 B 4 hb).trans h.c4, ((bcell hB).1 B 5 hb).trans h.c5, ((bcell hB).1 B 6 hb).trans h.c6, ((bcell hB).1 B 7 hb).trans h.c7⟩
theorem BoxPiece.new (w : World) (p : Pc) {t : TypeId} : BoxPiece (w.alloc (.cells #[.string p.src, .string p.dst, .int .i64 p.proto, .int .i64 p.id, .int .i64 p.off, .bool p.more, .string p.data, .int .i64 p.since] t)) w.heap.size p := ⟨cell_new rfl, cell_new rfl, cell_new rfl, cell_new rfl, cell_new rfl, cell_new rfl, cell_new rfl, cell_new rfl⟩





end Go.Proofs.Ytofhcplnnamcdab
