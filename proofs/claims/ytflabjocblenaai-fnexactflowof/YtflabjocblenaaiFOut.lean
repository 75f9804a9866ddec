/- FOut: the box of a flow beside its code, its cells alone. -/
import Derived.Test.YtflabjocblenaaiSFlowOf
namespace Go.Proofs.Ytflabjocblenaai
open Go.RowKit Go.PlainAid

structure BoxCF (w : World) (B : Nat) (p : Fl) (code : Int) : Prop where
  c0 : w.cell? ⟨B, 0, none⟩ = some (.int .i64 p.proto)
  c1 : w.cell? ⟨B, 1, none⟩ = some (.string p.src)
  c2 : w.cell? ⟨B, 2, none⟩ = some (.string p.dst)
  c3 : w.cell? ⟨B, 3, none⟩ = some (.int .i64 p.sp)
  c4 : w.cell? ⟨B, 4, none⟩ = some (.int .i64 p.dp)
  c5 : w.cell? ⟨B, 5, none⟩ = some (.int .i64 code)
theorem BoxCF.kept {w W : World} {B : Nat} {p : Fl} {code : Int} (h : BoxCF w B p code) (hB : Below w.heap.size w W) : BoxCF W B p code := by
  have hb := World.block_lt_of_cell? w _ h.c0
  exact ⟨((bcell hB).1 B 0 hb).trans h.c0, ((bcell hB).1 B 1 hb).trans h.c1, ((bcell hB).1 B 2 hb).trans h.c2, ((bcell hB).1 B 3 hb).trans h.c3, ((bcell hB).1 B 4 hb).trans h.c4, ((bcell hB).1 B 5 hb).trans h.c5⟩
theorem BoxCF.new (w : World) (p : Fl) (code : Int) {t : TypeId} : BoxCF (w.alloc (.cells #[.int .i64 p.proto, .string p.src, .string p.dst, .int .i64 p.sp, .int .i64 p.dp, .int .i64 code] t)) w.heap.size p code := ⟨cell_new rfl, cell_new rfl, cell_new rfl, cell_new rfl, cell_new rfl, cell_new rfl⟩
end Go.Proofs.Ytflabjocblenaai
