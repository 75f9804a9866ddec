import Derived.Test.YtellgkeakiikkaaFlat
import Derived.Test.YtellgkeakiikkaaMerged3
set_option linter.unusedVariables false
set_option linter.unusedSimpArgs false
set_option maxRecDepth 100000
set_option maxHeartbeats 8000000
namespace Go.Proofs.Ytellgkeakiikkaa
open Go.RowKit Go.PlainAid Go.ChangeShapes Go.WideShapes
structure BoxFlow (w:World) (B:Nat) (p:Fl):Prop where
 c0:w.cell? ⟨B,0,none⟩=some (.int .i64 p.proto)
 c1:w.cell? ⟨B,1,none⟩=some (.string p.src)
 c2:w.cell? ⟨B,2,none⟩=some (.string p.dst)
 c3:w.cell? ⟨B,3,none⟩=some (.int .i64 p.sp)
 c4:w.cell? ⟨B,4,none⟩=some (.int .i64 p.dp)
theorem BoxFlow.kept {w W:World} {B:Nat} {p:Fl} (h:BoxFlow w B p) (hB:Below w.heap.size w W):BoxFlow W B p:=by
 have hb:=World.block_lt_of_cell? w _ h.c0;exact ⟨((bcell hB).1 B 0 hb).trans h.c0,((bcell hB).1 B 1 hb).trans h.c1,((bcell hB).1 B 2 hb).trans h.c2,((bcell hB).1 B 3 hb).trans h.c3,((bcell hB).1 B 4 hb).trans h.c4⟩
theorem BoxFlow.new (w:World) (p:Fl) {t:TypeId}:BoxFlow (w.alloc (.cells #[.int .i64 p.proto,.string p.src,.string p.dst,.int .i64 p.sp,.int .i64 p.dp] t)) w.heap.size p:=⟨cell_new rfl,cell_new rfl,cell_new rfl,cell_new rfl,cell_new rfl⟩
end Go.Proofs.Ytellgkeakiikkaa
