import Derived.Test.YtagbhaalmjpkjaaMerged4
set_option linter.unusedVariables false
set_option linter.unusedSimpArgs false
set_option maxRecDepth 100000
set_option maxHeartbeats 8000000
namespace Go.Proofs.Ytagbhaalmjpkjaa
open Go.RowKit Go.PlainAid Go.ChangeShapes Go.WideShapes
def P4Wf (p:P4):Prop:=In64t p.tos∧In64t p.id∧In64t p.off∧In64t p.ttl∧In64t p.proto∧p.src.size≤maxLen∧p.dst.size≤maxLen∧p.opts.size≤maxLen∧p.data.size≤maxLen
def P4Sm (p:P4):Prop:=p.src.size≤1048576∧p.dst.size≤1048576∧p.opts.size≤1048576∧p.data.size≤1048576
structure BoxV4 (w:World) (B:Nat) (p:P4):Prop where
 c0:w.cell? ⟨B,0,none⟩=some (.int .i64 p.tos)
 c1:w.cell? ⟨B,1,none⟩=some (.int .i64 p.id)
 c2:w.cell? ⟨B,2,none⟩=some (.bool p.whole)
 c3:w.cell? ⟨B,3,none⟩=some (.bool p.more)
 c4:w.cell? ⟨B,4,none⟩=some (.int .i64 p.off)
 c5:w.cell? ⟨B,5,none⟩=some (.int .i64 p.ttl)
 c6:w.cell? ⟨B,6,none⟩=some (.int .i64 p.proto)
 c7:w.cell? ⟨B,7,none⟩=some (.string p.src)
 c8:w.cell? ⟨B,8,none⟩=some (.string p.dst)
 c9:w.cell? ⟨B,9,none⟩=some (.string p.opts)
 c10:w.cell? ⟨B,10,none⟩=some (.string p.data)
theorem BoxV4.kept {w W:World} {B:Nat} {p:P4} (h:BoxV4 w B p) (hB:Below w.heap.size w W):BoxV4 W B p:=by
 have hb:=World.block_lt_of_cell? w _ h.c0;exact ⟨((bcell hB).1 B 0 hb).trans h.c0,((bcell hB).1 B 1 hb).trans h.c1,((bcell hB).1 B 2 hb).trans h.c2,((bcell hB).1 B 3 hb).trans h.c3,((bcell hB).1 B 4 hb).trans h.c4,((bcell hB).1 B 5 hb).trans h.c5,((bcell hB).1 B 6 hb).trans h.c6,((bcell hB).1 B 7 hb).trans h.c7,((bcell hB).1 B 8 hb).trans h.c8,((bcell hB).1 B 9 hb).trans h.c9,((bcell hB).1 B 10 hb).trans h.c10⟩
theorem BoxV4.new (w:World) (p:P4) {t:TypeId}:BoxV4 (w.alloc (.cells #[.int .i64 p.tos,.int .i64 p.id,.bool p.whole,.bool p.more,.int .i64 p.off,.int .i64 p.ttl,.int .i64 p.proto,.string p.src,.string p.dst,.string p.opts,.string p.data] t)) w.heap.size p:=⟨cell_new rfl,cell_new rfl,cell_new rfl,cell_new rfl,cell_new rfl,cell_new rfl,cell_new rfl,cell_new rfl,cell_new rfl,cell_new rfl,cell_new rfl⟩
def P6Wf (p:P6):Prop:=In64t p.cls∧In64t p.flow∧In64t p.next∧In64t p.hops∧p.src.size≤maxLen∧p.dst.size≤maxLen∧In64t p.off∧In64t p.id∧p.data.size≤maxLen
def P6Sm (p:P6):Prop:=p.src.size≤1048576∧p.dst.size≤1048576∧p.data.size≤1048576
structure BoxV6 (w:World) (B:Nat) (p:P6):Prop where
 c0:w.cell? ⟨B,0,none⟩=some (.int .i64 p.cls)
 c1:w.cell? ⟨B,1,none⟩=some (.int .i64 p.flow)
 c2:w.cell? ⟨B,2,none⟩=some (.int .i64 p.next)
 c3:w.cell? ⟨B,3,none⟩=some (.int .i64 p.hops)
 c4:w.cell? ⟨B,4,none⟩=some (.string p.src)
 c5:w.cell? ⟨B,5,none⟩=some (.string p.dst)
 c6:w.cell? ⟨B,6,none⟩=some (.bool p.piece)
 c7:w.cell? ⟨B,7,none⟩=some (.bool p.more)
 c8:w.cell? ⟨B,8,none⟩=some (.int .i64 p.off)
 c9:w.cell? ⟨B,9,none⟩=some (.int .i64 p.id)
 c10:w.cell? ⟨B,10,none⟩=some (.string p.data)
theorem BoxV6.kept {w W:World} {B:Nat} {p:P6} (h:BoxV6 w B p) (hB:Below w.heap.size w W):BoxV6 W B p:=by
 have hb:=World.block_lt_of_cell? w _ h.c0;exact ⟨((bcell hB).1 B 0 hb).trans h.c0,((bcell hB).1 B 1 hb).trans h.c1,((bcell hB).1 B 2 hb).trans h.c2,((bcell hB).1 B 3 hb).trans h.c3,((bcell hB).1 B 4 hb).trans h.c4,((bcell hB).1 B 5 hb).trans h.c5,((bcell hB).1 B 6 hb).trans h.c6,((bcell hB).1 B 7 hb).trans h.c7,((bcell hB).1 B 8 hb).trans h.c8,((bcell hB).1 B 9 hb).trans h.c9,((bcell hB).1 B 10 hb).trans h.c10⟩
theorem BoxV6.new (w:World) (p:P6) {t:TypeId}:BoxV6 (w.alloc (.cells #[.int .i64 p.cls,.int .i64 p.flow,.int .i64 p.next,.int .i64 p.hops,.string p.src,.string p.dst,.bool p.piece,.bool p.more,.int .i64 p.off,.int .i64 p.id,.string p.data] t)) w.heap.size p:=⟨cell_new rfl,cell_new rfl,cell_new rfl,cell_new rfl,cell_new rfl,cell_new rfl,cell_new rfl,cell_new rfl,cell_new rfl,cell_new rfl,cell_new rfl⟩
end Go.Proofs.Ytagbhaalmjpkjaa
