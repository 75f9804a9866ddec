/- IOut: boxes of a packet beside its code. Printed by mkbox.py. -/
import Derived.Test.YtgnolcbdojjieaaFlat
import Derived.Test.YtgnolcbdojjieaaPkt
namespace Go.Proofs.Ytgnolcbdojjieaa
open Go.RowKit Go.PlainAid

structure BoxC4 (w : World) (B : Nat) (p : P4) (code : Int) : Prop where
 c0 : w.cell? ⟨B, 0, none⟩ = some (.int .i64 p.tos)
 c1 : w.cell? ⟨B, 1, none⟩ = some (.int .i64 p.id)
 c2 : w.cell? ⟨B, 2, none⟩ = some (.bool p.whole)
 c3 : w.cell? ⟨B, 3, none⟩ = some (.bool p.more)
 c4 : w.cell? ⟨B, 4, none⟩ = some (.int .i64 p.off)
 c5 : w.cell? ⟨B, 5, none⟩ = some (.int .i64 p.ttl)
 c6 : w.cell? ⟨B, 6, none⟩ = some (.int .i64 p.proto)
 c7 : w.cell? ⟨B, 7, none⟩ = some (.string p.src)
 c8 : w.cell? ⟨B, 8, none⟩ = some (.string p.dst)
 c9 : w.cell? ⟨B, 9, none⟩ = some (.string p.opts)
 c10 : w.cell? ⟨B, 10, none⟩ = some (.string p.data)
 c11 : w.cell? ⟨B, 11, none⟩ = some (.int .i64 code)
theorem BoxC4.kept {w W : World} {B : Nat} {p : P4} {code : Int} (h : BoxC4 w B p code) (hB : Below w.heap.size w W) : BoxC4 W B p code := by
 have hb := World.block_lt_of_cell? w _ h.c0
 exact ⟨((bcell hB).1 B 0 hb).trans h.c0, ((bcell hB).1 B 1 hb).trans h.c1, ((bcell hB).1 B 2 hb).trans h.c2, ((bcell hB).1 B 3 hb).trans h.c3, ((bcell hB).1 B 4 hb).trans h.c4, ((bcell hB).1 B 5 hb).trans h.c5, ((bcell hB).1 B 6 hb).trans h.c6, ((bcell hB).1 B 7 hb).trans h.c7, ((bcell hB).1 B 8 hb).trans h.c8, ((bcell hB).1 B 9 hb).trans h.c9, ((bcell hB).1 B 10 hb).trans h.c10, ((bcell hB).1 B 11 hb).trans h.c11⟩
theorem BoxC4.new (w : World) (p : P4) (code : Int) {t : TypeId} : BoxC4 (w.alloc (.cells #[.int .i64 p.tos, .int .i64 p.id, .bool p.whole, .bool p.more, .int .i64 p.off, .int .i64 p.ttl, .int .i64 p.proto, .string p.src, .string p.dst, .string p.opts, .string p.data, .int .i64 code] t)) w.heap.size p code := ⟨cell_new rfl, cell_new rfl, cell_new rfl, cell_new rfl, cell_new rfl, cell_new rfl, cell_new rfl, cell_new rfl, cell_new rfl, cell_new rfl, cell_new rfl, cell_new rfl⟩
structure BoxC6 (w : World) (B : Nat) (p : P6) (code : Int) : Prop where
 c0 : w.cell? ⟨B, 0, none⟩ = some (.int .i64 p.cls)
 c1 : w.cell? ⟨B, 1, none⟩ = some (.int .i64 p.flow)
 c2 : w.cell? ⟨B, 2, none⟩ = some (.int .i64 p.next)
 c3 : w.cell? ⟨B, 3, none⟩ = some (.int .i64 p.hops)
 c4 : w.cell? ⟨B, 4, none⟩ = some (.string p.src)
 c5 : w.cell? ⟨B, 5, none⟩ = some (.string p.dst)
 c6 : w.cell? ⟨B, 6, none⟩ = some (.bool p.piece)
 c7 : w.cell? ⟨B, 7, none⟩ = some (.bool p.more)
 c8 : w.cell? ⟨B, 8, none⟩ = some (.int .i64 p.off)
 c9 : w.cell? ⟨B, 9, none⟩ = some (.int .i64 p.id)
 c10 : w.cell? ⟨B, 10, none⟩ = some (.string p.data)
 c11 : w.cell? ⟨B, 11, none⟩ = some (.int .i64 code)
theorem BoxC6.kept {w W : World} {B : Nat} {p : P6} {code : Int} (h : BoxC6 w B p code) (hB : Below w.heap.size w W) : BoxC6 W B p code := by
 have hb := World.block_lt_of_cell? w _ h.c0
 exact ⟨((bcell hB).1 B 0 hb).trans h.c0, ((bcell hB).1 B 1 hb).trans h.c1, ((bcell hB).1 B 2 hb).trans h.c2, ((bcell hB).1 B 3 hb).trans h.c3, ((bcell hB).1 B 4 hb).trans h.c4, ((bcell hB).1 B 5 hb).trans h.c5, ((bcell hB).1 B 6 hb).trans h.c6, ((bcell hB).1 B 7 hb).trans h.c7, ((bcell hB).1 B 8 hb).trans h.c8, ((bcell hB).1 B 9 hb).trans h.c9, ((bcell hB).1 B 10 hb).trans h.c10, ((bcell hB).1 B 11 hb).trans h.c11⟩
theorem BoxC6.new (w : World) (p : P6) (code : Int) {t : TypeId} : BoxC6 (w.alloc (.cells #[.int .i64 p.cls, .int .i64 p.flow, .int .i64 p.next, .int .i64 p.hops, .string p.src, .string p.dst, .bool p.piece, .bool p.more, .int .i64 p.off, .int .i64 p.id, .string p.data, .int .i64 code] t)) w.heap.size p code := ⟨cell_new rfl, cell_new rfl, cell_new rfl, cell_new rfl, cell_new rfl, cell_new rfl, cell_new rfl, cell_new rfl, cell_new rfl, cell_new rfl, cell_new rfl, cell_new rfl⟩
end Go.Proofs.Ytgnolcbdojjieaa
