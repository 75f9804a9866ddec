/- LawV4: the laws' helpers for V4, its box, and one that came in, opened. Printed by mkflat.py. -/
import Derived.Test.YtgnolcbdojjieaaFlat
import Derived.Test.YtgnolcbdojjieaaPkt
namespace Go.Proofs.Ytgnolcbdojjieaa
open Go.RowKit Go.PlainAid Go.ChangeShapes Go.WideShapes
set_option linter.unusedVariables false
set_option linter.unusedSimpArgs false

/-- It lies in a block. -/
structure BoxV4 (w : World) (B : Nat) (p : P4) : Prop where
 c0 : w.cell? ⟨B, 0, none⟩ = some (.int .i64 p.tos)
 c1 : w.cell? ⟨B, 1, none⟩ = some (.int .i64 p.id)
 c2 : w.cell? ⟨B, 2, none⟩ = some (.bool p.whole)
 c3 : w.cell? ⟨B, 3, none⟩ = some (.bool p.more)
 c4 : w.cell? ⟨B, 4, none⟩ = some (.int .i64 p.off)
 c5 : w.cell? ⟨B, 5, none⟩ = some (.int .i64 p.ttl)
 c6 : w.cell? ⟨B, 6, none⟩ = some (.int .i64 p.proto)
 c7 : w.cell? ⟨B, 7, none⟩ = some (.string p.src)
 c8 : w.cell? ⟨B, 8, none⟩ = some (.string p.dst)
 c9 : w.cell? ⟨B, 9, none⟩ = some (.string p.opts)
 c10 : w.cell? ⟨B, 10, none⟩ = some (.string p.data)
theorem BoxV4.kept {w W : World} {B : Nat} {p : P4} (h : BoxV4 w B p) (hB : Below w.heap.size w W) : BoxV4 W B p := by
 have hb := World.block_lt_of_cell? w _ h.c0
 exact ⟨((bcell hB).1 B 0 hb).trans h.c0, ((bcell hB).1 B 1 hb).trans h.c1, ((bcell hB).1 B 2 hb).trans h.c2, ((bcell hB).1 B 3 hb).trans h.c3, ((bcell hB).1 B 4 hb).trans h.c4, ((bcell hB).1 B 5 hb).trans h.c5, ((bcell hB).1 B 6 hb).trans h.c6, ((bcell hB).1 B 7 hb).trans h.c7, ((bcell hB).1 B 8 hb).trans h.c8, ((bcell hB).1 B 9 hb).trans h.c9, ((bcell hB).1 B 10 hb).trans h.c10⟩
theorem BoxV4.new (w : World) (p : P4) {t : TypeId} : BoxV4 (w.alloc (.cells #[.int .i64 p.tos, .int .i64 p.id, .bool p.whole, .bool p.more, .int .i64 p.off, .int .i64 p.ttl, .int .i64 p.proto, .string p.src, .string p.dst, .string p.opts, .string p.data] t)) w.heap.size p := ⟨cell_new rfl, cell_new rfl, cell_new rfl, cell_new rfl, cell_new rfl, cell_new rfl, cell_new rfl, cell_new rfl, cell_new rfl, cell_new rfl, cell_new rfl⟩

section
variable {H : Type} {enc : TypeId × Value → H} {w : World} {base : Nat} {spare : Nat → Bool} {held : Bool}
end

set_option maxRecDepth 100000 in
set_option maxHeartbeats 1000000 in
theorem eqV4_same (p : P4) (w : World) :
  Calls Try.prog 34 #[p4C p, p4C p] w fun e w' => e = .returned (.bool true) ∧ Below w.heap.size w w' := by
 obtain ⟨tos, id, whole, more, off, ttl, proto, src, dst, opts, data⟩ := p
 unfold p4C
 dsimp only
 have HZ : Hid (Below w.heap.size w ((w.alloc (.cells #[.int .i64 tos, .int .i64 id, .bool whole, .bool more, .int .i64 off, .int .i64 ttl, .int .i64 proto, .string src, .string dst, .string opts, .string data] 24)).alloc (.cells #[.int .i64 tos, .int .i64 id, .bool whole, .bool more, .int .i64 off, .int .i64 ttl, .int .i64 proto, .string src, .string dst, .string opts, .string data] 24))) := ((Below.refl _ _).alloc (Nat.le_refl _) _).alloc (by simp) _
 go_enter Try.func34, Try.ntmps34
 go_wp2_with fail
 go_ret
 exact ⟨rfl, HZ.out⟩

set_option maxRecDepth 100000 in
set_option maxHeartbeats 1000000 in
theorem eqV4Out_same (p : P4) (code : Int) (w : World) :
  Calls Try.prog 14 #[p4CO p code, p4CO p code] w fun e w' => e = .returned (.bool true) ∧ Below w.heap.size w w' := by
 have HC : Hid (∀ W, Calls Try.prog 34 #[p4C p, p4C p] W fun e w' => e = .returned (.bool true) ∧ Below W.heap.size W w') := fun W => eqV4_same p W
 obtain ⟨tos, id, whole, more, off, ttl, proto, src, dst, opts, data⟩ := p
 unfold p4C at HC
 unfold p4CO
 dsimp only at *
 have HZ : Hid (Below w.heap.size w ((w.alloc (.cells #[.int .i64 tos, .int .i64 id, .bool whole, .bool more, .int .i64 off, .int .i64 ttl, .int .i64 proto, .string src, .string dst, .string opts, .string data, .int .i64 code] 33)).alloc (.cells #[.int .i64 tos, .int .i64 id, .bool whole, .bool more, .int .i64 off, .int .i64 ttl, .int .i64 proto, .string src, .string dst, .string opts, .string data, .int .i64 code] 33))) := ((Below.refl _ _).alloc (Nat.le_refl _) _).alloc (by simp) _
 go_enter Try.func14, Try.ntmps14
 go_wp2_with fail
 refine (HC.out _).mono ?_
 rintro e w1 ⟨rfl, q1⟩
 have HQ : Hid (Below w.heap.size w w1) := HZ.out.trans (q1.mono HZ.out.size)
 obtain ⟨hc, hf⟩ := bcell q1
 clear q1
 go_wp2_with fail
 go_ret
 exact ⟨rfl, HQ.out⟩

end Go.Proofs.Ytgnolcbdojjieaa
