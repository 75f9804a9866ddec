/- LawBind: the laws' helpers for Bind, its box, and one that came in, opened. Printed by mkflat.py. -/
import Derived.Test.YtilnnihongokealGreatDoorMerged1
import Derived.Test.YtilnnihongokealGreatDoorMerged3
namespace Go.Proofs.YtilnnihongokealGreatDoor
open Go.RowKit Go.PlainAid Go.ChangeShapes Go.WideShapes
set_option linter.unusedVariables false
set_option linter.unusedSimpArgs false

/-- As memory may hold it. -/
def BdWf (p : Bd) : Prop := In64t p.proto ∧ p.inn.size ≤ maxLen ∧ In64t p.inPort ∧ p.out.size ≤ maxLen ∧ In64t p.outPort
/-- It lies in a block. -/
structure BoxBind (w : World) (B : Nat) (p : Bd) : Prop where
 c0 : w.cell? ⟨B, 0, none⟩ = some (.int .i64 p.proto)
 c1 : w.cell? ⟨B, 1, none⟩ = some (.string p.inn)
 c2 : w.cell? ⟨B, 2, none⟩ = some (.int .i64 p.inPort)
 c3 : w.cell? ⟨B, 3, none⟩ = some (.string p.out)
 c4 : w.cell? ⟨B, 4, none⟩ = some (.int .i64 p.outPort)
theorem BoxBind.kept {w W : World} {B : Nat} {p : Bd} (h : BoxBind w B p) (hB : Below w.heap.size w W) : BoxBind W B p := by
 have hb := World.block_lt_of_cell? w _ h.c0
 exact ⟨((bcell hB).1 B 0 hb).trans h.c0, ((bcell hB).1 B 1 hb).trans h.c1, ((bcell hB).1 B 2 hb).trans h.c2, ((bcell hB).1 B 3 hb).trans h.c3, ((bcell hB).1 B 4 hb).trans h.c4⟩
theorem BoxBind.new (w : World) (p : Bd) {t : TypeId} : BoxBind (w.alloc (.cells #[.int .i64 p.proto, .string p.inn, .int .i64 p.inPort, .string p.out, .int .i64 p.outPort] t)) w.heap.size p := ⟨cell_new rfl, cell_new rfl, cell_new rfl, cell_new rfl, cell_new rfl⟩

section
variable {H : Type} {enc : TypeId × Value → H} {w : World} {base : Nat} {spare : Nat → Bool} {held : Bool}
end

set_option maxRecDepth 100000 in
set_option maxHeartbeats 1000000 in
theorem toBind_any (p : Bd) (w : World) :
  Calls Tryz.prog 67 #[bdC p] w fun e w' => e = .returned (bdC p) ∧ Below w.heap.size w w' := by
 obtain ⟨proto, inn, inPort, out, outPort⟩ := p
 unfold bdC
 dsimp only
 go_enter Tryz.func67, Tryz.ntmps67
 go_wp2_with fail
 refine bodyPost_ret (v := .agg #[.int .i64 proto, .string inn, .int .i64 inPort, .string out, .int .i64 outPort]) (by simp [results, Tryz.results67, go_sem]) rfl ⟨rfl, ?_⟩
 exact (((Below.refl _ _).alloc (Nat.le_refl _) _).alloc (by simp) _).alloc (by simp; omega) _

set_option maxRecDepth 100000 in
set_option maxHeartbeats 1000000 in
theorem eqBind_same (p : Bd) (w : World) :
  Calls Tryz.prog 40 #[bdC p, bdC p] w fun e w' => e = .returned (.bool true) ∧ Below w.heap.size w w' := by
 obtain ⟨proto, inn, inPort, out, outPort⟩ := p
 unfold bdC
 dsimp only
 have HZ : Hid (Below w.heap.size w ((w.alloc (.cells #[.int .i64 proto, .string inn, .int .i64 inPort, .string out, .int .i64 outPort] 41)).alloc (.cells #[.int .i64 proto, .string inn, .int .i64 inPort, .string out, .int .i64 outPort] 41))) := ((Below.refl _ _).alloc (Nat.le_refl _) _).alloc (by simp) _
 go_enter Tryz.func40, Tryz.ntmps40
 go_wp2_with fail
 go_ret
 exact ⟨rfl, HZ.out⟩

end Go.Proofs.YtilnnihongokealGreatDoor
