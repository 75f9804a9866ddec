import Derived.Test.YtjpdljkjalnmhaaMerged9
import Derived.Test.YtjpdljkjalnmhaaMerged1
import Derived.BigQuiet
import Derived.Deep.DeepCutAuto
import Derived.Test.YtjpdljkjalnmhaaMerged2
import Derived.Test.YtjpdljkjalnmhaaMerged4
set_option linter.unusedVariables false
set_option linter.unusedSimpArgs false
set_option maxRecDepth 100000
set_option maxHeartbeats 8000000
namespace Go.Proofs.Ytjpdljkjalnmhaa
open Go.RowKit Go.PlainAid Go.ChangeShapes Go.WideShapes
structure BoxPiece (w:World) (B:Nat) (p:Pc):Prop where
 c0:w.cell? ⟨B,0,none⟩=some (.string p.src)
 c1:w.cell? ⟨B,1,none⟩=some (.string p.dst)
 c2:w.cell? ⟨B,2,none⟩=some (.int .i64 p.proto)
 c3:w.cell? ⟨B,3,none⟩=some (.int .i64 p.id)
 c4:w.cell? ⟨B,4,none⟩=some (.int .i64 p.off)
 c5:w.cell? ⟨B,5,none⟩=some (.bool p.more)
 c6:w.cell? ⟨B,6,none⟩=some (.string p.data)
 c7:w.cell? ⟨B,7,none⟩=some (.int .i64 p.since)
theorem BoxPiece.kept {w W:World} {B:Nat} {p:Pc} (h:BoxPiece w B p) (hB:Below w.heap.size w W):BoxPiece W B p:=by
 have hb:=World.block_lt_of_cell? w _ h.c0;exact ⟨((bcell hB).1 B 0 hb).trans h.c0,((bcell hB).1 B 1 hb).trans h.c1,((bcell hB).1 B 2 hb).trans h.c2,((bcell hB).1 B 3 hb).trans h.c3,((bcell hB).1 B 4 hb).trans h.c4,((bcell hB).1 B 5 hb).trans h.c5,((bcell hB).1 B 6 hb).trans h.c6,((bcell hB).1 B 7 hb).trans h.c7⟩
theorem BoxPiece.new (w:World) (p:Pc) {t:TypeId}:BoxPiece (w.alloc (.cells #[.string p.src,.string p.dst,.int .i64 p.proto,.int .i64 p.id,.int .i64 p.off,.bool p.more,.string p.data,.int .i64 p.since] t)) w.heap.size p:=⟨cell_new rfl,cell_new rfl,cell_new rfl,cell_new rfl,cell_new rfl,cell_new rfl,cell_new rfl,cell_new rfl⟩
end Go.Proofs.Ytjpdljkjalnmhaa
namespace Go.Proofs.Ytjpdljkjalnmhaa
open Go.RowKit Go.PlainAid
theorem spTime_any (n:Int) (w:World) :
  Calls Try.prog 60 #[.int .i64 n] w fun e w'=>e=.returned (.bool (isTime n))∧w'=w:=by
 by_cases h1:0≤n
 ·by_cases h2:n≤1000000000
  ·have HV:Hid (isTime n=true):=by unfold Hid isTime isIn; simp [h1,h2]
   go_enter Try.func60,Try.ntmps60
   go_wp2_with fail
   go_ret;exact ⟨ret_bool (by rw [HV.out]),rfl⟩
  ·have HV:Hid (isTime n=false):=by unfold Hid isTime isIn; simp [h2]
   go_enter Try.func60,Try.ntmps60
   go_wp2_with fail
   go_ret;exact ⟨ret_bool (by rw [HV.out]),rfl⟩
 ·have HV:Hid (isTime n=false):=by unfold Hid isTime isIn; simp [h1]
  have h1':n < 0:=by omega
  go_enter Try.func60,Try.ntmps60
  go_wp2_with fail
  go_ret;exact ⟨ret_bool (by rw [HV.out]),rfl⟩
end Go.Proofs.Ytjpdljkjalnmhaa
