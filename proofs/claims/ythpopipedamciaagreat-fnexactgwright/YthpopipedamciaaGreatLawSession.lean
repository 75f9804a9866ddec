import Derived.Test.YthpopipedamciaaGreatMerged1
import Derived.Test.YthpopipedamciaaGreatMerged3
set_option linter.unusedVariables false
set_option linter.unusedSimpArgs false
set_option maxRecDepth 100000
set_option maxHeartbeats 8000000
namespace Go.Proofs.YthpopipedamciaaGreat
open Go.RowKit Go.PlainAid Go.ChangeShapes Go.WideShapes
def SsWf (p:Ss):Prop:=In64t p.proto∧p.inn.size≤maxLen∧In64t p.inPort∧p.peer.size≤maxLen∧In64t p.peerPort∧In64t p.state∧In64t p.untl
structure BoxSession (w:World) (B:Nat) (p:Ss):Prop where
 c0:w.cell? ⟨B,0,none⟩=some (.int .i64 p.proto)
 c1:w.cell? ⟨B,1,none⟩=some (.string p.inn)
 c2:w.cell? ⟨B,2,none⟩=some (.int .i64 p.inPort)
 c3:w.cell? ⟨B,3,none⟩=some (.string p.peer)
 c4:w.cell? ⟨B,4,none⟩=some (.int .i64 p.peerPort)
 c5:w.cell? ⟨B,5,none⟩=some (.int .i64 p.state)
 c6:w.cell? ⟨B,6,none⟩=some (.int .i64 p.untl)
theorem BoxSession.kept {w W:World} {B:Nat} {p:Ss} (h:BoxSession w B p) (hB:Below w.heap.size w W):BoxSession W B p:=by
 have hb:=World.block_lt_of_cell? w _ h.c0;exact ⟨((bcell hB).1 B 0 hb).trans h.c0,((bcell hB).1 B 1 hb).trans h.c1,((bcell hB).1 B 2 hb).trans h.c2,((bcell hB).1 B 3 hb).trans h.c3,((bcell hB).1 B 4 hb).trans h.c4,((bcell hB).1 B 5 hb).trans h.c5,((bcell hB).1 B 6 hb).trans h.c6⟩
theorem BoxSession.new (w:World) (p:Ss) {t:TypeId}:BoxSession (w.alloc (.cells #[.int .i64 p.proto,.string p.inn,.int .i64 p.inPort,.string p.peer,.int .i64 p.peerPort,.int .i64 p.state,.int .i64 p.untl] t)) w.heap.size p:=⟨cell_new rfl,cell_new rfl,cell_new rfl,cell_new rfl,cell_new rfl,cell_new rfl,cell_new rfl⟩
section
variable {H:Type} {enc:TypeId × Value→H} {w:World} {base:Nat} {spare:Nat→Bool} {held:Bool}
end
theorem toSession_any (p:Ss) (w:World) :
  Calls Tryz.prog 143 #[ssC p] w fun e w'=>e=.returned (ssC p)∧Below w.heap.size w w':=by
 obtain ⟨proto,inn,inPort,peer,peerPort,state,untl⟩:=p;unfold ssC;dsimp only;go_enter Tryz.func143,Tryz.ntmps143
 go_wp2_with fail
 refine bodyPost_ret (v:=.agg #[.int .i64 proto,.string inn,.int .i64 inPort,.string peer,.int .i64 peerPort,.int .i64 state,.int .i64 untl]) (by simp [results,Tryz.results143,go_sem]) rfl ⟨rfl,?_⟩;exact (((Below.refl _ _).alloc (Nat.le_refl _) _).alloc (by simp) _).alloc (by simp; omega) _
theorem eqSession_same (p:Ss) (w:World) :
  Calls Tryz.prog 145 #[ssC p,ssC p] w fun e w'=>e=.returned (.bool true)∧Below w.heap.size w w':=by
 obtain ⟨proto,inn,inPort,peer,peerPort,state,untl⟩:=p;unfold ssC;dsimp only;have HZ:Hid (Below w.heap.size w ((w.alloc (.cells #[.int .i64 proto,.string inn,.int .i64 inPort,.string peer,.int .i64 peerPort,.int .i64 state,.int .i64 untl] 152)).alloc (.cells #[.int .i64 proto,.string inn,.int .i64 inPort,.string peer,.int .i64 peerPort,.int .i64 state,.int .i64 untl] 152))):=((Below.refl _ _).alloc (Nat.le_refl _) _).alloc (by simp) _;go_enter Tryz.func145,Tryz.ntmps145
 go_wp2_with fail
 go_ret;exact ⟨rfl,HZ.out⟩
end Go.Proofs.YthpopipedamciaaGreat
