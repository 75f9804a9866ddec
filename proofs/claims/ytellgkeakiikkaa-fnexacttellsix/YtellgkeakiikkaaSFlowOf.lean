import Derived.Test.YtellgkeakiikkaaMerged4
import Derived.Test.YtellgkeakiikkaaLawFlow
import Derived.RegionTactic
import Derived.Deep.RegionWith
import Derived.Deep.DeepCutAuto
set_option linter.unusedVariables false
set_option linter.unusedSimpArgs false
set_option maxRecDepth 100000
set_option maxHeartbeats 8000000
namespace Go.Proofs.Ytellgkeakiikkaa
open Go.RowKit Go.PlainAid
structure BoxG (w:World) (X:Nat) (f:Fl):Prop where
 c0:w.cell? ⟨X,0,none⟩=some (.int .i64 f.proto)
 f0:w.frozen? ⟨X,0,none⟩=false
 c1:w.cell? ⟨X,1,none⟩=some (.string f.src)
 f1:w.frozen? ⟨X,1,none⟩=false
 c2:w.cell? ⟨X,2,none⟩=some (.string f.dst)
 f2:w.frozen? ⟨X,2,none⟩=false
 c3:w.cell? ⟨X,3,none⟩=some (.int .i64 f.sp)
 f3:w.frozen? ⟨X,3,none⟩=false
 c4:w.cell? ⟨X,4,none⟩=some (.int .i64 f.dp)
 f4:w.frozen? ⟨X,4,none⟩=false
section
variable {w w':World} {X:Nat} {f:Fl}
theorem BoxG.new (w:World) (f:Fl) {t:TypeId}:BoxG (w.alloc (.cells #[.int .i64 f.proto,.string f.src,.string f.dst,.int .i64 f.sp,.int .i64 f.dp] t)) w.heap.size f:=⟨cell_new rfl,by simp,cell_new rfl,by simp,cell_new rfl,by simp,cell_new rfl,by simp,cell_new rfl,by simp⟩
theorem BoxG.kept (h:BoxG w X f) (q:Below w.heap.size w w'):BoxG w' X f:=by
 have hb:=World.block_lt_of_cell? w _ h.c0;obtain ⟨hc,hf⟩:=bcell q;exact ⟨(hc X 0 hb).trans h.c0,(hf X 0 hb).trans h.f0,(hc X 1 hb).trans h.c1,(hf X 1 hb).trans h.f1,(hc X 2 hb).trans h.c2,(hf X 2 hb).trans h.f2,(hc X 3 hb).trans h.c3,(hf X 3 hb).trans h.f3,(hc X 4 hb).trans h.c4,(hf X 4 hb).trans h.f4⟩
theorem BoxG.other (h:BoxG w X f) {C o:Nat} (v:Value) (hC:C≠X):BoxG (w.setCell ⟨C,o,none⟩ v) X f:=by
 have hc:∀ j,(w.setCell ⟨C,o,none⟩ v).cell? ⟨X,j,none⟩=w.cell? ⟨X,j,none⟩:=fun j=>World.cell?_setCell_other w _ _ v (fun e=>hC (congrArg Addr.block e))
 have hf:∀ j,(w.setCell ⟨C,o,none⟩ v).frozen? ⟨X,j,none⟩=w.frozen? ⟨X,j,none⟩:=fun j=>by simp
 exact ⟨(hc 0).trans h.c0,(hf 0).trans h.f0,(hc 1).trans h.c1,(hf 1).trans h.f1,(hc 2).trans h.c2,(hf 2).trans h.f2,(hc 3).trans h.c3,(hf 3).trans h.f3,(hc 4).trans h.c4,(hf 4).trans h.f4⟩
end
structure BoxO (X:Nat) (w:World) (f:Fl) (code:Int):Prop where
 c0:w.cell? ⟨X,0,none⟩=some (.int .i64 f.proto)
 f0:w.frozen? ⟨X,0,none⟩=false
 c1:w.cell? ⟨X,1,none⟩=some (.string f.src)
 f1:w.frozen? ⟨X,1,none⟩=false
 c2:w.cell? ⟨X,2,none⟩=some (.string f.dst)
 f2:w.frozen? ⟨X,2,none⟩=false
 c3:w.cell? ⟨X,3,none⟩=some (.int .i64 f.sp)
 f3:w.frozen? ⟨X,3,none⟩=false
 c4:w.cell? ⟨X,4,none⟩=some (.int .i64 f.dp)
 f4:w.frozen? ⟨X,4,none⟩=false
 c5:w.cell? ⟨X,5,none⟩=some (.int .i64 code)
 f5:w.frozen? ⟨X,5,none⟩=false
theorem BoxO.new (w:World) (f:Fl) (code:Int) {t:TypeId}:BoxO w.heap.size (w.alloc (.cells #[.int .i64 f.proto,.string f.src,.string f.dst,.int .i64 f.sp,.int .i64 f.dp,.int .i64 code] t)) f code:=⟨cell_new rfl,by simp,cell_new rfl,by simp,cell_new rfl,by simp,cell_new rfl,by simp,cell_new rfl,by simp,cell_new rfl,by simp⟩
theorem BoxO.kept {w w':World} {X:Nat} {f:Fl} {code:Int} (h:BoxO X w f code) (q:Below w.heap.size w w'):BoxO X w' f code:=by
 have hb:=World.block_lt_of_cell? w _ h.c0;obtain ⟨hc,hf⟩:=bcell q;exact ⟨(hc X 0 hb).trans h.c0,(hf X 0 hb).trans h.f0,(hc X 1 hb).trans h.c1,(hf X 1 hb).trans h.f1,(hc X 2 hb).trans h.c2,(hf X 2 hb).trans h.f2,(hc X 3 hb).trans h.c3,(hf X 3 hb).trans h.f3,(hc X 4 hb).trans h.c4,(hf X 4 hb).trans h.f4,(hc X 5 hb).trans h.c5,(hf X 5 hb).trans h.f5⟩
end Go.Proofs.Ytellgkeakiikkaa
