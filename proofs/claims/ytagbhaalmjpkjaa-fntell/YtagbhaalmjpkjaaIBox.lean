import Derived.Test.YtagbhaalmjpkjaaMerged5
import Derived.Test.YtagbhaalmjpkjaaICur
set_option linter.unusedVariables false
set_option linter.unusedSimpArgs false
set_option maxRecDepth 100000
set_option maxHeartbeats 8000000
namespace Go.Proofs.Ytagbhaalmjpkjaa
open Go.RowKit Go.PlainAid
structure BoxW4 (w:World) (B:Nat) (p:P4):Prop where
 c0:w.cell? ⟨B,0,none⟩=some (.int .i64 p.tos)
 f0:w.frozen? ⟨B,0,none⟩=false
 c1:w.cell? ⟨B,1,none⟩=some (.int .i64 p.id)
 f1:w.frozen? ⟨B,1,none⟩=false
 c2:w.cell? ⟨B,2,none⟩=some (.bool p.whole)
 f2:w.frozen? ⟨B,2,none⟩=false
 c3:w.cell? ⟨B,3,none⟩=some (.bool p.more)
 f3:w.frozen? ⟨B,3,none⟩=false
 c4:w.cell? ⟨B,4,none⟩=some (.int .i64 p.off)
 f4:w.frozen? ⟨B,4,none⟩=false
 c5:w.cell? ⟨B,5,none⟩=some (.int .i64 p.ttl)
 f5:w.frozen? ⟨B,5,none⟩=false
 c6:w.cell? ⟨B,6,none⟩=some (.int .i64 p.proto)
 f6:w.frozen? ⟨B,6,none⟩=false
 c7:w.cell? ⟨B,7,none⟩=some (.string p.src)
 f7:w.frozen? ⟨B,7,none⟩=false
 c8:w.cell? ⟨B,8,none⟩=some (.string p.dst)
 f8:w.frozen? ⟨B,8,none⟩=false
 c9:w.cell? ⟨B,9,none⟩=some (.string p.opts)
 f9:w.frozen? ⟨B,9,none⟩=false
 c10:w.cell? ⟨B,10,none⟩=some (.string p.data)
 f10:w.frozen? ⟨B,10,none⟩=false
theorem BoxW4.kept {w W:World} {B:Nat} {p:P4} (h:BoxW4 w B p) (hB:Below w.heap.size w W):BoxW4 W B p:=by
 have hb:=World.block_lt_of_cell? w _ h.c0;exact ⟨((bcell hB).1 B 0 hb).trans h.c0,((bcell hB).2 B 0 hb).trans h.f0,((bcell hB).1 B 1 hb).trans h.c1,((bcell hB).2 B 1 hb).trans h.f1,((bcell hB).1 B 2 hb).trans h.c2,((bcell hB).2 B 2 hb).trans h.f2,((bcell hB).1 B 3 hb).trans h.c3,((bcell hB).2 B 3 hb).trans h.f3,((bcell hB).1 B 4 hb).trans h.c4,((bcell hB).2 B 4 hb).trans h.f4,((bcell hB).1 B 5 hb).trans h.c5,((bcell hB).2 B 5 hb).trans h.f5,((bcell hB).1 B 6 hb).trans h.c6,((bcell hB).2 B 6 hb).trans h.f6,((bcell hB).1 B 7 hb).trans h.c7,((bcell hB).2 B 7 hb).trans h.f7,((bcell hB).1 B 8 hb).trans h.c8,((bcell hB).2 B 8 hb).trans h.f8,((bcell hB).1 B 9 hb).trans h.c9,((bcell hB).2 B 9 hb).trans h.f9,((bcell hB).1 B 10 hb).trans h.c10,((bcell hB).2 B 10 hb).trans h.f10⟩
theorem BoxW4.other {w:World} {B:Nat} {p:P4} (h:BoxW4 w B p) {C o:Nat} (v:Value) (hC:C≠B):BoxW4 (w.setCell ⟨C,o,none⟩ v) B p:=by
 have hc:∀ j,(w.setCell ⟨C,o,none⟩ v).cell? ⟨B,j,none⟩=w.cell? ⟨B,j,none⟩:=fun j=>World.cell?_setCell_other w _ _ v (fun e=>hC (congrArg Addr.block e))
 have hf:∀ j,(w.setCell ⟨C,o,none⟩ v).frozen? ⟨B,j,none⟩=w.frozen? ⟨B,j,none⟩:=fun j=>by simp
 exact ⟨(hc 0).trans h.c0,(hf 0).trans h.f0,(hc 1).trans h.c1,(hf 1).trans h.f1,(hc 2).trans h.c2,(hf 2).trans h.f2,(hc 3).trans h.c3,(hf 3).trans h.f3,(hc 4).trans h.c4,(hf 4).trans h.f4,(hc 5).trans h.c5,(hf 5).trans h.f5,(hc 6).trans h.c6,(hf 6).trans h.f6,(hc 7).trans h.c7,(hf 7).trans h.f7,(hc 8).trans h.c8,(hf 8).trans h.f8,(hc 9).trans h.c9,(hf 9).trans h.f9,(hc 10).trans h.c10,(hf 10).trans h.f10⟩
theorem BoxW4.set0 {w:World} {B:Nat} {p:P4} (h:BoxW4 w B p) (x:Int):BoxW4 (w.setCell ⟨B,0,none⟩ (.int .i64 x)) B { p with tos:=x }:=by
 have hc:∀ j,j≠0→(w.setCell ⟨B,0,none⟩ (.int .i64 x)).cell? ⟨B,j,none⟩=w.cell? ⟨B,j,none⟩:=fun j hj=>World.cell?_setCell_other w _ _ _ (fun e=>hj (congrArg Addr.off e).symm)
 have hf:∀ j,(w.setCell ⟨B,0,none⟩ (.int .i64 x)).frozen? ⟨B,j,none⟩=w.frozen? ⟨B,j,none⟩:=fun j=>by simp
 exact ⟨World.cell?_setCell_same _ _ _ h.c0,(hf 0).trans h.f0,(hc 1 (by decide)).trans h.c1,(hf 1).trans h.f1,(hc 2 (by decide)).trans h.c2,(hf 2).trans h.f2,(hc 3 (by decide)).trans h.c3,(hf 3).trans h.f3,(hc 4 (by decide)).trans h.c4,(hf 4).trans h.f4,(hc 5 (by decide)).trans h.c5,(hf 5).trans h.f5,(hc 6 (by decide)).trans h.c6,(hf 6).trans h.f6,(hc 7 (by decide)).trans h.c7,(hf 7).trans h.f7,(hc 8 (by decide)).trans h.c8,(hf 8).trans h.f8,(hc 9 (by decide)).trans h.c9,(hf 9).trans h.f9,(hc 10 (by decide)).trans h.c10,(hf 10).trans h.f10⟩
theorem BoxW4.set1 {w:World} {B:Nat} {p:P4} (h:BoxW4 w B p) (x:Int):BoxW4 (w.setCell ⟨B,1,none⟩ (.int .i64 x)) B { p with id:=x }:=by
 have hc:∀ j,j≠1→(w.setCell ⟨B,1,none⟩ (.int .i64 x)).cell? ⟨B,j,none⟩=w.cell? ⟨B,j,none⟩:=fun j hj=>World.cell?_setCell_other w _ _ _ (fun e=>hj (congrArg Addr.off e).symm)
 have hf:∀ j,(w.setCell ⟨B,1,none⟩ (.int .i64 x)).frozen? ⟨B,j,none⟩=w.frozen? ⟨B,j,none⟩:=fun j=>by simp
 exact ⟨(hc 0 (by decide)).trans h.c0,(hf 0).trans h.f0,World.cell?_setCell_same _ _ _ h.c1,(hf 1).trans h.f1,(hc 2 (by decide)).trans h.c2,(hf 2).trans h.f2,(hc 3 (by decide)).trans h.c3,(hf 3).trans h.f3,(hc 4 (by decide)).trans h.c4,(hf 4).trans h.f4,(hc 5 (by decide)).trans h.c5,(hf 5).trans h.f5,(hc 6 (by decide)).trans h.c6,(hf 6).trans h.f6,(hc 7 (by decide)).trans h.c7,(hf 7).trans h.f7,(hc 8 (by decide)).trans h.c8,(hf 8).trans h.f8,(hc 9 (by decide)).trans h.c9,(hf 9).trans h.f9,(hc 10 (by decide)).trans h.c10,(hf 10).trans h.f10⟩
theorem BoxW4.set2 {w:World} {B:Nat} {p:P4} (h:BoxW4 w B p) (x:Bool):BoxW4 (w.setCell ⟨B,2,none⟩ (.bool x)) B { p with whole:=x }:=by
 have hc:∀ j,j≠2→(w.setCell ⟨B,2,none⟩ (.bool x)).cell? ⟨B,j,none⟩=w.cell? ⟨B,j,none⟩:=fun j hj=>World.cell?_setCell_other w _ _ _ (fun e=>hj (congrArg Addr.off e).symm)
 have hf:∀ j,(w.setCell ⟨B,2,none⟩ (.bool x)).frozen? ⟨B,j,none⟩=w.frozen? ⟨B,j,none⟩:=fun j=>by simp
 exact ⟨(hc 0 (by decide)).trans h.c0,(hf 0).trans h.f0,(hc 1 (by decide)).trans h.c1,(hf 1).trans h.f1,World.cell?_setCell_same _ _ _ h.c2,(hf 2).trans h.f2,(hc 3 (by decide)).trans h.c3,(hf 3).trans h.f3,(hc 4 (by decide)).trans h.c4,(hf 4).trans h.f4,(hc 5 (by decide)).trans h.c5,(hf 5).trans h.f5,(hc 6 (by decide)).trans h.c6,(hf 6).trans h.f6,(hc 7 (by decide)).trans h.c7,(hf 7).trans h.f7,(hc 8 (by decide)).trans h.c8,(hf 8).trans h.f8,(hc 9 (by decide)).trans h.c9,(hf 9).trans h.f9,(hc 10 (by decide)).trans h.c10,(hf 10).trans h.f10⟩
theorem BoxW4.set3 {w:World} {B:Nat} {p:P4} (h:BoxW4 w B p) (x:Bool):BoxW4 (w.setCell ⟨B,3,none⟩ (.bool x)) B { p with more:=x }:=by
 have hc:∀ j,j≠3→(w.setCell ⟨B,3,none⟩ (.bool x)).cell? ⟨B,j,none⟩=w.cell? ⟨B,j,none⟩:=fun j hj=>World.cell?_setCell_other w _ _ _ (fun e=>hj (congrArg Addr.off e).symm)
 have hf:∀ j,(w.setCell ⟨B,3,none⟩ (.bool x)).frozen? ⟨B,j,none⟩=w.frozen? ⟨B,j,none⟩:=fun j=>by simp
 exact ⟨(hc 0 (by decide)).trans h.c0,(hf 0).trans h.f0,(hc 1 (by decide)).trans h.c1,(hf 1).trans h.f1,(hc 2 (by decide)).trans h.c2,(hf 2).trans h.f2,World.cell?_setCell_same _ _ _ h.c3,(hf 3).trans h.f3,(hc 4 (by decide)).trans h.c4,(hf 4).trans h.f4,(hc 5 (by decide)).trans h.c5,(hf 5).trans h.f5,(hc 6 (by decide)).trans h.c6,(hf 6).trans h.f6,(hc 7 (by decide)).trans h.c7,(hf 7).trans h.f7,(hc 8 (by decide)).trans h.c8,(hf 8).trans h.f8,(hc 9 (by decide)).trans h.c9,(hf 9).trans h.f9,(hc 10 (by decide)).trans h.c10,(hf 10).trans h.f10⟩
theorem BoxW4.set4 {w:World} {B:Nat} {p:P4} (h:BoxW4 w B p) (x:Int):BoxW4 (w.setCell ⟨B,4,none⟩ (.int .i64 x)) B { p with off:=x }:=by
 have hc:∀ j,j≠4→(w.setCell ⟨B,4,none⟩ (.int .i64 x)).cell? ⟨B,j,none⟩=w.cell? ⟨B,j,none⟩:=fun j hj=>World.cell?_setCell_other w _ _ _ (fun e=>hj (congrArg Addr.off e).symm)
 have hf:∀ j,(w.setCell ⟨B,4,none⟩ (.int .i64 x)).frozen? ⟨B,j,none⟩=w.frozen? ⟨B,j,none⟩:=fun j=>by simp
 exact ⟨(hc 0 (by decide)).trans h.c0,(hf 0).trans h.f0,(hc 1 (by decide)).trans h.c1,(hf 1).trans h.f1,(hc 2 (by decide)).trans h.c2,(hf 2).trans h.f2,(hc 3 (by decide)).trans h.c3,(hf 3).trans h.f3,World.cell?_setCell_same _ _ _ h.c4,(hf 4).trans h.f4,(hc 5 (by decide)).trans h.c5,(hf 5).trans h.f5,(hc 6 (by decide)).trans h.c6,(hf 6).trans h.f6,(hc 7 (by decide)).trans h.c7,(hf 7).trans h.f7,(hc 8 (by decide)).trans h.c8,(hf 8).trans h.f8,(hc 9 (by decide)).trans h.c9,(hf 9).trans h.f9,(hc 10 (by decide)).trans h.c10,(hf 10).trans h.f10⟩
theorem BoxW4.set5 {w:World} {B:Nat} {p:P4} (h:BoxW4 w B p) (x:Int):BoxW4 (w.setCell ⟨B,5,none⟩ (.int .i64 x)) B { p with ttl:=x }:=by
 have hc:∀ j,j≠5→(w.setCell ⟨B,5,none⟩ (.int .i64 x)).cell? ⟨B,j,none⟩=w.cell? ⟨B,j,none⟩:=fun j hj=>World.cell?_setCell_other w _ _ _ (fun e=>hj (congrArg Addr.off e).symm)
 have hf:∀ j,(w.setCell ⟨B,5,none⟩ (.int .i64 x)).frozen? ⟨B,j,none⟩=w.frozen? ⟨B,j,none⟩:=fun j=>by simp
 exact ⟨(hc 0 (by decide)).trans h.c0,(hf 0).trans h.f0,(hc 1 (by decide)).trans h.c1,(hf 1).trans h.f1,(hc 2 (by decide)).trans h.c2,(hf 2).trans h.f2,(hc 3 (by decide)).trans h.c3,(hf 3).trans h.f3,(hc 4 (by decide)).trans h.c4,(hf 4).trans h.f4,World.cell?_setCell_same _ _ _ h.c5,(hf 5).trans h.f5,(hc 6 (by decide)).trans h.c6,(hf 6).trans h.f6,(hc 7 (by decide)).trans h.c7,(hf 7).trans h.f7,(hc 8 (by decide)).trans h.c8,(hf 8).trans h.f8,(hc 9 (by decide)).trans h.c9,(hf 9).trans h.f9,(hc 10 (by decide)).trans h.c10,(hf 10).trans h.f10⟩
theorem BoxW4.set6 {w:World} {B:Nat} {p:P4} (h:BoxW4 w B p) (x:Int):BoxW4 (w.setCell ⟨B,6,none⟩ (.int .i64 x)) B { p with proto:=x }:=by
 have hc:∀ j,j≠6→(w.setCell ⟨B,6,none⟩ (.int .i64 x)).cell? ⟨B,j,none⟩=w.cell? ⟨B,j,none⟩:=fun j hj=>World.cell?_setCell_other w _ _ _ (fun e=>hj (congrArg Addr.off e).symm)
 have hf:∀ j,(w.setCell ⟨B,6,none⟩ (.int .i64 x)).frozen? ⟨B,j,none⟩=w.frozen? ⟨B,j,none⟩:=fun j=>by simp
 exact ⟨(hc 0 (by decide)).trans h.c0,(hf 0).trans h.f0,(hc 1 (by decide)).trans h.c1,(hf 1).trans h.f1,(hc 2 (by decide)).trans h.c2,(hf 2).trans h.f2,(hc 3 (by decide)).trans h.c3,(hf 3).trans h.f3,(hc 4 (by decide)).trans h.c4,(hf 4).trans h.f4,(hc 5 (by decide)).trans h.c5,(hf 5).trans h.f5,World.cell?_setCell_same _ _ _ h.c6,(hf 6).trans h.f6,(hc 7 (by decide)).trans h.c7,(hf 7).trans h.f7,(hc 8 (by decide)).trans h.c8,(hf 8).trans h.f8,(hc 9 (by decide)).trans h.c9,(hf 9).trans h.f9,(hc 10 (by decide)).trans h.c10,(hf 10).trans h.f10⟩
theorem BoxW4.set7 {w:World} {B:Nat} {p:P4} (h:BoxW4 w B p) (x:ByteArray):BoxW4 (w.setCell ⟨B,7,none⟩ (.string x)) B { p with src:=x }:=by
 have hc:∀ j,j≠7→(w.setCell ⟨B,7,none⟩ (.string x)).cell? ⟨B,j,none⟩=w.cell? ⟨B,j,none⟩:=fun j hj=>World.cell?_setCell_other w _ _ _ (fun e=>hj (congrArg Addr.off e).symm)
 have hf:∀ j,(w.setCell ⟨B,7,none⟩ (.string x)).frozen? ⟨B,j,none⟩=w.frozen? ⟨B,j,none⟩:=fun j=>by simp
 exact ⟨(hc 0 (by decide)).trans h.c0,(hf 0).trans h.f0,(hc 1 (by decide)).trans h.c1,(hf 1).trans h.f1,(hc 2 (by decide)).trans h.c2,(hf 2).trans h.f2,(hc 3 (by decide)).trans h.c3,(hf 3).trans h.f3,(hc 4 (by decide)).trans h.c4,(hf 4).trans h.f4,(hc 5 (by decide)).trans h.c5,(hf 5).trans h.f5,(hc 6 (by decide)).trans h.c6,(hf 6).trans h.f6,World.cell?_setCell_same _ _ _ h.c7,(hf 7).trans h.f7,(hc 8 (by decide)).trans h.c8,(hf 8).trans h.f8,(hc 9 (by decide)).trans h.c9,(hf 9).trans h.f9,(hc 10 (by decide)).trans h.c10,(hf 10).trans h.f10⟩
theorem BoxW4.set8 {w:World} {B:Nat} {p:P4} (h:BoxW4 w B p) (x:ByteArray):BoxW4 (w.setCell ⟨B,8,none⟩ (.string x)) B { p with dst:=x }:=by
 have hc:∀ j,j≠8→(w.setCell ⟨B,8,none⟩ (.string x)).cell? ⟨B,j,none⟩=w.cell? ⟨B,j,none⟩:=fun j hj=>World.cell?_setCell_other w _ _ _ (fun e=>hj (congrArg Addr.off e).symm)
 have hf:∀ j,(w.setCell ⟨B,8,none⟩ (.string x)).frozen? ⟨B,j,none⟩=w.frozen? ⟨B,j,none⟩:=fun j=>by simp
 exact ⟨(hc 0 (by decide)).trans h.c0,(hf 0).trans h.f0,(hc 1 (by decide)).trans h.c1,(hf 1).trans h.f1,(hc 2 (by decide)).trans h.c2,(hf 2).trans h.f2,(hc 3 (by decide)).trans h.c3,(hf 3).trans h.f3,(hc 4 (by decide)).trans h.c4,(hf 4).trans h.f4,(hc 5 (by decide)).trans h.c5,(hf 5).trans h.f5,(hc 6 (by decide)).trans h.c6,(hf 6).trans h.f6,(hc 7 (by decide)).trans h.c7,(hf 7).trans h.f7,World.cell?_setCell_same _ _ _ h.c8,(hf 8).trans h.f8,(hc 9 (by decide)).trans h.c9,(hf 9).trans h.f9,(hc 10 (by decide)).trans h.c10,(hf 10).trans h.f10⟩
theorem BoxW4.set9 {w:World} {B:Nat} {p:P4} (h:BoxW4 w B p) (x:ByteArray):BoxW4 (w.setCell ⟨B,9,none⟩ (.string x)) B { p with opts:=x }:=by
 have hc:∀ j,j≠9→(w.setCell ⟨B,9,none⟩ (.string x)).cell? ⟨B,j,none⟩=w.cell? ⟨B,j,none⟩:=fun j hj=>World.cell?_setCell_other w _ _ _ (fun e=>hj (congrArg Addr.off e).symm)
 have hf:∀ j,(w.setCell ⟨B,9,none⟩ (.string x)).frozen? ⟨B,j,none⟩=w.frozen? ⟨B,j,none⟩:=fun j=>by simp
 exact ⟨(hc 0 (by decide)).trans h.c0,(hf 0).trans h.f0,(hc 1 (by decide)).trans h.c1,(hf 1).trans h.f1,(hc 2 (by decide)).trans h.c2,(hf 2).trans h.f2,(hc 3 (by decide)).trans h.c3,(hf 3).trans h.f3,(hc 4 (by decide)).trans h.c4,(hf 4).trans h.f4,(hc 5 (by decide)).trans h.c5,(hf 5).trans h.f5,(hc 6 (by decide)).trans h.c6,(hf 6).trans h.f6,(hc 7 (by decide)).trans h.c7,(hf 7).trans h.f7,(hc 8 (by decide)).trans h.c8,(hf 8).trans h.f8,World.cell?_setCell_same _ _ _ h.c9,(hf 9).trans h.f9,(hc 10 (by decide)).trans h.c10,(hf 10).trans h.f10⟩
theorem BoxW4.set10 {w:World} {B:Nat} {p:P4} (h:BoxW4 w B p) (x:ByteArray):BoxW4 (w.setCell ⟨B,10,none⟩ (.string x)) B { p with data:=x }:=by
 have hc:∀ j,j≠10→(w.setCell ⟨B,10,none⟩ (.string x)).cell? ⟨B,j,none⟩=w.cell? ⟨B,j,none⟩:=fun j hj=>World.cell?_setCell_other w _ _ _ (fun e=>hj (congrArg Addr.off e).symm)
 have hf:∀ j,(w.setCell ⟨B,10,none⟩ (.string x)).frozen? ⟨B,j,none⟩=w.frozen? ⟨B,j,none⟩:=fun j=>by simp
 exact ⟨(hc 0 (by decide)).trans h.c0,(hf 0).trans h.f0,(hc 1 (by decide)).trans h.c1,(hf 1).trans h.f1,(hc 2 (by decide)).trans h.c2,(hf 2).trans h.f2,(hc 3 (by decide)).trans h.c3,(hf 3).trans h.f3,(hc 4 (by decide)).trans h.c4,(hf 4).trans h.f4,(hc 5 (by decide)).trans h.c5,(hf 5).trans h.f5,(hc 6 (by decide)).trans h.c6,(hf 6).trans h.f6,(hc 7 (by decide)).trans h.c7,(hf 7).trans h.f7,(hc 8 (by decide)).trans h.c8,(hf 8).trans h.f8,(hc 9 (by decide)).trans h.c9,(hf 9).trans h.f9,World.cell?_setCell_same _ _ _ h.c10,(hf 10).trans h.f10⟩
theorem BoxW4.new (w:World) {t:TypeId}:BoxW4 (w.alloc (.cells #[.int .i64 0,.int .i64 0,.bool false,.bool false,.int .i64 0,.int .i64 0,.int .i64 0,.string ⟨#[]⟩,.string ⟨#[]⟩,.string ⟨#[]⟩,.string ⟨#[]⟩] t)) w.heap.size p4Zero:=⟨cell_new rfl,by simp,cell_new rfl,by simp,cell_new rfl,by simp,cell_new rfl,by simp,cell_new rfl,by simp,cell_new rfl,by simp,cell_new rfl,by simp,cell_new rfl,by simp,cell_new rfl,by simp,cell_new rfl,by simp,cell_new rfl,by simp⟩
structure BoxR4 (w:World) (B:Nat):Prop where
 c0:w.cell? ⟨B,0,none⟩=some (.int .i64 0)
 f0:w.frozen? ⟨B,0,none⟩=false
 c1:w.cell? ⟨B,1,none⟩=some (.int .i64 0)
 f1:w.frozen? ⟨B,1,none⟩=false
 c2:w.cell? ⟨B,2,none⟩=some (.bool false)
 f2:w.frozen? ⟨B,2,none⟩=false
 c3:w.cell? ⟨B,3,none⟩=some (.bool false)
 f3:w.frozen? ⟨B,3,none⟩=false
 c4:w.cell? ⟨B,4,none⟩=some (.int .i64 0)
 f4:w.frozen? ⟨B,4,none⟩=false
 c5:w.cell? ⟨B,5,none⟩=some (.int .i64 0)
 f5:w.frozen? ⟨B,5,none⟩=false
 c6:w.cell? ⟨B,6,none⟩=some (.int .i64 0)
 f6:w.frozen? ⟨B,6,none⟩=false
 c7:w.cell? ⟨B,7,none⟩=some (.string ⟨#[]⟩)
 f7:w.frozen? ⟨B,7,none⟩=false
 c8:w.cell? ⟨B,8,none⟩=some (.string ⟨#[]⟩)
 f8:w.frozen? ⟨B,8,none⟩=false
 c9:w.cell? ⟨B,9,none⟩=some (.string ⟨#[]⟩)
 f9:w.frozen? ⟨B,9,none⟩=false
 c10:w.cell? ⟨B,10,none⟩=some (.string ⟨#[]⟩)
 f10:w.frozen? ⟨B,10,none⟩=false
 c11:w.cell? ⟨B,11,none⟩=some (.int .i64 0)
 f11:w.frozen? ⟨B,11,none⟩=false
theorem BoxR4.kept {w W:World} {B:Nat} (h:BoxR4 w B) (hB:Below w.heap.size w W):BoxR4 W B:=by
 have hb:=World.block_lt_of_cell? w _ h.c0;exact ⟨((bcell hB).1 B 0 hb).trans h.c0,((bcell hB).2 B 0 hb).trans h.f0,((bcell hB).1 B 1 hb).trans h.c1,((bcell hB).2 B 1 hb).trans h.f1,((bcell hB).1 B 2 hb).trans h.c2,((bcell hB).2 B 2 hb).trans h.f2,((bcell hB).1 B 3 hb).trans h.c3,((bcell hB).2 B 3 hb).trans h.f3,((bcell hB).1 B 4 hb).trans h.c4,((bcell hB).2 B 4 hb).trans h.f4,((bcell hB).1 B 5 hb).trans h.c5,((bcell hB).2 B 5 hb).trans h.f5,((bcell hB).1 B 6 hb).trans h.c6,((bcell hB).2 B 6 hb).trans h.f6,((bcell hB).1 B 7 hb).trans h.c7,((bcell hB).2 B 7 hb).trans h.f7,((bcell hB).1 B 8 hb).trans h.c8,((bcell hB).2 B 8 hb).trans h.f8,((bcell hB).1 B 9 hb).trans h.c9,((bcell hB).2 B 9 hb).trans h.f9,((bcell hB).1 B 10 hb).trans h.c10,((bcell hB).2 B 10 hb).trans h.f10,((bcell hB).1 B 11 hb).trans h.c11,((bcell hB).2 B 11 hb).trans h.f11⟩
theorem BoxR4.other {w:World} {B:Nat} (h:BoxR4 w B) {C o:Nat} (v:Value) (hC:C≠B):BoxR4 (w.setCell ⟨C,o,none⟩ v) B:=by
 have hc:∀ j,(w.setCell ⟨C,o,none⟩ v).cell? ⟨B,j,none⟩=w.cell? ⟨B,j,none⟩:=fun j=>World.cell?_setCell_other w _ _ v (fun e=>hC (congrArg Addr.block e))
 have hf:∀ j,(w.setCell ⟨C,o,none⟩ v).frozen? ⟨B,j,none⟩=w.frozen? ⟨B,j,none⟩:=fun j=>by simp
 exact ⟨(hc 0).trans h.c0,(hf 0).trans h.f0,(hc 1).trans h.c1,(hf 1).trans h.f1,(hc 2).trans h.c2,(hf 2).trans h.f2,(hc 3).trans h.c3,(hf 3).trans h.f3,(hc 4).trans h.c4,(hf 4).trans h.f4,(hc 5).trans h.c5,(hf 5).trans h.f5,(hc 6).trans h.c6,(hf 6).trans h.f6,(hc 7).trans h.c7,(hf 7).trans h.f7,(hc 8).trans h.c8,(hf 8).trans h.f8,(hc 9).trans h.c9,(hf 9).trans h.f9,(hc 10).trans h.c10,(hf 10).trans h.f10,(hc 11).trans h.c11,(hf 11).trans h.f11⟩
theorem BoxR4.new (w:World) {t:TypeId}:BoxR4 (w.alloc (.cells #[.int .i64 0,.int .i64 0,.bool false,.bool false,.int .i64 0,.int .i64 0,.int .i64 0,.string ⟨#[]⟩,.string ⟨#[]⟩,.string ⟨#[]⟩,.string ⟨#[]⟩,.int .i64 0] t)) w.heap.size:=⟨cell_new rfl,by simp,cell_new rfl,by simp,cell_new rfl,by simp,cell_new rfl,by simp,cell_new rfl,by simp,cell_new rfl,by simp,cell_new rfl,by simp,cell_new rfl,by simp,cell_new rfl,by simp,cell_new rfl,by simp,cell_new rfl,by simp,cell_new rfl,by simp⟩
structure RS4 (n:Nat) (w0:World) (R b cap:Nat) (t:ByteArray) (O P:Nat) (w:World) (k:Nat) (p:P4):Prop where
 cur:CurAt w R b cap t k
 out:BoxR4 w O
 box:BoxW4 w P p
 bel:Below n w0 w
 nR:n≤R
 nP:n≤P
 nO:n≤O
 RO:R≠O
 RP:R≠P
 OP:O≠P
 bO:b≠O
 bP:b≠P
section
variable {n:Nat} {w0 w W:World} {R b cap:Nat} {t:ByteArray} {O P k:Nat} {p:P4}
theorem RS4.kept (h:RS4 n w0 R b cap t O P w k p) (hB:Below w.heap.size w W):RS4 n w0 R b cap t O P W k p:=by
 have hn:n≤w.heap.size:=Nat.le_trans h.nR (Nat.le_of_lt (World.block_lt_of_cell? w _ h.cur.c0));exact ⟨h.cur.kept hB,h.out.kept hB,h.box.kept hB,h.bel.trans (hB.mono hn),h.nR,h.nP,h.nO,h.RO,h.RP,h.OP,h.bO,h.bP⟩
theorem RS4.set0 (h:RS4 n w0 R b cap t O P w k p) (x:Int):RS4 n w0 R b cap t O P (w.setCell ⟨P,0,none⟩ (.int .i64 x)) k { p with tos:=x } :=
 ⟨h.cur.other _ h.RP.symm h.bP.symm,h.out.other _ h.OP.symm,h.box.set0 x,h.bel.setCell h.nP _,h.nR,h.nP,h.nO,h.RO,h.RP,h.OP,h.bO,h.bP⟩
theorem RS4.set1 (h:RS4 n w0 R b cap t O P w k p) (x:Int):RS4 n w0 R b cap t O P (w.setCell ⟨P,1,none⟩ (.int .i64 x)) k { p with id:=x } :=
 ⟨h.cur.other _ h.RP.symm h.bP.symm,h.out.other _ h.OP.symm,h.box.set1 x,h.bel.setCell h.nP _,h.nR,h.nP,h.nO,h.RO,h.RP,h.OP,h.bO,h.bP⟩
theorem RS4.set2 (h:RS4 n w0 R b cap t O P w k p) (x:Bool):RS4 n w0 R b cap t O P (w.setCell ⟨P,2,none⟩ (.bool x)) k { p with whole:=x } :=
 ⟨h.cur.other _ h.RP.symm h.bP.symm,h.out.other _ h.OP.symm,h.box.set2 x,h.bel.setCell h.nP _,h.nR,h.nP,h.nO,h.RO,h.RP,h.OP,h.bO,h.bP⟩
theorem RS4.set3 (h:RS4 n w0 R b cap t O P w k p) (x:Bool):RS4 n w0 R b cap t O P (w.setCell ⟨P,3,none⟩ (.bool x)) k { p with more:=x } :=
 ⟨h.cur.other _ h.RP.symm h.bP.symm,h.out.other _ h.OP.symm,h.box.set3 x,h.bel.setCell h.nP _,h.nR,h.nP,h.nO,h.RO,h.RP,h.OP,h.bO,h.bP⟩
theorem RS4.set4 (h:RS4 n w0 R b cap t O P w k p) (x:Int):RS4 n w0 R b cap t O P (w.setCell ⟨P,4,none⟩ (.int .i64 x)) k { p with off:=x } :=
 ⟨h.cur.other _ h.RP.symm h.bP.symm,h.out.other _ h.OP.symm,h.box.set4 x,h.bel.setCell h.nP _,h.nR,h.nP,h.nO,h.RO,h.RP,h.OP,h.bO,h.bP⟩
theorem RS4.set5 (h:RS4 n w0 R b cap t O P w k p) (x:Int):RS4 n w0 R b cap t O P (w.setCell ⟨P,5,none⟩ (.int .i64 x)) k { p with ttl:=x } :=
 ⟨h.cur.other _ h.RP.symm h.bP.symm,h.out.other _ h.OP.symm,h.box.set5 x,h.bel.setCell h.nP _,h.nR,h.nP,h.nO,h.RO,h.RP,h.OP,h.bO,h.bP⟩
theorem RS4.set6 (h:RS4 n w0 R b cap t O P w k p) (x:Int):RS4 n w0 R b cap t O P (w.setCell ⟨P,6,none⟩ (.int .i64 x)) k { p with proto:=x } :=
 ⟨h.cur.other _ h.RP.symm h.bP.symm,h.out.other _ h.OP.symm,h.box.set6 x,h.bel.setCell h.nP _,h.nR,h.nP,h.nO,h.RO,h.RP,h.OP,h.bO,h.bP⟩
theorem RS4.set7 (h:RS4 n w0 R b cap t O P w k p) (x:ByteArray):RS4 n w0 R b cap t O P (w.setCell ⟨P,7,none⟩ (.string x)) k { p with src:=x } :=
 ⟨h.cur.other _ h.RP.symm h.bP.symm,h.out.other _ h.OP.symm,h.box.set7 x,h.bel.setCell h.nP _,h.nR,h.nP,h.nO,h.RO,h.RP,h.OP,h.bO,h.bP⟩
theorem RS4.set8 (h:RS4 n w0 R b cap t O P w k p) (x:ByteArray):RS4 n w0 R b cap t O P (w.setCell ⟨P,8,none⟩ (.string x)) k { p with dst:=x } :=
 ⟨h.cur.other _ h.RP.symm h.bP.symm,h.out.other _ h.OP.symm,h.box.set8 x,h.bel.setCell h.nP _,h.nR,h.nP,h.nO,h.RO,h.RP,h.OP,h.bO,h.bP⟩
theorem RS4.set9 (h:RS4 n w0 R b cap t O P w k p) (x:ByteArray):RS4 n w0 R b cap t O P (w.setCell ⟨P,9,none⟩ (.string x)) k { p with opts:=x } :=
 ⟨h.cur.other _ h.RP.symm h.bP.symm,h.out.other _ h.OP.symm,h.box.set9 x,h.bel.setCell h.nP _,h.nR,h.nP,h.nO,h.RO,h.RP,h.OP,h.bO,h.bP⟩
theorem RS4.set10 (h:RS4 n w0 R b cap t O P w k p) (x:ByteArray):RS4 n w0 R b cap t O P (w.setCell ⟨P,10,none⟩ (.string x)) k { p with data:=x } :=
 ⟨h.cur.other _ h.RP.symm h.bP.symm,h.out.other _ h.OP.symm,h.box.set10 x,h.bel.setCell h.nP _,h.nR,h.nP,h.nO,h.RO,h.RP,h.OP,h.bO,h.bP⟩
end
structure BoxW6 (w:World) (B:Nat) (p:P6):Prop where
 c0:w.cell? ⟨B,0,none⟩=some (.int .i64 p.cls)
 f0:w.frozen? ⟨B,0,none⟩=false
 c1:w.cell? ⟨B,1,none⟩=some (.int .i64 p.flow)
 f1:w.frozen? ⟨B,1,none⟩=false
 c2:w.cell? ⟨B,2,none⟩=some (.int .i64 p.next)
 f2:w.frozen? ⟨B,2,none⟩=false
 c3:w.cell? ⟨B,3,none⟩=some (.int .i64 p.hops)
 f3:w.frozen? ⟨B,3,none⟩=false
 c4:w.cell? ⟨B,4,none⟩=some (.string p.src)
 f4:w.frozen? ⟨B,4,none⟩=false
 c5:w.cell? ⟨B,5,none⟩=some (.string p.dst)
 f5:w.frozen? ⟨B,5,none⟩=false
 c6:w.cell? ⟨B,6,none⟩=some (.bool p.piece)
 f6:w.frozen? ⟨B,6,none⟩=false
 c7:w.cell? ⟨B,7,none⟩=some (.bool p.more)
 f7:w.frozen? ⟨B,7,none⟩=false
 c8:w.cell? ⟨B,8,none⟩=some (.int .i64 p.off)
 f8:w.frozen? ⟨B,8,none⟩=false
 c9:w.cell? ⟨B,9,none⟩=some (.int .i64 p.id)
 f9:w.frozen? ⟨B,9,none⟩=false
 c10:w.cell? ⟨B,10,none⟩=some (.string p.data)
 f10:w.frozen? ⟨B,10,none⟩=false
theorem BoxW6.kept {w W:World} {B:Nat} {p:P6} (h:BoxW6 w B p) (hB:Below w.heap.size w W):BoxW6 W B p:=by
 have hb:=World.block_lt_of_cell? w _ h.c0;exact ⟨((bcell hB).1 B 0 hb).trans h.c0,((bcell hB).2 B 0 hb).trans h.f0,((bcell hB).1 B 1 hb).trans h.c1,((bcell hB).2 B 1 hb).trans h.f1,((bcell hB).1 B 2 hb).trans h.c2,((bcell hB).2 B 2 hb).trans h.f2,((bcell hB).1 B 3 hb).trans h.c3,((bcell hB).2 B 3 hb).trans h.f3,((bcell hB).1 B 4 hb).trans h.c4,((bcell hB).2 B 4 hb).trans h.f4,((bcell hB).1 B 5 hb).trans h.c5,((bcell hB).2 B 5 hb).trans h.f5,((bcell hB).1 B 6 hb).trans h.c6,((bcell hB).2 B 6 hb).trans h.f6,((bcell hB).1 B 7 hb).trans h.c7,((bcell hB).2 B 7 hb).trans h.f7,((bcell hB).1 B 8 hb).trans h.c8,((bcell hB).2 B 8 hb).trans h.f8,((bcell hB).1 B 9 hb).trans h.c9,((bcell hB).2 B 9 hb).trans h.f9,((bcell hB).1 B 10 hb).trans h.c10,((bcell hB).2 B 10 hb).trans h.f10⟩
theorem BoxW6.other {w:World} {B:Nat} {p:P6} (h:BoxW6 w B p) {C o:Nat} (v:Value) (hC:C≠B):BoxW6 (w.setCell ⟨C,o,none⟩ v) B p:=by
 have hc:∀ j,(w.setCell ⟨C,o,none⟩ v).cell? ⟨B,j,none⟩=w.cell? ⟨B,j,none⟩:=fun j=>World.cell?_setCell_other w _ _ v (fun e=>hC (congrArg Addr.block e))
 have hf:∀ j,(w.setCell ⟨C,o,none⟩ v).frozen? ⟨B,j,none⟩=w.frozen? ⟨B,j,none⟩:=fun j=>by simp
 exact ⟨(hc 0).trans h.c0,(hf 0).trans h.f0,(hc 1).trans h.c1,(hf 1).trans h.f1,(hc 2).trans h.c2,(hf 2).trans h.f2,(hc 3).trans h.c3,(hf 3).trans h.f3,(hc 4).trans h.c4,(hf 4).trans h.f4,(hc 5).trans h.c5,(hf 5).trans h.f5,(hc 6).trans h.c6,(hf 6).trans h.f6,(hc 7).trans h.c7,(hf 7).trans h.f7,(hc 8).trans h.c8,(hf 8).trans h.f8,(hc 9).trans h.c9,(hf 9).trans h.f9,(hc 10).trans h.c10,(hf 10).trans h.f10⟩
theorem BoxW6.set0 {w:World} {B:Nat} {p:P6} (h:BoxW6 w B p) (x:Int):BoxW6 (w.setCell ⟨B,0,none⟩ (.int .i64 x)) B { p with cls:=x }:=by
 have hc:∀ j,j≠0→(w.setCell ⟨B,0,none⟩ (.int .i64 x)).cell? ⟨B,j,none⟩=w.cell? ⟨B,j,none⟩:=fun j hj=>World.cell?_setCell_other w _ _ _ (fun e=>hj (congrArg Addr.off e).symm)
 have hf:∀ j,(w.setCell ⟨B,0,none⟩ (.int .i64 x)).frozen? ⟨B,j,none⟩=w.frozen? ⟨B,j,none⟩:=fun j=>by simp
 exact ⟨World.cell?_setCell_same _ _ _ h.c0,(hf 0).trans h.f0,(hc 1 (by decide)).trans h.c1,(hf 1).trans h.f1,(hc 2 (by decide)).trans h.c2,(hf 2).trans h.f2,(hc 3 (by decide)).trans h.c3,(hf 3).trans h.f3,(hc 4 (by decide)).trans h.c4,(hf 4).trans h.f4,(hc 5 (by decide)).trans h.c5,(hf 5).trans h.f5,(hc 6 (by decide)).trans h.c6,(hf 6).trans h.f6,(hc 7 (by decide)).trans h.c7,(hf 7).trans h.f7,(hc 8 (by decide)).trans h.c8,(hf 8).trans h.f8,(hc 9 (by decide)).trans h.c9,(hf 9).trans h.f9,(hc 10 (by decide)).trans h.c10,(hf 10).trans h.f10⟩
theorem BoxW6.set1 {w:World} {B:Nat} {p:P6} (h:BoxW6 w B p) (x:Int):BoxW6 (w.setCell ⟨B,1,none⟩ (.int .i64 x)) B { p with flow:=x }:=by
 have hc:∀ j,j≠1→(w.setCell ⟨B,1,none⟩ (.int .i64 x)).cell? ⟨B,j,none⟩=w.cell? ⟨B,j,none⟩:=fun j hj=>World.cell?_setCell_other w _ _ _ (fun e=>hj (congrArg Addr.off e).symm)
 have hf:∀ j,(w.setCell ⟨B,1,none⟩ (.int .i64 x)).frozen? ⟨B,j,none⟩=w.frozen? ⟨B,j,none⟩:=fun j=>by simp
 exact ⟨(hc 0 (by decide)).trans h.c0,(hf 0).trans h.f0,World.cell?_setCell_same _ _ _ h.c1,(hf 1).trans h.f1,(hc 2 (by decide)).trans h.c2,(hf 2).trans h.f2,(hc 3 (by decide)).trans h.c3,(hf 3).trans h.f3,(hc 4 (by decide)).trans h.c4,(hf 4).trans h.f4,(hc 5 (by decide)).trans h.c5,(hf 5).trans h.f5,(hc 6 (by decide)).trans h.c6,(hf 6).trans h.f6,(hc 7 (by decide)).trans h.c7,(hf 7).trans h.f7,(hc 8 (by decide)).trans h.c8,(hf 8).trans h.f8,(hc 9 (by decide)).trans h.c9,(hf 9).trans h.f9,(hc 10 (by decide)).trans h.c10,(hf 10).trans h.f10⟩
theorem BoxW6.set2 {w:World} {B:Nat} {p:P6} (h:BoxW6 w B p) (x:Int):BoxW6 (w.setCell ⟨B,2,none⟩ (.int .i64 x)) B { p with next:=x }:=by
 have hc:∀ j,j≠2→(w.setCell ⟨B,2,none⟩ (.int .i64 x)).cell? ⟨B,j,none⟩=w.cell? ⟨B,j,none⟩:=fun j hj=>World.cell?_setCell_other w _ _ _ (fun e=>hj (congrArg Addr.off e).symm)
 have hf:∀ j,(w.setCell ⟨B,2,none⟩ (.int .i64 x)).frozen? ⟨B,j,none⟩=w.frozen? ⟨B,j,none⟩:=fun j=>by simp
 exact ⟨(hc 0 (by decide)).trans h.c0,(hf 0).trans h.f0,(hc 1 (by decide)).trans h.c1,(hf 1).trans h.f1,World.cell?_setCell_same _ _ _ h.c2,(hf 2).trans h.f2,(hc 3 (by decide)).trans h.c3,(hf 3).trans h.f3,(hc 4 (by decide)).trans h.c4,(hf 4).trans h.f4,(hc 5 (by decide)).trans h.c5,(hf 5).trans h.f5,(hc 6 (by decide)).trans h.c6,(hf 6).trans h.f6,(hc 7 (by decide)).trans h.c7,(hf 7).trans h.f7,(hc 8 (by decide)).trans h.c8,(hf 8).trans h.f8,(hc 9 (by decide)).trans h.c9,(hf 9).trans h.f9,(hc 10 (by decide)).trans h.c10,(hf 10).trans h.f10⟩
theorem BoxW6.set3 {w:World} {B:Nat} {p:P6} (h:BoxW6 w B p) (x:Int):BoxW6 (w.setCell ⟨B,3,none⟩ (.int .i64 x)) B { p with hops:=x }:=by
 have hc:∀ j,j≠3→(w.setCell ⟨B,3,none⟩ (.int .i64 x)).cell? ⟨B,j,none⟩=w.cell? ⟨B,j,none⟩:=fun j hj=>World.cell?_setCell_other w _ _ _ (fun e=>hj (congrArg Addr.off e).symm)
 have hf:∀ j,(w.setCell ⟨B,3,none⟩ (.int .i64 x)).frozen? ⟨B,j,none⟩=w.frozen? ⟨B,j,none⟩:=fun j=>by simp
 exact ⟨(hc 0 (by decide)).trans h.c0,(hf 0).trans h.f0,(hc 1 (by decide)).trans h.c1,(hf 1).trans h.f1,(hc 2 (by decide)).trans h.c2,(hf 2).trans h.f2,World.cell?_setCell_same _ _ _ h.c3,(hf 3).trans h.f3,(hc 4 (by decide)).trans h.c4,(hf 4).trans h.f4,(hc 5 (by decide)).trans h.c5,(hf 5).trans h.f5,(hc 6 (by decide)).trans h.c6,(hf 6).trans h.f6,(hc 7 (by decide)).trans h.c7,(hf 7).trans h.f7,(hc 8 (by decide)).trans h.c8,(hf 8).trans h.f8,(hc 9 (by decide)).trans h.c9,(hf 9).trans h.f9,(hc 10 (by decide)).trans h.c10,(hf 10).trans h.f10⟩
theorem BoxW6.set4 {w:World} {B:Nat} {p:P6} (h:BoxW6 w B p) (x:ByteArray):BoxW6 (w.setCell ⟨B,4,none⟩ (.string x)) B { p with src:=x }:=by
 have hc:∀ j,j≠4→(w.setCell ⟨B,4,none⟩ (.string x)).cell? ⟨B,j,none⟩=w.cell? ⟨B,j,none⟩:=fun j hj=>World.cell?_setCell_other w _ _ _ (fun e=>hj (congrArg Addr.off e).symm)
 have hf:∀ j,(w.setCell ⟨B,4,none⟩ (.string x)).frozen? ⟨B,j,none⟩=w.frozen? ⟨B,j,none⟩:=fun j=>by simp
 exact ⟨(hc 0 (by decide)).trans h.c0,(hf 0).trans h.f0,(hc 1 (by decide)).trans h.c1,(hf 1).trans h.f1,(hc 2 (by decide)).trans h.c2,(hf 2).trans h.f2,(hc 3 (by decide)).trans h.c3,(hf 3).trans h.f3,World.cell?_setCell_same _ _ _ h.c4,(hf 4).trans h.f4,(hc 5 (by decide)).trans h.c5,(hf 5).trans h.f5,(hc 6 (by decide)).trans h.c6,(hf 6).trans h.f6,(hc 7 (by decide)).trans h.c7,(hf 7).trans h.f7,(hc 8 (by decide)).trans h.c8,(hf 8).trans h.f8,(hc 9 (by decide)).trans h.c9,(hf 9).trans h.f9,(hc 10 (by decide)).trans h.c10,(hf 10).trans h.f10⟩
theorem BoxW6.set5 {w:World} {B:Nat} {p:P6} (h:BoxW6 w B p) (x:ByteArray):BoxW6 (w.setCell ⟨B,5,none⟩ (.string x)) B { p with dst:=x }:=by
 have hc:∀ j,j≠5→(w.setCell ⟨B,5,none⟩ (.string x)).cell? ⟨B,j,none⟩=w.cell? ⟨B,j,none⟩:=fun j hj=>World.cell?_setCell_other w _ _ _ (fun e=>hj (congrArg Addr.off e).symm)
 have hf:∀ j,(w.setCell ⟨B,5,none⟩ (.string x)).frozen? ⟨B,j,none⟩=w.frozen? ⟨B,j,none⟩:=fun j=>by simp
 exact ⟨(hc 0 (by decide)).trans h.c0,(hf 0).trans h.f0,(hc 1 (by decide)).trans h.c1,(hf 1).trans h.f1,(hc 2 (by decide)).trans h.c2,(hf 2).trans h.f2,(hc 3 (by decide)).trans h.c3,(hf 3).trans h.f3,(hc 4 (by decide)).trans h.c4,(hf 4).trans h.f4,World.cell?_setCell_same _ _ _ h.c5,(hf 5).trans h.f5,(hc 6 (by decide)).trans h.c6,(hf 6).trans h.f6,(hc 7 (by decide)).trans h.c7,(hf 7).trans h.f7,(hc 8 (by decide)).trans h.c8,(hf 8).trans h.f8,(hc 9 (by decide)).trans h.c9,(hf 9).trans h.f9,(hc 10 (by decide)).trans h.c10,(hf 10).trans h.f10⟩
theorem BoxW6.set6 {w:World} {B:Nat} {p:P6} (h:BoxW6 w B p) (x:Bool):BoxW6 (w.setCell ⟨B,6,none⟩ (.bool x)) B { p with piece:=x }:=by
 have hc:∀ j,j≠6→(w.setCell ⟨B,6,none⟩ (.bool x)).cell? ⟨B,j,none⟩=w.cell? ⟨B,j,none⟩:=fun j hj=>World.cell?_setCell_other w _ _ _ (fun e=>hj (congrArg Addr.off e).symm)
 have hf:∀ j,(w.setCell ⟨B,6,none⟩ (.bool x)).frozen? ⟨B,j,none⟩=w.frozen? ⟨B,j,none⟩:=fun j=>by simp
 exact ⟨(hc 0 (by decide)).trans h.c0,(hf 0).trans h.f0,(hc 1 (by decide)).trans h.c1,(hf 1).trans h.f1,(hc 2 (by decide)).trans h.c2,(hf 2).trans h.f2,(hc 3 (by decide)).trans h.c3,(hf 3).trans h.f3,(hc 4 (by decide)).trans h.c4,(hf 4).trans h.f4,(hc 5 (by decide)).trans h.c5,(hf 5).trans h.f5,World.cell?_setCell_same _ _ _ h.c6,(hf 6).trans h.f6,(hc 7 (by decide)).trans h.c7,(hf 7).trans h.f7,(hc 8 (by decide)).trans h.c8,(hf 8).trans h.f8,(hc 9 (by decide)).trans h.c9,(hf 9).trans h.f9,(hc 10 (by decide)).trans h.c10,(hf 10).trans h.f10⟩
theorem BoxW6.set7 {w:World} {B:Nat} {p:P6} (h:BoxW6 w B p) (x:Bool):BoxW6 (w.setCell ⟨B,7,none⟩ (.bool x)) B { p with more:=x }:=by
 have hc:∀ j,j≠7→(w.setCell ⟨B,7,none⟩ (.bool x)).cell? ⟨B,j,none⟩=w.cell? ⟨B,j,none⟩:=fun j hj=>World.cell?_setCell_other w _ _ _ (fun e=>hj (congrArg Addr.off e).symm)
 have hf:∀ j,(w.setCell ⟨B,7,none⟩ (.bool x)).frozen? ⟨B,j,none⟩=w.frozen? ⟨B,j,none⟩:=fun j=>by simp
 exact ⟨(hc 0 (by decide)).trans h.c0,(hf 0).trans h.f0,(hc 1 (by decide)).trans h.c1,(hf 1).trans h.f1,(hc 2 (by decide)).trans h.c2,(hf 2).trans h.f2,(hc 3 (by decide)).trans h.c3,(hf 3).trans h.f3,(hc 4 (by decide)).trans h.c4,(hf 4).trans h.f4,(hc 5 (by decide)).trans h.c5,(hf 5).trans h.f5,(hc 6 (by decide)).trans h.c6,(hf 6).trans h.f6,World.cell?_setCell_same _ _ _ h.c7,(hf 7).trans h.f7,(hc 8 (by decide)).trans h.c8,(hf 8).trans h.f8,(hc 9 (by decide)).trans h.c9,(hf 9).trans h.f9,(hc 10 (by decide)).trans h.c10,(hf 10).trans h.f10⟩
theorem BoxW6.set8 {w:World} {B:Nat} {p:P6} (h:BoxW6 w B p) (x:Int):BoxW6 (w.setCell ⟨B,8,none⟩ (.int .i64 x)) B { p with off:=x }:=by
 have hc:∀ j,j≠8→(w.setCell ⟨B,8,none⟩ (.int .i64 x)).cell? ⟨B,j,none⟩=w.cell? ⟨B,j,none⟩:=fun j hj=>World.cell?_setCell_other w _ _ _ (fun e=>hj (congrArg Addr.off e).symm)
 have hf:∀ j,(w.setCell ⟨B,8,none⟩ (.int .i64 x)).frozen? ⟨B,j,none⟩=w.frozen? ⟨B,j,none⟩:=fun j=>by simp
 exact ⟨(hc 0 (by decide)).trans h.c0,(hf 0).trans h.f0,(hc 1 (by decide)).trans h.c1,(hf 1).trans h.f1,(hc 2 (by decide)).trans h.c2,(hf 2).trans h.f2,(hc 3 (by decide)).trans h.c3,(hf 3).trans h.f3,(hc 4 (by decide)).trans h.c4,(hf 4).trans h.f4,(hc 5 (by decide)).trans h.c5,(hf 5).trans h.f5,(hc 6 (by decide)).trans h.c6,(hf 6).trans h.f6,(hc 7 (by decide)).trans h.c7,(hf 7).trans h.f7,World.cell?_setCell_same _ _ _ h.c8,(hf 8).trans h.f8,(hc 9 (by decide)).trans h.c9,(hf 9).trans h.f9,(hc 10 (by decide)).trans h.c10,(hf 10).trans h.f10⟩
theorem BoxW6.set9 {w:World} {B:Nat} {p:P6} (h:BoxW6 w B p) (x:Int):BoxW6 (w.setCell ⟨B,9,none⟩ (.int .i64 x)) B { p with id:=x }:=by
 have hc:∀ j,j≠9→(w.setCell ⟨B,9,none⟩ (.int .i64 x)).cell? ⟨B,j,none⟩=w.cell? ⟨B,j,none⟩:=fun j hj=>World.cell?_setCell_other w _ _ _ (fun e=>hj (congrArg Addr.off e).symm)
 have hf:∀ j,(w.setCell ⟨B,9,none⟩ (.int .i64 x)).frozen? ⟨B,j,none⟩=w.frozen? ⟨B,j,none⟩:=fun j=>by simp
 exact ⟨(hc 0 (by decide)).trans h.c0,(hf 0).trans h.f0,(hc 1 (by decide)).trans h.c1,(hf 1).trans h.f1,(hc 2 (by decide)).trans h.c2,(hf 2).trans h.f2,(hc 3 (by decide)).trans h.c3,(hf 3).trans h.f3,(hc 4 (by decide)).trans h.c4,(hf 4).trans h.f4,(hc 5 (by decide)).trans h.c5,(hf 5).trans h.f5,(hc 6 (by decide)).trans h.c6,(hf 6).trans h.f6,(hc 7 (by decide)).trans h.c7,(hf 7).trans h.f7,(hc 8 (by decide)).trans h.c8,(hf 8).trans h.f8,World.cell?_setCell_same _ _ _ h.c9,(hf 9).trans h.f9,(hc 10 (by decide)).trans h.c10,(hf 10).trans h.f10⟩
theorem BoxW6.set10 {w:World} {B:Nat} {p:P6} (h:BoxW6 w B p) (x:ByteArray):BoxW6 (w.setCell ⟨B,10,none⟩ (.string x)) B { p with data:=x }:=by
 have hc:∀ j,j≠10→(w.setCell ⟨B,10,none⟩ (.string x)).cell? ⟨B,j,none⟩=w.cell? ⟨B,j,none⟩:=fun j hj=>World.cell?_setCell_other w _ _ _ (fun e=>hj (congrArg Addr.off e).symm)
 have hf:∀ j,(w.setCell ⟨B,10,none⟩ (.string x)).frozen? ⟨B,j,none⟩=w.frozen? ⟨B,j,none⟩:=fun j=>by simp
 exact ⟨(hc 0 (by decide)).trans h.c0,(hf 0).trans h.f0,(hc 1 (by decide)).trans h.c1,(hf 1).trans h.f1,(hc 2 (by decide)).trans h.c2,(hf 2).trans h.f2,(hc 3 (by decide)).trans h.c3,(hf 3).trans h.f3,(hc 4 (by decide)).trans h.c4,(hf 4).trans h.f4,(hc 5 (by decide)).trans h.c5,(hf 5).trans h.f5,(hc 6 (by decide)).trans h.c6,(hf 6).trans h.f6,(hc 7 (by decide)).trans h.c7,(hf 7).trans h.f7,(hc 8 (by decide)).trans h.c8,(hf 8).trans h.f8,(hc 9 (by decide)).trans h.c9,(hf 9).trans h.f9,World.cell?_setCell_same _ _ _ h.c10,(hf 10).trans h.f10⟩
theorem BoxW6.new (w:World) {t:TypeId}:BoxW6 (w.alloc (.cells #[.int .i64 0,.int .i64 0,.int .i64 0,.int .i64 0,.string ⟨#[]⟩,.string ⟨#[]⟩,.bool false,.bool false,.int .i64 0,.int .i64 0,.string ⟨#[]⟩] t)) w.heap.size p6Zero:=⟨cell_new rfl,by simp,cell_new rfl,by simp,cell_new rfl,by simp,cell_new rfl,by simp,cell_new rfl,by simp,cell_new rfl,by simp,cell_new rfl,by simp,cell_new rfl,by simp,cell_new rfl,by simp,cell_new rfl,by simp,cell_new rfl,by simp⟩
structure BoxR6 (w:World) (B:Nat):Prop where
 c0:w.cell? ⟨B,0,none⟩=some (.int .i64 0)
 f0:w.frozen? ⟨B,0,none⟩=false
 c1:w.cell? ⟨B,1,none⟩=some (.int .i64 0)
 f1:w.frozen? ⟨B,1,none⟩=false
 c2:w.cell? ⟨B,2,none⟩=some (.int .i64 0)
 f2:w.frozen? ⟨B,2,none⟩=false
 c3:w.cell? ⟨B,3,none⟩=some (.int .i64 0)
 f3:w.frozen? ⟨B,3,none⟩=false
 c4:w.cell? ⟨B,4,none⟩=some (.string ⟨#[]⟩)
 f4:w.frozen? ⟨B,4,none⟩=false
 c5:w.cell? ⟨B,5,none⟩=some (.string ⟨#[]⟩)
 f5:w.frozen? ⟨B,5,none⟩=false
 c6:w.cell? ⟨B,6,none⟩=some (.bool false)
 f6:w.frozen? ⟨B,6,none⟩=false
 c7:w.cell? ⟨B,7,none⟩=some (.bool false)
 f7:w.frozen? ⟨B,7,none⟩=false
 c8:w.cell? ⟨B,8,none⟩=some (.int .i64 0)
 f8:w.frozen? ⟨B,8,none⟩=false
 c9:w.cell? ⟨B,9,none⟩=some (.int .i64 0)
 f9:w.frozen? ⟨B,9,none⟩=false
 c10:w.cell? ⟨B,10,none⟩=some (.string ⟨#[]⟩)
 f10:w.frozen? ⟨B,10,none⟩=false
 c11:w.cell? ⟨B,11,none⟩=some (.int .i64 0)
 f11:w.frozen? ⟨B,11,none⟩=false
theorem BoxR6.kept {w W:World} {B:Nat} (h:BoxR6 w B) (hB:Below w.heap.size w W):BoxR6 W B:=by
 have hb:=World.block_lt_of_cell? w _ h.c0;exact ⟨((bcell hB).1 B 0 hb).trans h.c0,((bcell hB).2 B 0 hb).trans h.f0,((bcell hB).1 B 1 hb).trans h.c1,((bcell hB).2 B 1 hb).trans h.f1,((bcell hB).1 B 2 hb).trans h.c2,((bcell hB).2 B 2 hb).trans h.f2,((bcell hB).1 B 3 hb).trans h.c3,((bcell hB).2 B 3 hb).trans h.f3,((bcell hB).1 B 4 hb).trans h.c4,((bcell hB).2 B 4 hb).trans h.f4,((bcell hB).1 B 5 hb).trans h.c5,((bcell hB).2 B 5 hb).trans h.f5,((bcell hB).1 B 6 hb).trans h.c6,((bcell hB).2 B 6 hb).trans h.f6,((bcell hB).1 B 7 hb).trans h.c7,((bcell hB).2 B 7 hb).trans h.f7,((bcell hB).1 B 8 hb).trans h.c8,((bcell hB).2 B 8 hb).trans h.f8,((bcell hB).1 B 9 hb).trans h.c9,((bcell hB).2 B 9 hb).trans h.f9,((bcell hB).1 B 10 hb).trans h.c10,((bcell hB).2 B 10 hb).trans h.f10,((bcell hB).1 B 11 hb).trans h.c11,((bcell hB).2 B 11 hb).trans h.f11⟩
theorem BoxR6.other {w:World} {B:Nat} (h:BoxR6 w B) {C o:Nat} (v:Value) (hC:C≠B):BoxR6 (w.setCell ⟨C,o,none⟩ v) B:=by
 have hc:∀ j,(w.setCell ⟨C,o,none⟩ v).cell? ⟨B,j,none⟩=w.cell? ⟨B,j,none⟩:=fun j=>World.cell?_setCell_other w _ _ v (fun e=>hC (congrArg Addr.block e))
 have hf:∀ j,(w.setCell ⟨C,o,none⟩ v).frozen? ⟨B,j,none⟩=w.frozen? ⟨B,j,none⟩:=fun j=>by simp
 exact ⟨(hc 0).trans h.c0,(hf 0).trans h.f0,(hc 1).trans h.c1,(hf 1).trans h.f1,(hc 2).trans h.c2,(hf 2).trans h.f2,(hc 3).trans h.c3,(hf 3).trans h.f3,(hc 4).trans h.c4,(hf 4).trans h.f4,(hc 5).trans h.c5,(hf 5).trans h.f5,(hc 6).trans h.c6,(hf 6).trans h.f6,(hc 7).trans h.c7,(hf 7).trans h.f7,(hc 8).trans h.c8,(hf 8).trans h.f8,(hc 9).trans h.c9,(hf 9).trans h.f9,(hc 10).trans h.c10,(hf 10).trans h.f10,(hc 11).trans h.c11,(hf 11).trans h.f11⟩
theorem BoxR6.new (w:World) {t:TypeId}:BoxR6 (w.alloc (.cells #[.int .i64 0,.int .i64 0,.int .i64 0,.int .i64 0,.string ⟨#[]⟩,.string ⟨#[]⟩,.bool false,.bool false,.int .i64 0,.int .i64 0,.string ⟨#[]⟩,.int .i64 0] t)) w.heap.size:=⟨cell_new rfl,by simp,cell_new rfl,by simp,cell_new rfl,by simp,cell_new rfl,by simp,cell_new rfl,by simp,cell_new rfl,by simp,cell_new rfl,by simp,cell_new rfl,by simp,cell_new rfl,by simp,cell_new rfl,by simp,cell_new rfl,by simp,cell_new rfl,by simp⟩
structure RS6 (n:Nat) (w0:World) (R b cap:Nat) (t:ByteArray) (O P:Nat) (w:World) (k:Nat) (p:P6):Prop where
 cur:CurAt w R b cap t k
 out:BoxR6 w O
 box:BoxW6 w P p
 bel:Below n w0 w
 nR:n≤R
 nP:n≤P
 nO:n≤O
 RO:R≠O
 RP:R≠P
 OP:O≠P
 bO:b≠O
 bP:b≠P
section
variable {n:Nat} {w0 w W:World} {R b cap:Nat} {t:ByteArray} {O P k:Nat} {p:P6}
theorem RS6.kept (h:RS6 n w0 R b cap t O P w k p) (hB:Below w.heap.size w W):RS6 n w0 R b cap t O P W k p:=by
 have hn:n≤w.heap.size:=Nat.le_trans h.nR (Nat.le_of_lt (World.block_lt_of_cell? w _ h.cur.c0));exact ⟨h.cur.kept hB,h.out.kept hB,h.box.kept hB,h.bel.trans (hB.mono hn),h.nR,h.nP,h.nO,h.RO,h.RP,h.OP,h.bO,h.bP⟩
theorem RS6.set0 (h:RS6 n w0 R b cap t O P w k p) (x:Int):RS6 n w0 R b cap t O P (w.setCell ⟨P,0,none⟩ (.int .i64 x)) k { p with cls:=x } :=
 ⟨h.cur.other _ h.RP.symm h.bP.symm,h.out.other _ h.OP.symm,h.box.set0 x,h.bel.setCell h.nP _,h.nR,h.nP,h.nO,h.RO,h.RP,h.OP,h.bO,h.bP⟩
theorem RS6.set1 (h:RS6 n w0 R b cap t O P w k p) (x:Int):RS6 n w0 R b cap t O P (w.setCell ⟨P,1,none⟩ (.int .i64 x)) k { p with flow:=x } :=
 ⟨h.cur.other _ h.RP.symm h.bP.symm,h.out.other _ h.OP.symm,h.box.set1 x,h.bel.setCell h.nP _,h.nR,h.nP,h.nO,h.RO,h.RP,h.OP,h.bO,h.bP⟩
theorem RS6.set2 (h:RS6 n w0 R b cap t O P w k p) (x:Int):RS6 n w0 R b cap t O P (w.setCell ⟨P,2,none⟩ (.int .i64 x)) k { p with next:=x } :=
 ⟨h.cur.other _ h.RP.symm h.bP.symm,h.out.other _ h.OP.symm,h.box.set2 x,h.bel.setCell h.nP _,h.nR,h.nP,h.nO,h.RO,h.RP,h.OP,h.bO,h.bP⟩
theorem RS6.set3 (h:RS6 n w0 R b cap t O P w k p) (x:Int):RS6 n w0 R b cap t O P (w.setCell ⟨P,3,none⟩ (.int .i64 x)) k { p with hops:=x } :=
 ⟨h.cur.other _ h.RP.symm h.bP.symm,h.out.other _ h.OP.symm,h.box.set3 x,h.bel.setCell h.nP _,h.nR,h.nP,h.nO,h.RO,h.RP,h.OP,h.bO,h.bP⟩
theorem RS6.set4 (h:RS6 n w0 R b cap t O P w k p) (x:ByteArray):RS6 n w0 R b cap t O P (w.setCell ⟨P,4,none⟩ (.string x)) k { p with src:=x } :=
 ⟨h.cur.other _ h.RP.symm h.bP.symm,h.out.other _ h.OP.symm,h.box.set4 x,h.bel.setCell h.nP _,h.nR,h.nP,h.nO,h.RO,h.RP,h.OP,h.bO,h.bP⟩
theorem RS6.set5 (h:RS6 n w0 R b cap t O P w k p) (x:ByteArray):RS6 n w0 R b cap t O P (w.setCell ⟨P,5,none⟩ (.string x)) k { p with dst:=x } :=
 ⟨h.cur.other _ h.RP.symm h.bP.symm,h.out.other _ h.OP.symm,h.box.set5 x,h.bel.setCell h.nP _,h.nR,h.nP,h.nO,h.RO,h.RP,h.OP,h.bO,h.bP⟩
theorem RS6.set6 (h:RS6 n w0 R b cap t O P w k p) (x:Bool):RS6 n w0 R b cap t O P (w.setCell ⟨P,6,none⟩ (.bool x)) k { p with piece:=x } :=
 ⟨h.cur.other _ h.RP.symm h.bP.symm,h.out.other _ h.OP.symm,h.box.set6 x,h.bel.setCell h.nP _,h.nR,h.nP,h.nO,h.RO,h.RP,h.OP,h.bO,h.bP⟩
theorem RS6.set7 (h:RS6 n w0 R b cap t O P w k p) (x:Bool):RS6 n w0 R b cap t O P (w.setCell ⟨P,7,none⟩ (.bool x)) k { p with more:=x } :=
 ⟨h.cur.other _ h.RP.symm h.bP.symm,h.out.other _ h.OP.symm,h.box.set7 x,h.bel.setCell h.nP _,h.nR,h.nP,h.nO,h.RO,h.RP,h.OP,h.bO,h.bP⟩
theorem RS6.set8 (h:RS6 n w0 R b cap t O P w k p) (x:Int):RS6 n w0 R b cap t O P (w.setCell ⟨P,8,none⟩ (.int .i64 x)) k { p with off:=x } :=
 ⟨h.cur.other _ h.RP.symm h.bP.symm,h.out.other _ h.OP.symm,h.box.set8 x,h.bel.setCell h.nP _,h.nR,h.nP,h.nO,h.RO,h.RP,h.OP,h.bO,h.bP⟩
theorem RS6.set9 (h:RS6 n w0 R b cap t O P w k p) (x:Int):RS6 n w0 R b cap t O P (w.setCell ⟨P,9,none⟩ (.int .i64 x)) k { p with id:=x } :=
 ⟨h.cur.other _ h.RP.symm h.bP.symm,h.out.other _ h.OP.symm,h.box.set9 x,h.bel.setCell h.nP _,h.nR,h.nP,h.nO,h.RO,h.RP,h.OP,h.bO,h.bP⟩
theorem RS6.set10 (h:RS6 n w0 R b cap t O P w k p) (x:ByteArray):RS6 n w0 R b cap t O P (w.setCell ⟨P,10,none⟩ (.string x)) k { p with data:=x } :=
 ⟨h.cur.other _ h.RP.symm h.bP.symm,h.out.other _ h.OP.symm,h.box.set10 x,h.bel.setCell h.nP _,h.nR,h.nP,h.nO,h.RO,h.RP,h.OP,h.bO,h.bP⟩
end
end Go.Proofs.Ytagbhaalmjpkjaa
