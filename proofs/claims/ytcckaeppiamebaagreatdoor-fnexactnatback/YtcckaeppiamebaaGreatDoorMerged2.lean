import Derived.Test.YtcckaeppiamebaaGreatDoorAb
import Derived.Test.YtcckaeppiamebaaGreatDoorMerged1
import Derived.Deep.MidRow
import Derived.Deep.Slices
import Derived.OwnWalk
import Derived.WalkLawsBesides
import Derived.Lib.LazyBuf
import Derived.Deep.AppendLies
import Derived.Deep.RegionWith
import Derived.Deep.DeepCutAuto
set_option linter.unusedVariables false
set_option linter.unusedSimpArgs false
set_option maxRecDepth 100000
set_option maxHeartbeats 8000000
namespace Go.Proofs.YtcckaeppiamebaaGreatDoor
open Go.RowKit
structure HoldsL (w:World) (B:Nat) (cs:List Value):Prop where
 at0:w.rangeAt B 0 cs
 th:w.there B 0 cs.length
section
variable {w W:World} {B:Nat} {cs:List Value}
theorem HoldsL.new (w:World) (cs:List Value) (t:TypeId):HoldsL (w.alloc (.cells cs.toArray t)) w.heap.size cs :=
 ⟨fun j v hv=>by rw [Nat.zero_add,cell_of_row _ w.heap.size j cs.toArray t (0,0) (heap_alloc_new w _)]; simpa using hv,
   fun j hj=>⟨by rw [Nat.zero_add,cell_of_row _ w.heap.size j cs.toArray t (0,0) (heap_alloc_new w _)]; simp [hj],by simp⟩⟩
theorem HoldsL.cell (h:HoldsL w B cs) {j:Nat} {v:Value} (hv:cs[j]?=some v):w.cell? ⟨B,j,none⟩=some v:=by
 have:=h.at0 j v hv; rwa [Nat.zero_add] at this
theorem HoldsL.free (h:HoldsL w B cs) {j:Nat} (hj:j < cs.length):w.frozen? ⟨B,j,none⟩=false:=by
 have:=(h.th j hj).2; rwa [Nat.zero_add] at this
theorem HoldsL.c2 {v0 v1:Value} {l:List Value} (h:HoldsL w B (v0::v1::l)):w.cell? ⟨B,0,none⟩=some v0∧w.cell? ⟨B,1,none⟩=some v1:=⟨h.cell rfl,h.cell rfl⟩
theorem HoldsL.c3 {v0 v1 v2:Value} {l:List Value} (h:HoldsL w B (v0::v1::v2::l)):w.cell? ⟨B,0,none⟩=some v0∧w.cell? ⟨B,1,none⟩=some v1∧w.cell? ⟨B,2,none⟩=some v2:=⟨h.cell rfl,h.cell rfl,h.cell rfl⟩
theorem HoldsL.c4 {v0 v1 v2 v3:Value} {l:List Value} (h:HoldsL w B (v0::v1::v2::v3::l)):w.cell? ⟨B,0,none⟩=some v0∧w.cell? ⟨B,1,none⟩=some v1∧w.cell? ⟨B,2,none⟩=some v2∧w.cell? ⟨B,3,none⟩=some v3:=⟨h.cell rfl,h.cell rfl,h.cell rfl,h.cell rfl⟩
theorem HoldsL.c5 {v0 v1 v2 v3 v4:Value} {l:List Value} (h:HoldsL w B (v0::v1::v2::v3::v4::l)):w.cell? ⟨B,0,none⟩=some v0∧w.cell? ⟨B,1,none⟩=some v1∧w.cell? ⟨B,2,none⟩=some v2∧w.cell? ⟨B,3,none⟩=some v3∧w.cell? ⟨B,4,none⟩=some v4:=⟨h.cell rfl,h.cell rfl,h.cell rfl,h.cell rfl,h.cell rfl⟩
theorem HoldsL.c6 {v0 v1 v2 v3 v4 v5:Value} {l:List Value} (h:HoldsL w B (v0::v1::v2::v3::v4::v5::l)):w.cell? ⟨B,0,none⟩=some v0∧w.cell? ⟨B,1,none⟩=some v1∧w.cell? ⟨B,2,none⟩=some v2∧w.cell? ⟨B,3,none⟩=some v3∧w.cell? ⟨B,4,none⟩=some v4∧w.cell? ⟨B,5,none⟩=some v5:=⟨h.cell rfl,h.cell rfl,h.cell rfl,h.cell rfl,h.cell rfl,h.cell rfl⟩
theorem HoldsL.c7 {v0 v1 v2 v3 v4 v5 v6:Value} {l:List Value} (h:HoldsL w B (v0::v1::v2::v3::v4::v5::v6::l)):w.cell? ⟨B,0,none⟩=some v0∧w.cell? ⟨B,1,none⟩=some v1∧w.cell? ⟨B,2,none⟩=some v2∧w.cell? ⟨B,3,none⟩=some v3∧w.cell? ⟨B,4,none⟩=some v4∧w.cell? ⟨B,5,none⟩=some v5∧w.cell? ⟨B,6,none⟩=some v6:=⟨h.cell rfl,h.cell rfl,h.cell rfl,h.cell rfl,h.cell rfl,h.cell rfl,h.cell rfl⟩
theorem HoldsL.c8 {v0 v1 v2 v3 v4 v5 v6 v7:Value} {l:List Value} (h:HoldsL w B (v0::v1::v2::v3::v4::v5::v6::v7::l)):w.cell? ⟨B,0,none⟩=some v0∧w.cell? ⟨B,1,none⟩=some v1∧w.cell? ⟨B,2,none⟩=some v2∧w.cell? ⟨B,3,none⟩=some v3∧w.cell? ⟨B,4,none⟩=some v4∧w.cell? ⟨B,5,none⟩=some v5∧w.cell? ⟨B,6,none⟩=some v6∧w.cell? ⟨B,7,none⟩=some v7:=⟨h.cell rfl,h.cell rfl,h.cell rfl,h.cell rfl,h.cell rfl,h.cell rfl,h.cell rfl,h.cell rfl⟩
theorem HoldsL.c9 {v0 v1 v2 v3 v4 v5 v6 v7 v8:Value} {l:List Value} (h:HoldsL w B (v0::v1::v2::v3::v4::v5::v6::v7::v8::l)):w.cell? ⟨B,0,none⟩=some v0∧w.cell? ⟨B,1,none⟩=some v1∧w.cell? ⟨B,2,none⟩=some v2∧w.cell? ⟨B,3,none⟩=some v3∧w.cell? ⟨B,4,none⟩=some v4∧w.cell? ⟨B,5,none⟩=some v5∧w.cell? ⟨B,6,none⟩=some v6∧w.cell? ⟨B,7,none⟩=some v7∧w.cell? ⟨B,8,none⟩=some v8:=⟨h.cell rfl,h.cell rfl,h.cell rfl,h.cell rfl,h.cell rfl,h.cell rfl,h.cell rfl,h.cell rfl,h.cell rfl⟩
theorem HoldsL.c10 {v0 v1 v2 v3 v4 v5 v6 v7 v8 v9:Value} {l:List Value} (h:HoldsL w B (v0::v1::v2::v3::v4::v5::v6::v7::v8::v9::l)):w.cell? ⟨B,0,none⟩=some v0∧w.cell? ⟨B,1,none⟩=some v1∧w.cell? ⟨B,2,none⟩=some v2∧w.cell? ⟨B,3,none⟩=some v3∧w.cell? ⟨B,4,none⟩=some v4∧w.cell? ⟨B,5,none⟩=some v5∧w.cell? ⟨B,6,none⟩=some v6∧w.cell? ⟨B,7,none⟩=some v7∧w.cell? ⟨B,8,none⟩=some v8∧w.cell? ⟨B,9,none⟩=some v9:=⟨h.cell rfl,h.cell rfl,h.cell rfl,h.cell rfl,h.cell rfl,h.cell rfl,h.cell rfl,h.cell rfl,h.cell rfl,h.cell rfl⟩
theorem HoldsL.c11 {v0 v1 v2 v3 v4 v5 v6 v7 v8 v9 v10:Value} {l:List Value} (h:HoldsL w B (v0::v1::v2::v3::v4::v5::v6::v7::v8::v9::v10::l)):w.cell? ⟨B,0,none⟩=some v0∧w.cell? ⟨B,1,none⟩=some v1∧w.cell? ⟨B,2,none⟩=some v2∧w.cell? ⟨B,3,none⟩=some v3∧w.cell? ⟨B,4,none⟩=some v4∧w.cell? ⟨B,5,none⟩=some v5∧w.cell? ⟨B,6,none⟩=some v6∧w.cell? ⟨B,7,none⟩=some v7∧w.cell? ⟨B,8,none⟩=some v8∧w.cell? ⟨B,9,none⟩=some v9∧w.cell? ⟨B,10,none⟩=some v10:=⟨h.cell rfl,h.cell rfl,h.cell rfl,h.cell rfl,h.cell rfl,h.cell rfl,h.cell rfl,h.cell rfl,h.cell rfl,h.cell rfl,h.cell rfl⟩
theorem HoldsL.c12 {v0 v1 v2 v3 v4 v5 v6 v7 v8 v9 v10 v11:Value} {l:List Value} (h:HoldsL w B (v0::v1::v2::v3::v4::v5::v6::v7::v8::v9::v10::v11::l)):w.cell? ⟨B,0,none⟩=some v0∧w.cell? ⟨B,1,none⟩=some v1∧w.cell? ⟨B,2,none⟩=some v2∧w.cell? ⟨B,3,none⟩=some v3∧w.cell? ⟨B,4,none⟩=some v4∧w.cell? ⟨B,5,none⟩=some v5∧w.cell? ⟨B,6,none⟩=some v6∧w.cell? ⟨B,7,none⟩=some v7∧w.cell? ⟨B,8,none⟩=some v8∧w.cell? ⟨B,9,none⟩=some v9∧w.cell? ⟨B,10,none⟩=some v10∧w.cell? ⟨B,11,none⟩=some v11:=⟨h.cell rfl,h.cell rfl,h.cell rfl,h.cell rfl,h.cell rfl,h.cell rfl,h.cell rfl,h.cell rfl,h.cell rfl,h.cell rfl,h.cell rfl,h.cell rfl⟩
theorem HoldsL.f2 {v0 v1:Value} {l:List Value} (h:HoldsL w B (v0::v1::l)):w.frozen? ⟨B,0,none⟩=false∧w.frozen? ⟨B,1,none⟩=false:=⟨h.free (by simp),h.free (by simp)⟩
theorem HoldsL.f3 {v0 v1 v2:Value} {l:List Value} (h:HoldsL w B (v0::v1::v2::l)):w.frozen? ⟨B,0,none⟩=false∧w.frozen? ⟨B,1,none⟩=false∧w.frozen? ⟨B,2,none⟩=false:=⟨h.free (by simp),h.free (by simp),h.free (by simp)⟩
theorem HoldsL.f4 {v0 v1 v2 v3:Value} {l:List Value} (h:HoldsL w B (v0::v1::v2::v3::l)):w.frozen? ⟨B,0,none⟩=false∧w.frozen? ⟨B,1,none⟩=false∧w.frozen? ⟨B,2,none⟩=false∧w.frozen? ⟨B,3,none⟩=false:=⟨h.free (by simp),h.free (by simp),h.free (by simp),h.free (by simp)⟩
theorem HoldsL.f5 {v0 v1 v2 v3 v4:Value} {l:List Value} (h:HoldsL w B (v0::v1::v2::v3::v4::l)):w.frozen? ⟨B,0,none⟩=false∧w.frozen? ⟨B,1,none⟩=false∧w.frozen? ⟨B,2,none⟩=false∧w.frozen? ⟨B,3,none⟩=false∧w.frozen? ⟨B,4,none⟩=false:=⟨h.free (by simp),h.free (by simp),h.free (by simp),h.free (by simp),h.free (by simp)⟩
theorem HoldsL.f6 {v0 v1 v2 v3 v4 v5:Value} {l:List Value} (h:HoldsL w B (v0::v1::v2::v3::v4::v5::l)):w.frozen? ⟨B,0,none⟩=false∧w.frozen? ⟨B,1,none⟩=false∧w.frozen? ⟨B,2,none⟩=false∧w.frozen? ⟨B,3,none⟩=false∧w.frozen? ⟨B,4,none⟩=false∧w.frozen? ⟨B,5,none⟩=false:=⟨h.free (by simp),h.free (by simp),h.free (by simp),h.free (by simp),h.free (by simp),h.free (by simp)⟩
theorem HoldsL.f7 {v0 v1 v2 v3 v4 v5 v6:Value} {l:List Value} (h:HoldsL w B (v0::v1::v2::v3::v4::v5::v6::l)):w.frozen? ⟨B,0,none⟩=false∧w.frozen? ⟨B,1,none⟩=false∧w.frozen? ⟨B,2,none⟩=false∧w.frozen? ⟨B,3,none⟩=false∧w.frozen? ⟨B,4,none⟩=false∧w.frozen? ⟨B,5,none⟩=false∧w.frozen? ⟨B,6,none⟩=false:=⟨h.free (by simp),h.free (by simp),h.free (by simp),h.free (by simp),h.free (by simp),h.free (by simp),h.free (by simp)⟩
theorem HoldsL.f8 {v0 v1 v2 v3 v4 v5 v6 v7:Value} {l:List Value} (h:HoldsL w B (v0::v1::v2::v3::v4::v5::v6::v7::l)):w.frozen? ⟨B,0,none⟩=false∧w.frozen? ⟨B,1,none⟩=false∧w.frozen? ⟨B,2,none⟩=false∧w.frozen? ⟨B,3,none⟩=false∧w.frozen? ⟨B,4,none⟩=false∧w.frozen? ⟨B,5,none⟩=false∧w.frozen? ⟨B,6,none⟩=false∧w.frozen? ⟨B,7,none⟩=false:=⟨h.free (by simp),h.free (by simp),h.free (by simp),h.free (by simp),h.free (by simp),h.free (by simp),h.free (by simp),h.free (by simp)⟩
theorem HoldsL.f9 {v0 v1 v2 v3 v4 v5 v6 v7 v8:Value} {l:List Value} (h:HoldsL w B (v0::v1::v2::v3::v4::v5::v6::v7::v8::l)):w.frozen? ⟨B,0,none⟩=false∧w.frozen? ⟨B,1,none⟩=false∧w.frozen? ⟨B,2,none⟩=false∧w.frozen? ⟨B,3,none⟩=false∧w.frozen? ⟨B,4,none⟩=false∧w.frozen? ⟨B,5,none⟩=false∧w.frozen? ⟨B,6,none⟩=false∧w.frozen? ⟨B,7,none⟩=false∧w.frozen? ⟨B,8,none⟩=false:=⟨h.free (by simp),h.free (by simp),h.free (by simp),h.free (by simp),h.free (by simp),h.free (by simp),h.free (by simp),h.free (by simp),h.free (by simp)⟩
theorem HoldsL.f10 {v0 v1 v2 v3 v4 v5 v6 v7 v8 v9:Value} {l:List Value} (h:HoldsL w B (v0::v1::v2::v3::v4::v5::v6::v7::v8::v9::l)):w.frozen? ⟨B,0,none⟩=false∧w.frozen? ⟨B,1,none⟩=false∧w.frozen? ⟨B,2,none⟩=false∧w.frozen? ⟨B,3,none⟩=false∧w.frozen? ⟨B,4,none⟩=false∧w.frozen? ⟨B,5,none⟩=false∧w.frozen? ⟨B,6,none⟩=false∧w.frozen? ⟨B,7,none⟩=false∧w.frozen? ⟨B,8,none⟩=false∧w.frozen? ⟨B,9,none⟩=false:=⟨h.free (by simp),h.free (by simp),h.free (by simp),h.free (by simp),h.free (by simp),h.free (by simp),h.free (by simp),h.free (by simp),h.free (by simp),h.free (by simp)⟩
theorem HoldsL.f11 {v0 v1 v2 v3 v4 v5 v6 v7 v8 v9 v10:Value} {l:List Value} (h:HoldsL w B (v0::v1::v2::v3::v4::v5::v6::v7::v8::v9::v10::l)):w.frozen? ⟨B,0,none⟩=false∧w.frozen? ⟨B,1,none⟩=false∧w.frozen? ⟨B,2,none⟩=false∧w.frozen? ⟨B,3,none⟩=false∧w.frozen? ⟨B,4,none⟩=false∧w.frozen? ⟨B,5,none⟩=false∧w.frozen? ⟨B,6,none⟩=false∧w.frozen? ⟨B,7,none⟩=false∧w.frozen? ⟨B,8,none⟩=false∧w.frozen? ⟨B,9,none⟩=false∧w.frozen? ⟨B,10,none⟩=false:=⟨h.free (by simp),h.free (by simp),h.free (by simp),h.free (by simp),h.free (by simp),h.free (by simp),h.free (by simp),h.free (by simp),h.free (by simp),h.free (by simp),h.free (by simp)⟩
theorem HoldsL.c13 {v0 v1 v2 v3 v4 v5 v6 v7 v8 v9 v10 v11 v12:Value} {l:List Value} (h:HoldsL w B (v0::v1::v2::v3::v4::v5::v6::v7::v8::v9::v10::v11::v12::l)):w.cell? ⟨B,0,none⟩=some v0∧w.cell? ⟨B,1,none⟩=some v1∧w.cell? ⟨B,2,none⟩=some v2∧w.cell? ⟨B,3,none⟩=some v3∧w.cell? ⟨B,4,none⟩=some v4∧w.cell? ⟨B,5,none⟩=some v5∧w.cell? ⟨B,6,none⟩=some v6∧w.cell? ⟨B,7,none⟩=some v7∧w.cell? ⟨B,8,none⟩=some v8∧w.cell? ⟨B,9,none⟩=some v9∧w.cell? ⟨B,10,none⟩=some v10∧w.cell? ⟨B,11,none⟩=some v11∧w.cell? ⟨B,12,none⟩=some v12:=⟨h.cell rfl,h.cell rfl,h.cell rfl,h.cell rfl,h.cell rfl,h.cell rfl,h.cell rfl,h.cell rfl,h.cell rfl,h.cell rfl,h.cell rfl,h.cell rfl,h.cell rfl⟩
theorem HoldsL.c14 {v0 v1 v2 v3 v4 v5 v6 v7 v8 v9 v10 v11 v12 v13:Value} {l:List Value} (h:HoldsL w B (v0::v1::v2::v3::v4::v5::v6::v7::v8::v9::v10::v11::v12::v13::l)):w.cell? ⟨B,0,none⟩=some v0∧w.cell? ⟨B,1,none⟩=some v1∧w.cell? ⟨B,2,none⟩=some v2∧w.cell? ⟨B,3,none⟩=some v3∧w.cell? ⟨B,4,none⟩=some v4∧w.cell? ⟨B,5,none⟩=some v5∧w.cell? ⟨B,6,none⟩=some v6∧w.cell? ⟨B,7,none⟩=some v7∧w.cell? ⟨B,8,none⟩=some v8∧w.cell? ⟨B,9,none⟩=some v9∧w.cell? ⟨B,10,none⟩=some v10∧w.cell? ⟨B,11,none⟩=some v11∧w.cell? ⟨B,12,none⟩=some v12∧w.cell? ⟨B,13,none⟩=some v13:=⟨h.cell rfl,h.cell rfl,h.cell rfl,h.cell rfl,h.cell rfl,h.cell rfl,h.cell rfl,h.cell rfl,h.cell rfl,h.cell rfl,h.cell rfl,h.cell rfl,h.cell rfl,h.cell rfl⟩
theorem HoldsL.f14 {v0 v1 v2 v3 v4 v5 v6 v7 v8 v9 v10 v11 v12 v13:Value} {l:List Value} (h:HoldsL w B (v0::v1::v2::v3::v4::v5::v6::v7::v8::v9::v10::v11::v12::v13::l)):w.frozen? ⟨B,0,none⟩=false∧w.frozen? ⟨B,1,none⟩=false∧w.frozen? ⟨B,2,none⟩=false∧w.frozen? ⟨B,3,none⟩=false∧w.frozen? ⟨B,4,none⟩=false∧w.frozen? ⟨B,5,none⟩=false∧w.frozen? ⟨B,6,none⟩=false∧w.frozen? ⟨B,7,none⟩=false∧w.frozen? ⟨B,8,none⟩=false∧w.frozen? ⟨B,9,none⟩=false∧w.frozen? ⟨B,10,none⟩=false∧w.frozen? ⟨B,11,none⟩=false∧w.frozen? ⟨B,12,none⟩=false∧w.frozen? ⟨B,13,none⟩=false:=⟨h.free (by simp),h.free (by simp),h.free (by simp),h.free (by simp),h.free (by simp),h.free (by simp),h.free (by simp),h.free (by simp),h.free (by simp),h.free (by simp),h.free (by simp),h.free (by simp),h.free (by simp),h.free (by simp)⟩
theorem HoldsL.c15 {v0 v1 v2 v3 v4 v5 v6 v7 v8 v9 v10 v11 v12 v13 v14:Value} {l:List Value} (h:HoldsL w B (v0::v1::v2::v3::v4::v5::v6::v7::v8::v9::v10::v11::v12::v13::v14::l)):w.cell? ⟨B,0,none⟩=some v0∧w.cell? ⟨B,1,none⟩=some v1∧w.cell? ⟨B,2,none⟩=some v2∧w.cell? ⟨B,3,none⟩=some v3∧w.cell? ⟨B,4,none⟩=some v4∧w.cell? ⟨B,5,none⟩=some v5∧w.cell? ⟨B,6,none⟩=some v6∧w.cell? ⟨B,7,none⟩=some v7∧w.cell? ⟨B,8,none⟩=some v8∧w.cell? ⟨B,9,none⟩=some v9∧w.cell? ⟨B,10,none⟩=some v10∧w.cell? ⟨B,11,none⟩=some v11∧w.cell? ⟨B,12,none⟩=some v12∧w.cell? ⟨B,13,none⟩=some v13∧w.cell? ⟨B,14,none⟩=some v14:=⟨h.cell rfl,h.cell rfl,h.cell rfl,h.cell rfl,h.cell rfl,h.cell rfl,h.cell rfl,h.cell rfl,h.cell rfl,h.cell rfl,h.cell rfl,h.cell rfl,h.cell rfl,h.cell rfl,h.cell rfl⟩
theorem HoldsL.lt (h:HoldsL w B cs) (hl:0 < cs.length):B < w.heap.size:=by
 obtain ⟨v,hv⟩:=Option.isSome_iff_exists.1 (h.th 0 hl).1;exact World.block_lt_of_cell? w _ hv
theorem HoldsL.of_block (hb:W.heap[B]?=w.heap[B]?) (h:HoldsL w B cs):HoldsL W B cs:=by
 have hc:∀ j,W.cell? ⟨B,j,none⟩=w.cell? ⟨B,j,none⟩:=fun j=>by unfold World.cell?; rw [show (⟨B,j,none⟩ : Addr).block=B from rfl,hb]
 exact ⟨fun j v hv=>by rw [hc]; exact h.at0 j v hv,fun j hj=>⟨by rw [hc]; exact (h.th j hj).1,(World.frozen?_of_block (a:=⟨B,0+j,none⟩) hb).trans (h.th j hj).2⟩⟩
theorem HoldsL.kept (h:HoldsL w B cs) (hl:0 < cs.length) (hB:Below w.heap.size w W):HoldsL W B cs:=h.of_block (hB.block B (h.lt hl))
theorem HoldsL.grown {row:Option Nat} (h:HoldsL w B cs) (hl:0 < cs.length) (hg:w.grownBy W row) (hr:some B≠row):HoldsL W B cs:=h.of_block (hg.block B (h.lt hl) hr)
theorem HoldsL.alloc (h:HoldsL w B cs) (o:Obj):HoldsL (w.alloc o) B cs:=⟨World.rangeAt_alloc h.at0 o,World.there_alloc h.th o⟩
theorem HoldsL.drew (h:HoldsL w B cs):HoldsL w.drew B cs:=⟨by simpa using h.at0,by simpa using h.th⟩
theorem HoldsL.set (h:HoldsL w B cs) (j:Nat) (v:Value):HoldsL (w.setCell ⟨B,j,none⟩ v) B (cs.set j v):=by
 refine ⟨fun i u hu=>?_,fun i hi=>⟨?_,by rw [World.frozen?_setCell]; exact (h.th i (by simpa using hi)).2⟩⟩
 ·rw [Nat.zero_add];by_cases e:i=j
  ·subst e;have hi:i < cs.length:=by
    rw [List.getElem?_set] at hu;by_cases e:i < cs.length
    ·exact e
    ·simp [e] at hu
   obtain ⟨x,hx⟩:=Option.isSome_iff_exists.1 (h.th i hi).1;rw [Nat.zero_add] at hx;rw [World.cell?_setCell_same _ _ _ hx];rw [List.getElem?_set_self hi] at hu;exact hu
  ·rw [World.cell?_setCell_other _ _ _ _ (fun e2=>e (by injection e2 with _ h2; exact h2.symm))];rw [List.getElem?_set_ne (fun e2=>e e2.symm)] at hu;exact h.cell hu
 ·have hi':i < cs.length:=by simpa using hi
  obtain ⟨x,hx⟩:=Option.isSome_iff_exists.1 (h.th i hi').1;by_cases e:i=j
  ·subst e; rw [Nat.zero_add] at hx ⊢; rw [World.cell?_setCell_same _ _ _ hx]; rfl
  ·rw [Nat.zero_add] at hx ⊢; rw [World.cell?_setCell_other _ _ _ _ (fun e2=>e (by injection e2 with _ h2; exact h2.symm)),hx]; rfl
theorem HoldsL.setOther (h:HoldsL w B cs) {C j:Nat} (hne:B≠C) (v:Value):HoldsL (w.setCell ⟨C,j,none⟩ v) B cs :=
 h.of_block (Below.heap_setCell w _ v B (fun e=>hne (by simpa using e)))
theorem HoldsL.setCells (h:HoldsL w B cs) (ds:List Value) (hl:ds.length=cs.length):HoldsL (w.setCells B 0 ds) B ds :=
 ⟨World.rangeAt_setCells_same w B 0 ds (by rw [hl]; exact h.th),by rw [hl]; exact World.there_setCells h.th B 0 ds⟩
theorem HoldsL.setCellsOther (h:HoldsL w B cs) {C o:Nat} (hne:B≠C) (ds:List Value):HoldsL (w.setCells C o ds) B cs :=
 ⟨World.rangeAt_setCells_apart h.at0 C o ds (.inl hne),World.there_setCells h.th C o ds⟩
theorem HoldsL.setRange (h:HoldsL w B cs) (o:Nat) (ds:List Value) (ho:o+ds.length≤cs.length):HoldsL (w.setCells B o ds) B (cs.take o++ds++cs.drop (o+ds.length)):=by
 have hlen:(cs.take o++ds++cs.drop (o+ds.length)).length=cs.length:=by simp; omega
 refine ⟨fun j v hv=>?_,by rw [hlen]; exact World.there_setCells h.th B o ds⟩;have hthere:w.there B o ds.length:=fun i hi=>by have:=h.th (o+i) (by omega); rwa [Nat.zero_add] at this
 rw [Nat.zero_add];by_cases h1:j < o
 ·rw [World.cell?_setCells_out B ds o w ⟨B,j,none⟩ (fun _ _=>.inl h1)];rw [List.append_assoc,List.getElem?_append_left (by simp; omega),List.getElem?_take,if_pos h1] at hv;exact h.cell hv
 ·by_cases h2:j < o+ds.length
  ·have:=World.rangeAt_setCells_same w B o ds hthere (j-o) v (by
    rw [List.append_assoc,List.getElem?_append_right (by simp; omega),List.getElem?_append_left (by simp; omega)] at hv;rw [show (cs.take o).length=o by simp; omega] at hv;exact hv)
   rwa [show o+(j-o)=j by omega] at this
  ·rw [World.cell?_setCells_out B ds o w ⟨B,j,none⟩ (fun _ _=>.inr (by show o+ds.length≤j; omega))];rw [List.getElem?_append_right (by simp; omega),List.getElem?_drop] at hv;rw [show (cs.take o++ds).length=o+ds.length by simp; omega,show o+ds.length+(j-(o+ds.length))=j by omega] at hv;exact h.cell hv
end
theorem results_mid {P:Program} {fn:Func} {p:Tmp} {ty:TypeId} (h:fn.results=#[.cell p ty]) (tmps:Array Value) (w:World) (g:Nat) (cs:List Value) (d:TypeDesc)
  (hp:tmps.getD p undef=.pointer (some ⟨g,0,none⟩)) (hc:HoldsL w g cs) (hu:P.underlying ty=some d) (hd:d.isRow=true) (hi:(P.info? ty).map (·.size)=some cs.length) :
  (results fn tmps).run P w=.ok (.agg cs.toArray) w:=by
 have hp':tmps[p]?.getD undef=.pointer (some ⟨g,0,none⟩):=by simpa using hp
 simp [results,h,hp',asAddr,run_loadVar_mid w g 0 ty cs d hc.at0 hu hd hi]
open Go.PlainAid Go.ChangeShapes Go.WideShapes
def PlWf (p:Pl):Prop:=StrsWf p.addrs∧In64t p.low∧In64t p.high∧In64t p.most∧In64t p.filter∧LvWf p.lv
def PlRet (base:Nat) (p:Pl) (e:Ending) (w:World):Prop:=∃ B,e=.returned (plC (some ⟨B,0,none⟩) p.addrs.length p)∧base≤B∧SlLaid strL1 1 w B p.addrs p.addrs.length p.addrs.length
section
variable {H:Type} {enc:TypeId × Value→H} {w:World} {base:Nat} {spare:Nat→Bool} {held:Bool}
theorem arr10 {α:Type} {cs:Array α} (h:cs.size=10):∃ c0 c1 c2 c3 c4 c5 c6 c7 c8 c9,cs=#[c0,c1,c2,c3,c4,c5,c6,c7,c8,c9]:=by
 obtain ⟨l⟩:=cs;match l,h with
 | [c0,c1,c2,c3,c4,c5,c6,c7,c8,c9],_=>exact ⟨c0,c1,c2,c3,c4,c5,c6,c7,c8,c9,rfl⟩
theorem open_Pool {r:Reach} {b0:Nat} {v:Value} {d:DataW H} {p:List MemPlace} (hv:Value.okWide Tryz.prog w r b0 26 v) (h:DataW.Trod enc Tryz.prog w base spare held 26 v d p) :
  ∃ (a:Option Addr) (cap:Nat) (q:Pl),v=plC a cap q∧PlWf q∧SlIs strL1 1 w a q.addrs:=by
 obtain ⟨cs,rfl,hsz⟩:=okWide_struct Tryz.underlying26 hv;obtain ⟨c0,c1,c2,c3,c4,c5,c6,c7,c8,c9,rfl⟩:=arr10 (hsz.trans (show Tryz.prog.cellsOf 26=10 by kernel_rfl));obtain ⟨fuel,hf⟩:=h;obtain ⟨m0,y0,h0⟩:=flat_field Tryz.underlying26 hf 0 _ rfl rfl (show Tryz.prog.cellsOf 22=1 by kernel_rfl) c0 rfl;obtain ⟨m1,y1,h1⟩:=flat_field Tryz.underlying26 hf 1 _ rfl rfl (show Tryz.prog.cellsOf 2=1 by kernel_rfl) c1 rfl;obtain ⟨x1,e1,_,g1⟩:=DataW.trod_int Tryz.underlying2 h1;obtain ⟨m2,y2,h2⟩:=flat_field Tryz.underlying26 hf 2 _ rfl rfl (show Tryz.prog.cellsOf 2=1 by kernel_rfl) c2 rfl;obtain ⟨x2,e2,_,g2⟩:=DataW.trod_int Tryz.underlying2 h2;obtain ⟨m3,y3,h3⟩:=flat_field Tryz.underlying26 hf 3 _ rfl rfl (show Tryz.prog.cellsOf 2=1 by kernel_rfl) c3 rfl;obtain ⟨x3,e3,_,g3⟩:=DataW.trod_int Tryz.underlying2 h3;obtain ⟨m4,y4,h4⟩:=flat_field Tryz.underlying26 hf 4 _ rfl rfl (show Tryz.prog.cellsOf 2=1 by kernel_rfl) c4 rfl;obtain ⟨x4,e4,_,g4⟩:=DataW.trod_int Tryz.underlying2 h4;obtain ⟨xs,m5,_,_,hl,hx,hg⟩:=DataW.trod_struct Tryz.underlying26 hf;have h5:DataW.trod enc Tryz.prog w base spare held m5 24 (([c0,c1,c2,c3,c4,c5,c6,c7,c8,c9].drop 5).take (Tryz.prog.cellsOf 24))=xs[5]?:=hg 5 _ rfl;have hl5:5 < xs.length:=by rw [hx]; decide
 rw [List.getElem?_eq_getElem hl5,show Tryz.prog.cellsOf 24=5 by kernel_rfl] at h5;have h5:DataW.trod enc Tryz.prog w base spare held m5 24 [c5,c6,c7,c8,c9]=some xs[5]:=h5;obtain ⟨n0,z0,k0⟩:=flat_field Tryz.underlying24 h5 0 _ rfl rfl (show Tryz.prog.cellsOf 2=1 by kernel_rfl) c5 rfl;obtain ⟨x5,e5,_,g5⟩:=DataW.trod_int Tryz.underlying2 k0;obtain ⟨n1,z1,k1⟩:=flat_field Tryz.underlying24 h5 1 _ rfl rfl (show Tryz.prog.cellsOf 2=1 by kernel_rfl) c6 rfl;obtain ⟨x6,e6,_,g6⟩:=DataW.trod_int Tryz.underlying2 k1;obtain ⟨n2,z2,k2⟩:=flat_field Tryz.underlying24 h5 2 _ rfl rfl (show Tryz.prog.cellsOf 2=1 by kernel_rfl) c7 rfl;obtain ⟨x7,e7,_,g7⟩:=DataW.trod_int Tryz.underlying2 k2;obtain ⟨n3,z3,k3⟩:=flat_field Tryz.underlying24 h5 3 _ rfl rfl (show Tryz.prog.cellsOf 2=1 by kernel_rfl) c8 rfl;obtain ⟨x8,e8,_,g8⟩:=DataW.trod_int Tryz.underlying2 k3;obtain ⟨n4,z4,k4⟩:=flat_field Tryz.underlying24 h5 4 _ rfl rfl (show Tryz.prog.cellsOf 2=1 by kernel_rfl) c9 rfl;obtain ⟨x9,e9,_,g9⟩:=DataW.trod_int Tryz.underlying2 k4;simp only [List.cons.injEq,and_true] at e1 e2 e3 e4 e5 e6 e7 e8 e9;subst e1 e2 e3 e4 e5 e6 e7 e8 e9;obtain ⟨a,len,cap,rfl⟩ : ∃ a len cap,c0=.slice a len cap:=by
  rcases DataW.trod_slice Tryz.underlying22 h0 with ⟨e,_⟩ | ⟨b,l,c,_,_,_,_,e,_⟩
  ·simp at e; exact ⟨_,_,_,e⟩
  ·simp at e; exact ⟨_,_,_,e⟩
 obtain ⟨ys,rfl,hw,hs⟩:=open_StringS h0;exact ⟨a,cap,⟨ys,x1,x2,x3,x4,⟨x5,x6,x7,x8,x9⟩⟩,rfl,⟨hw,wf64s g1,wf64s g2,wf64s g3,wf64s g4,wf64s g5,wf64s g6,wf64s g7,wf64s g8,wf64s g9⟩,hs⟩
end
theorem szPool_at (p:Pl) (a:Option Addr) (cap:Nat) (left:Int) (w:World) (hw:PlWf p) (hr:SlIs strL1 1 w a p.addrs) (h0:0≤left) (h1:left≤1048576) :
  Cb 6 #[plC a cap p,iV left] w (iV (szSl strN p.addrs left)):=by
 have GA:Hid (Below w.heap.size w (w.alloc (.cells (PlV a cap p).toArray 26))):=bR.alloc (Nat.le_refl _) _;have HC:Hid (∀ W,Below w.heap.size w W→Cb 25 #[.slice a p.addrs.length cap,iV left] W (iV (szSl strN p.addrs left))):=fun W hW=>szStringS_at p.addrs a cap left W hw.1 (hr.below hW) h0 h1
 have hrg:=szSl_range strN p.addrs left h0;clear hr;generalize szSl strN p.addrs left=ans at *;unfold plC;by_cases hs:ans < 0
 ·have he:ans=-1:=by omega
  subst he;go_enter Tryz.func6,Tryz.ntmps6
  go_wp2_with fail
  refine (HC.out _ GA.out).mono ?_;rintro e w1 ⟨rfl,q1⟩;have G1:Hid _:=GA.out.trans (q1.mono GA.out.size);clear q1;go_wp2_with fail
  go_ret;exact ⟨rfl,G1.out⟩
 ·have hs1:0≤ans:=by omega
  have hs2:ans≤1048576:=by omega
  go_enter Tryz.func6,Tryz.ntmps6
  go_wp2_with fail
  refine (HC.out _ GA.out).mono ?_;rintro e w1 ⟨rfl,q1⟩;have G1:Hid _:=GA.out.trans (q1.mono GA.out.size);clear q1;go_wp2_with fail
  go_ret;exact ⟨rfl,G1.out⟩
theorem toPool_any (p:Pl) (a:Option Addr) (cap:Nat) (w:World) (hl:p.addrs.length≤1048576) (hr:SlIs strL1 1 w a p.addrs) :
  Calls Tryz.prog 10 #[plC a cap p] w fun e w'=>PlRet w.heap.size p e w'∧Below w.heap.size w w':=by
 have HB:Hid (Below w.heap.size w (((w.alloc (.cells (PlV a cap p).toArray 26)).alloc (.cells Z10V.toArray 48)).alloc (.cells Z10V.toArray 48))):=((bR.alloc (Nat.le_refl _) _).alloc (by simp) _).alloc (by simp; omega) _;have H0:=((HoldsL.new w (PlV a cap p) 26).alloc (.cells Z10V.toArray 48)).alloc (.cells Z10V.toArray 48);have H1:=(HoldsL.new (w.alloc (.cells (PlV a cap p).toArray 26)) Z10V 48).alloc (.cells Z10V.toArray 48);have H2:=HoldsL.new ((w.alloc (.cells (PlV a cap p).toArray 26)).alloc (.cells Z10V.toArray 48)) Z10V 48;have hsz:(((w.alloc (.cells (PlV a cap p).toArray 26)).alloc (.cells Z10V.toArray 48)).alloc (.cells Z10V.toArray 48)).heap.size=w.heap.size+1+1+1:=by simp
 rw [World.size_alloc] at H1 H2;rw [World.size_alloc] at H2;have HS:Hid (∀ W,Below w.heap.size w W→Calls Tryz.prog 31 #[.slice a p.addrs.length cap] W fun e w'=>e=.returned (.slice (some ⟨W.heap.size,0,none⟩) p.addrs.length p.addrs.length)∧Below W.heap.size W w'∧SlLaid strL1 1 w' W.heap.size p.addrs p.addrs.length p.addrs.length):=fun W hW=>toStringS_any p.addrs a cap W hl (hr.below hW)
 have HT:Hid (∀ W,Cb 32 #[lvC p.lv] W (lvC p.lv)):=fun W=>toLives_any p.lv W
 have G0:Hid _:=H0;have G1:Hid _:=H1;have G2:Hid _:=H2;unfold plC;unfold lvC at HT;clear hr H0 H1 H2;go_enter Tryz.func10,Tryz.ntmps10
 go_upto_region 2 with fail
 generalize ((w.alloc (.cells (PlV a cap p).toArray 26)).alloc (.cells Z10V.toArray 48)).alloc (.cells Z10V.toArray 48)=W3 at *;have k0:=G0.out.cell (j:=0) rfl;go_wp2_with fail
 refine (HS.out _ HB.out).mono ?_;rintro e w1 ⟨rfl,q1,y1⟩;have B1:Hid _:=HB.out.trans (q1.mono HB.out.size);have K0:=G0.out.kept (by simp) q1;have K1:Hid _:=G1.out.kept (by simp) q1;have K2:=G2.out.kept (by simp) q1;have HY:Hid (SlLaid strL1 1 w1 W3.heap.size p.addrs p.addrs.length p.addrs.length):=y1;rw [hsz] at HY ⊢;obtain ⟨C,hC⟩ : ∃ C,C=w.heap.size+1+1+1:=⟨_,rfl⟩;rw [← hC] at HY ⊢;have hCl:w.heap.size+1+1 < C:=by omega
 clear q1 y1 k0 hC hsz;obtain ⟨-,b1,b2,b3,b4,b5,b6,b7,b8,b9⟩:=K0.c10;obtain ⟨o0,o1,o2,o3,o4⟩:=K2.c5;obtain ⟨f0,f1,f2,f3,f4⟩:=K2.f5;have D2:Hid _:=((((K2.set 0 (.slice (some ⟨C,0,none⟩) p.addrs.length p.addrs.length)).set 1 (iV p.low)).set 2 (iV p.high)).set 3 (iV p.most)).set 4 (iV p.filter);have D1:Hid _:=((((K1.out.setOther (C:=w.heap.size+1+1) (j:=0) (by omega) (.slice (some ⟨C,0,none⟩) p.addrs.length p.addrs.length)).setOther (C:=w.heap.size+1+1) (j:=1) (by omega) (iV p.low)).setOther (C:=w.heap.size+1+1) (j:=2) (by omega) (iV p.high)).setOther (C:=w.heap.size+1+1) (j:=3) (by omega) (iV p.most)).setOther (C:=w.heap.size+1+1) (j:=4) (by omega) (iV p.filter);have DY:Hid _:=((((HY.out.setOther (X:=w.heap.size+1+1) (o:=0) (by omega) (.slice (some ⟨C,0,none⟩) p.addrs.length p.addrs.length)).setOther (X:=w.heap.size+1+1) (o:=1) (by omega) (iV p.low)).setOther (X:=w.heap.size+1+1) (o:=2) (by omega) (iV p.high)).setOther (X:=w.heap.size+1+1) (o:=3) (by omega) (iV p.most)).setOther (X:=w.heap.size+1+1) (o:=4) (by omega) (iV p.filter);have DB:Hid _:=((((B1.out.setCell (p:=⟨w.heap.size+1+1,0,none⟩) (by show w.heap.size≤w.heap.size+1+1; omega) (.slice (some ⟨C,0,none⟩) p.addrs.length p.addrs.length)).setCell (p:=⟨w.heap.size+1+1,1,none⟩) (by show w.heap.size≤w.heap.size+1+1; omega) (iV p.low)).setCell (p:=⟨w.heap.size+1+1,2,none⟩) (by show w.heap.size≤w.heap.size+1+1; omega) (iV p.high)).setCell (p:=⟨w.heap.size+1+1,3,none⟩) (by show w.heap.size≤w.heap.size+1+1; omega) (iV p.most)).setCell (p:=⟨w.heap.size+1+1,4,none⟩) (by show w.heap.size≤w.heap.size+1+1; omega) (iV p.filter);clear K0 K1 K2 HY B1;go_wp2_with fail
 generalize ((((w1.setCell ⟨w.heap.size+1+1,0,none⟩ (.slice (some ⟨C,0,none⟩) p.addrs.length p.addrs.length)).setCell ⟨w.heap.size+1+1,1,none⟩ (iV p.low)).setCell ⟨w.heap.size+1+1,2,none⟩ (iV p.high)).setCell ⟨w.heap.size+1+1,3,none⟩ (iV p.most)).setCell ⟨w.heap.size+1+1,4,none⟩ (iV p.filter)=W5 at *;refine (HT.out _).mono ?_;rintro e w6 ⟨rfl,q6⟩;have E2:=D2.out.kept (by simp) q6;have E1:=D1.out.kept (by simp) q6;have EY:Hid _:=DY.out.kept q6;have EB:Hid _:=DB.out.trans (q6.mono DB.out.size);clear q6;clear b1 b2 b3 b4 b5 b6 b7 b8 b9 o0 o1 o2 o3 o4 f0 f1 f2 f3 f4;obtain ⟨o0,o1,o2,o3,o4,o5,o6,o7,o8,o9⟩:=E2.c10;obtain ⟨-,-,-,-,-,f5,f6,f7,f8,f9⟩:=E2.f10;obtain ⟨r0,r1,r2,r3,r4,r5,r6,r7,r8,r9⟩:=E1.c10;obtain ⟨s0,s1,s2,s3,s4,s5,s6,s7,s8,s9⟩:=E1.f10;have R1:Hid (HoldsL _ (w.heap.size+1) (plL (some ⟨C,0,none⟩) p.addrs.length p)):=(((((((((((((((E1.setOther (C:=w.heap.size+1+1) (j:=5) (by omega) (iV p.lv.udp)).setOther (C:=w.heap.size+1+1) (j:=6) (by omega) (iV p.lv.echo)).setOther (C:=w.heap.size+1+1) (j:=7) (by omega) (iV p.lv.opening)).setOther (C:=w.heap.size+1+1) (j:=8) (by omega) (iV p.lv.opn)).setOther (C:=w.heap.size+1+1) (j:=9) (by omega) (iV p.lv.closing)).set 0 (.slice (some ⟨C,0,none⟩) p.addrs.length p.addrs.length)).set 1 (iV p.low)).set 2 (iV p.high)).set 3 (iV p.most)).set 4 (iV p.filter)).set 5 (iV p.lv.udp)).set 6 (iV p.lv.echo)).set 7 (iV p.lv.opening)).set 8 (iV p.lv.opn)).set 9 (iV p.lv.closing));have RY:Hid _:=(((((((((((((((EY.out.setOther (X:=w.heap.size+1+1) (o:=5) (by omega) (iV p.lv.udp)).setOther (X:=w.heap.size+1+1) (o:=6) (by omega) (iV p.lv.echo)).setOther (X:=w.heap.size+1+1) (o:=7) (by omega) (iV p.lv.opening)).setOther (X:=w.heap.size+1+1) (o:=8) (by omega) (iV p.lv.opn)).setOther (X:=w.heap.size+1+1) (o:=9) (by omega) (iV p.lv.closing)).setOther (X:=w.heap.size+1) (o:=0) (by omega) (.slice (some ⟨C,0,none⟩) p.addrs.length p.addrs.length)).setOther (X:=w.heap.size+1) (o:=1) (by omega) (iV p.low)).setOther (X:=w.heap.size+1) (o:=2) (by omega) (iV p.high)).setOther (X:=w.heap.size+1) (o:=3) (by omega) (iV p.most)).setOther (X:=w.heap.size+1) (o:=4) (by omega) (iV p.filter)).setOther (X:=w.heap.size+1) (o:=5) (by omega) (iV p.lv.udp)).setOther (X:=w.heap.size+1) (o:=6) (by omega) (iV p.lv.echo)).setOther (X:=w.heap.size+1) (o:=7) (by omega) (iV p.lv.opening)).setOther (X:=w.heap.size+1) (o:=8) (by omega) (iV p.lv.opn)).setOther (X:=w.heap.size+1) (o:=9) (by omega) (iV p.lv.closing));have RB:Hid _:=(((((((((((((((EB.out.setCell (p:=⟨w.heap.size+1+1,5,none⟩) (by show w.heap.size≤w.heap.size+1+1; omega) (iV p.lv.udp)).setCell (p:=⟨w.heap.size+1+1,6,none⟩) (by show w.heap.size≤w.heap.size+1+1; omega) (iV p.lv.echo)).setCell (p:=⟨w.heap.size+1+1,7,none⟩) (by show w.heap.size≤w.heap.size+1+1; omega) (iV p.lv.opening)).setCell (p:=⟨w.heap.size+1+1,8,none⟩) (by show w.heap.size≤w.heap.size+1+1; omega) (iV p.lv.opn)).setCell (p:=⟨w.heap.size+1+1,9,none⟩) (by show w.heap.size≤w.heap.size+1+1; omega) (iV p.lv.closing)).setCell (p:=⟨w.heap.size+1,0,none⟩) (by show w.heap.size≤w.heap.size+1; omega) (.slice (some ⟨C,0,none⟩) p.addrs.length p.addrs.length)).setCell (p:=⟨w.heap.size+1,1,none⟩) (by show w.heap.size≤w.heap.size+1; omega) (iV p.low)).setCell (p:=⟨w.heap.size+1,2,none⟩) (by show w.heap.size≤w.heap.size+1; omega) (iV p.high)).setCell (p:=⟨w.heap.size+1,3,none⟩) (by show w.heap.size≤w.heap.size+1; omega) (iV p.most)).setCell (p:=⟨w.heap.size+1,4,none⟩) (by show w.heap.size≤w.heap.size+1; omega) (iV p.filter)).setCell (p:=⟨w.heap.size+1,5,none⟩) (by show w.heap.size≤w.heap.size+1; omega) (iV p.lv.udp)).setCell (p:=⟨w.heap.size+1,6,none⟩) (by show w.heap.size≤w.heap.size+1; omega) (iV p.lv.echo)).setCell (p:=⟨w.heap.size+1,7,none⟩) (by show w.heap.size≤w.heap.size+1; omega) (iV p.lv.opening)).setCell (p:=⟨w.heap.size+1,8,none⟩) (by show w.heap.size≤w.heap.size+1; omega) (iV p.lv.opn)).setCell (p:=⟨w.heap.size+1,9,none⟩) (by show w.heap.size≤w.heap.size+1; omega) (iV p.lv.closing))
 clear E1 E2;go_wp2_with fail
 exact bodyPost_ret (results_mid Tryz.results10 _ _ (w.heap.size+1) (plL (some ⟨C,0,none⟩) p.addrs.length p) _ rfl R1.out Tryz.underlying48 rfl (show (Tryz.prog.info? 48).map (·.size)=some 10 by kernel_rfl)) rfl ⟨⟨C,rfl,by omega,RY.out⟩,RB.out⟩
theorem eqPool_same (p:Pl) (a1 a2:Option Addr) (cap1 cap2:Nat) (w:World) (hl:p.addrs.length≤1048576) (h1:SlIs strL1 1 w a1 p.addrs) (h2:SlIs strL1 1 w a2 p.addrs) :
  Cb 15 #[plC a1 cap1 p,plC a2 cap2 p] w (.bool true):=by
 have HB:Hid (Below w.heap.size w ((w.alloc (.cells (PlV a1 cap1 p).toArray 48)).alloc (.cells (PlV a2 cap2 p).toArray 48))):=(bR.alloc (Nat.le_refl _) _).alloc (by simp) _;have H0:=(HoldsL.new w (PlV a1 cap1 p) 48).alloc (.cells (PlV a2 cap2 p).toArray 48);have H1:=HoldsL.new (w.alloc (.cells (PlV a1 cap1 p).toArray 48)) (PlV a2 cap2 p) 48;rw [World.size_alloc] at H1;have HS:Hid (∀ W,Below w.heap.size w W→Cb 38 #[.slice a1 p.addrs.length cap1,.slice a2 p.addrs.length cap2] W (.bool true)):=fun W hW=>eqStringS_same p.addrs a1 a2 cap1 cap2 W hl (h1.below hW) (h2.below hW)
 have HT:Hid (∀ W,Cb 39 #[lvC p.lv,lvC p.lv] W (.bool true)):=fun W=>eqLives_same p.lv W
 have G0:Hid _:=H0;have G1:Hid _:=H1;unfold plC;unfold lvC at HT;clear h1 h2 H0 H1;go_enter Tryz.func15,Tryz.ntmps15
 go_upto_region 1 with fail
 generalize (w.alloc (.cells (PlV a1 cap1 p).toArray 48)).alloc (.cells (PlV a2 cap2 p).toArray 48)=W2 at *;have k0:=G0.out.cell (j:=0) rfl;have k1:=G1.out.cell (j:=0) rfl;go_wp2_with fail
 refine (HS.out _ HB.out).mono ?_;rintro e w1 ⟨rfl,q1⟩;have B1:Hid _:=HB.out.trans (q1.mono HB.out.size);have K0:=G0.out.kept (by simp) q1;have K1:=G1.out.kept (by simp) q1;clear q1 k0 k1;obtain ⟨-,b1,b2,b3,b4,b5,b6,b7,b8,b9⟩:=K0.c10;obtain ⟨-,d1,d2,d3,d4,d5,d6,d7,d8,d9⟩:=K1.c10;clear K0 K1;go_wp2_with fail
 refine (HT.out _).mono ?_;rintro e w2 ⟨rfl,q2⟩;have B2:Hid _:=B1.out.trans (q2.mono B1.out.size);clear q2;go_wp2_with fail
 go_ret;exact ⟨rfl,B2.out⟩
def BdWf (p:Bd):Prop:=In64t p.proto∧p.inn.size≤maxLen∧In64t p.inPort∧p.out.size≤maxLen∧In64t p.outPort
structure BoxBind (w:World) (B:Nat) (p:Bd):Prop where
 c0:w.cell? ⟨B,0,none⟩=some (iV p.proto)
 c1:w.cell? ⟨B,1,none⟩=some (.string p.inn)
 c2:w.cell? ⟨B,2,none⟩=some (iV p.inPort)
 c3:w.cell? ⟨B,3,none⟩=some (.string p.out)
 c4:w.cell? ⟨B,4,none⟩=some (iV p.outPort)
theorem BoxBind.kept {w W:World} {B:Nat} {p:Bd} (h:BoxBind w B p) (hB:Below w.heap.size w W):BoxBind W B p:=by
 have hb:=World.block_lt_of_cell? w _ h.c0;exact ⟨((bcell hB).1 B 0 hb).trans h.c0,((bcell hB).1 B 1 hb).trans h.c1,((bcell hB).1 B 2 hb).trans h.c2,((bcell hB).1 B 3 hb).trans h.c3,((bcell hB).1 B 4 hb).trans h.c4⟩
theorem BoxBind.new (w:World) (p:Bd) {t:TypeId}:BoxBind (w.alloc (.cells (BdV p).toArray t)) w.heap.size p:=⟨cell_new rfl,cell_new rfl,cell_new rfl,cell_new rfl,cell_new rfl⟩
section
variable {H:Type} {enc:TypeId × Value→H} {w:World} {base:Nat} {spare:Nat→Bool} {held:Bool}
end
theorem toBind_any (p:Bd) (w:World) :
  Cb 57 #[bdC p] w (bdC p):=by
 obtain ⟨proto,inn,inPort,out,outPort⟩:=p;unfold bdC;dsimp only;go_enter Tryz.func57,Tryz.ntmps57
 go_wp2_with fail
 refine bodyPost_ret (v:=.agg (BdR proto inn inPort out outPort).toArray) (by simp [results,Tryz.results57,go_sem]) rfl ⟨rfl,?_⟩;exact ((bR.alloc (Nat.le_refl _) _).alloc (by simp) _).alloc (by simp; omega) _
theorem eqBind_same (p:Bd) (w:World) :
  Cb 64 #[bdC p,bdC p] w (.bool true):=by
 obtain ⟨proto,inn,inPort,out,outPort⟩:=p;unfold bdC;dsimp only;have HZ:Hid (Below w.heap.size w ((aW w (BdR proto inn inPort out outPort) 94).alloc (.cells (BdR proto inn inPort out outPort).toArray 94))):=(bR.alloc (Nat.le_refl _) _).alloc (by simp) _;go_enter Tryz.func64,Tryz.ntmps64
 go_wp2_with fail
 go_ret;exact ⟨rfl,HZ.out⟩
def bindN (p:Bd):List Nat:=[p.inn.size,p.out.size]
def BdsWf (xs:List Bd):Prop:=xs.length≤maxLen∧∀ q∈xs,BdWf q
section
variable {H:Type} {enc:TypeId × Value→H} {w:World} {base:Nat} {spare:Nat→Bool} {held:Bool}
theorem elem_Bind {m:Nat} {cs:List Value} {y:DataW H × List MemPlace} (h:DataW.trod enc Tryz.prog w base spare held m 83 cs=some y):∃ q:Bd,cs=bdL q∧BdWf q:=by
 obtain ⟨xs,m',_,_,hl,_,_⟩:=DataW.trod_struct Tryz.underlying83 h;rw [show Tryz.prog.cellsOf 83=5 by kernel_rfl] at hl;match cs,hl with
 | [c0,c1,c2,c3,c4],_ =>
  obtain ⟨m0,y0,h0⟩:=flat_field Tryz.underlying83 h 0 _ rfl rfl (show Tryz.prog.cellsOf 2=1 by kernel_rfl) c0 rfl;obtain ⟨x0,e0,_,g0⟩:=DataW.trod_int Tryz.underlying2 h0;obtain ⟨m1,y1,h1⟩:=flat_field Tryz.underlying83 h 1 _ rfl rfl (show Tryz.prog.cellsOf 9=1 by kernel_rfl) c1 rfl;obtain ⟨x1,e1,_,g1⟩:=DataW.trod_string Tryz.underlying9 h1;obtain ⟨m2,y2,h2⟩:=flat_field Tryz.underlying83 h 2 _ rfl rfl (show Tryz.prog.cellsOf 2=1 by kernel_rfl) c2 rfl;obtain ⟨x2,e2,_,g2⟩:=DataW.trod_int Tryz.underlying2 h2;obtain ⟨m3,y3,h3⟩:=flat_field Tryz.underlying83 h 3 _ rfl rfl (show Tryz.prog.cellsOf 9=1 by kernel_rfl) c3 rfl;obtain ⟨x3,e3,_,g3⟩:=DataW.trod_string Tryz.underlying9 h3;obtain ⟨m4,y4,h4⟩:=flat_field Tryz.underlying83 h 4 _ rfl rfl (show Tryz.prog.cellsOf 2=1 by kernel_rfl) c4 rfl;obtain ⟨x4,e4,_,g4⟩:=DataW.trod_int Tryz.underlying2 h4;simp only [List.cons.injEq,and_true] at e0 e1 e2 e3 e4;subst e0 e1 e2 e3 e4;exact ⟨⟨x0,x1,x2,x3,x4⟩,rfl,wf64s g0,g1,wf64s g2,g3,wf64s g4⟩
theorem open_BindS {fuel:Nat} {a:Option Addr} {len cap:Nat} {x:DataW H × List MemPlace} (h:DataW.trod enc Tryz.prog w base spare held fuel 27 [.slice a len cap]=some x):∃ xs:List Bd,xs.length=len∧BdsWf xs∧SlIs bdL 5 w a xs :=
 open_flat bdL_length (by omega) Tryz.underlying27 (by kernel_rfl) BdWf (fun m cs y h=>elem_Bind h) h
end
theorem szBind_at (p:Bd) (left:Int) (w:World) (hw:BdWf p) (h0:0≤left) (h1:left≤1048576) :
  Cb 48 #[bdC p,iV left] w (iV (szN (bindN p) left)):=by
 have HV0:Hid (szN (bindN p) left=szN [p.inn.size,p.out.size] left):=rfl;obtain ⟨q_proto,q_inn,q_inPort,q_out,q_outPort⟩:=hw;generalize szN (bindN p) left=ans at *;obtain ⟨proto,inn,inPort,out,outPort⟩:=p;unfold bdC;dsimp only at *;unfold maxLen at *;clear q_proto q_inPort q_outPort;have HZ:Hid (Below w.heap.size w (w.alloc (.cells (BdR proto inn inPort out outPort).toArray 83))):=bR.alloc (Nat.le_refl _) _;by_cases l0:left < (inn.size:Int)
 ·have HV:Hid (ans=-1):=by unfold Hid; rw [HV0.out,szN_yes l0]
  clear HV0;go_enter Tryz.func48,Tryz.ntmps48
  go_wp2_with fail
  go_ret;exact ⟨ret_int HV.out.symm,HZ.out⟩
 ·skip
  by_cases l1:left-inn.size < (out.size:Int)
  ·have HV:Hid (ans=-1):=by unfold Hid; rw [HV0.out,szN_no l0,szN_yes l1]
   clear HV0;go_enter Tryz.func48,Tryz.ntmps48
   go_wp2_with fail
   go_ret;exact ⟨ret_int HV.out.symm,HZ.out⟩
  ·have HV:Hid (ans=left-inn.size-out.size):=by unfold Hid; rw [HV0.out,szN_no l0,szN_no l1]; rfl
   clear HV0;go_enter Tryz.func48,Tryz.ntmps48
   go_wp2_with fail
   go_ret;exact ⟨ret_int HV.out.symm,HZ.out⟩
theorem szBindS_at (xs:List Bd) (a:Option Addr) (cap:Nat) (left:Int) (w:World) (hwf:BdsWf xs) (hr:SlIs bdL 5 w a xs) (h0:0≤left) (h1:left≤1048576) :
  Cb 26 #[.slice a xs.length cap,iV left] w (iV (szSl bindN xs left)):=by
 have hlm:=hwf.1;unfold maxLen at hlm;by_cases hlong:left < (xs.length:Int)
 ·have HV:Hid (szSl bindN xs left=-1):=if_pos hlong;clear hr hwf;generalize szSl bindN xs left=ans at *;go_enter Tryz.func26,Tryz.ntmps26
  go_wp2_with fail
  go_ret;exact ⟨ret_int HV.out.symm,Below.refl _ _⟩
 ·have HV:Hid (szSl bindN xs left=szL (xs.map bindN) (left-xs.length)):=if_neg hlong;have HR:Hid (SlIs bdL 5 w a xs):=hr;have HW:Hid (BdsWf xs):=hwf;clear hr hwf;generalize szSl bindN xs left=ans at *;go_enter Tryz.func26,Tryz.ntmps26
  go_wp2_with fail
  go_loopw [1,5] (fun l i wr=>∃ (k:Nat) (lf:Int),k≤xs.length∧i=iV k∧l=iV lf∧0≤lf∧lf≤1048576∧szL (xs.map bindN) (left-xs.length)=szL ((xs.drop k).map bindN) lf∧Below w.heap.size w wr) (fun _ i _=>xs.length-(intOf i).toNat)
  case atStart=>exact ⟨0,left-xs.length,Nat.zero_le _,rfl,rfl,by omega,by omega,rfl,Below.refl _ _⟩
  case round =>
   obtain ⟨k,lf,hk,rfl,rfl,hl0,hl1,hz,hbel⟩:=hrel;have HK:Hid _:=hz;have HL:Hid (Below w.heap.size w wr):=hbel;clear hz hbel;by_cases hlt:k < xs.length
   ·obtain ⟨b,off,rfl,hb,hat⟩:=HR.out.at hlt;have HA:=(hat.below hb HL.out) k hlt;have hst:=szL_drop (f:=bindN) hlt lf;have hq2:=HW.out.2 xs[k] (List.getElem_mem hlt);obtain ⟨q,hq⟩ : ∃ q,q=xs[k]:=⟨_,rfl⟩;rw [← hq] at HA hst hq2;have c0:wr.cell? ⟨b,off+k*5,none⟩=some (iV q.proto):=HA 0 _ rfl;have c1:wr.cell? ⟨b,off+k*5+1,none⟩=some (.string q.inn):=HA 1 _ rfl;have c2:wr.cell? ⟨b,off+k*5+2,none⟩=some (iV q.inPort):=HA 2 _ rfl;have c3:wr.cell? ⟨b,off+k*5+3,none⟩=some (.string q.out):=HA 3 _ rfl;have c4:wr.cell? ⟨b,off+k*5+4,none⟩=some (iV q.outPort):=HA 4 _ rfl;have HST:Hid _:=hst;have hrg:=szN_range (bindN q) lf hl0;have HC:Hid (∀ W,Cb 48 #[bdC q,iV lf] W (iV (szN (bindN q) lf))):=fun W=>szBind_at q lf W hq2 hl0 hl1
    clear hq HA hat hst hq2;generalize szN (bindN q) lf=nx at *;unfold bdC at HC;by_cases hs:nx < 0
    ·have HX:Hid (ans=-1):=by unfold Hid; rw [HV.out,HK.out,HST.out,if_pos hs]
     go_wp2_with fail
     refine (HC.out _).mono ?_;rintro e w1 ⟨rfl,q1⟩;go_wp2_with fail
     go_ret;exact ⟨ret_int HX.out.symm,HL.out.trans (q1.mono HL.out.size)⟩
    ·have HX:Hid (szL ((xs.drop k).map bindN) lf=szL ((xs.drop (k+1)).map bindN) nx):=HST.out.trans (if_neg hs);have hs0:0≤nx:=by omega
     have hs1:nx≤1048576:=by omega
     clear HST hrg;go_wp2_with fail
     refine (HC.out _).mono ?_;rintro e w1 ⟨rfl,q1⟩;have HL1:Hid _:=HL.out.trans (q1.mono HL.out.size);clear q1;go_wp2_with fail
     go_roundw
     case rel=>exact ⟨k+1,nx,by omega,by go_num,rfl,hs0,hs1,by rw [HK.out,HX.out],HL1.out⟩
     case measure=>simp [intOf]; omega
   ·have HX:Hid (ans=lf):=by unfold Hid; rw [HV.out,HK.out,szL_end (by omega)]
    go_wp2_with fail
    go_ret;exact ⟨ret_int HX.out.symm,HL.out⟩
theorem Tryz.infoBd:(Tryz.prog.info? 94).map (fun i=>(i.zero,i.size,i.bytes))=some (some (.agg (BdR 0 ⟨#[]⟩ 0 ⟨#[]⟩ 0).toArray),5,56):=by kernel_rfl
theorem toBindS_any (xs:List Bd) (a:Option Addr) (cap:Nat) (w:World) (hlen:xs.length≤1048576) (hr:SlIs bdL 5 w a xs) :
  Calls Tryz.prog 33 #[.slice a xs.length cap] w fun e w'=>e=.returned (.slice (some ⟨w.heap.size,0,none⟩) xs.length xs.length)∧Below w.heap.size w w'∧SlLaid bdL 5 w' w.heap.size xs xs.length xs.length:=by
 have HR:Hid (SlIs bdL 5 w a xs):=hr;clear hr;obtain ⟨i0,hi,hz0,hz1,hz2⟩:=info_parts Tryz.infoBd;go_enter Tryz.func33,Tryz.ntmps33
 go_wp2_with (at_make; refine wpList_make_full _ rfl _ _ 36 rfl w.heap.size 94 i0 (.agg (BdR 0 ⟨#[]⟩ 0 ⟨#[]⟩ 0).toArray) 5 Tryz.underlying36 hi hz0 hz1 .i64 .i64 _ _ xs.length rfl rfl (by omega) (by omega) (by rw [hz2]; omega) (by unfold maxLen; omega) (Nat.le_refl _) ?_; intro w1 hown hgrow)
 have hlaid:SlLaid bdL 5 w1 w.heap.size xs xs.length 0:=SlLaid.start hown;have hbel:Below w.heap.size w w1:=⟨hgrow.os,hgrow.tape,hgrow.output,hgrow.size,fun k hk=>hgrow.block k hk (by simp)⟩;have HY:Hid (SlLaid bdL 5 w1 w.heap.size xs xs.length 0):=hlaid;have HB:Hid (Below w.heap.size w w1):=hbel;clear hown hgrow hlaid hbel hi hz0 hz1 hz2;go_wp2_with fail
 go_loopw [4] (fun i wr=>∃ k:Nat,k≤xs.length∧i=iV k∧SlLaid bdL 5 wr w.heap.size xs xs.length k∧Below w.heap.size w wr) (fun i _=>xs.length-(intOf i).toNat)
 case atStart=>exact ⟨0,Nat.zero_le _,rfl,HY.out,HB.out⟩
 case round =>
  obtain ⟨k,hk,rfl,hy,hbel⟩:=hrel;have HK:Hid (SlLaid bdL 5 wr w.heap.size xs xs.length k):=hy;have HL:Hid (Below w.heap.size w wr):=hbel;clear hy hbel;by_cases hlt:k < xs.length
  ·obtain ⟨b,off,rfl,hb,hat⟩:=HR.out.at hlt;have HA:=(hat.below hb HL.out) k hlt;obtain ⟨q,hq⟩ : ∃ q,q=xs[k]:=⟨_,rfl⟩;rw [← hq] at HA;have c0:wr.cell? ⟨b,off+k*5,none⟩=some (iV q.proto):=HA 0 _ rfl;have c1:wr.cell? ⟨b,off+k*5+1,none⟩=some (.string q.inn):=HA 1 _ rfl;have c2:wr.cell? ⟨b,off+k*5+2,none⟩=some (iV q.inPort):=HA 2 _ rfl;have c3:wr.cell? ⟨b,off+k*5+3,none⟩=some (.string q.out):=HA 3 _ rfl;have c4:wr.cell? ⟨b,off+k*5+4,none⟩=some (iV q.outPort):=HA 4 _ rfl;have HQ:Hid (q=xs[k]):=hq;have HC:Hid (∀ W,Cb 57 #[bdC q] W (bdC q)):=fun W=>toBind_any q W
   unfold bdC at HC;clear hq HA hat;go_wp2_with fail
   refine (HC.out _).mono ?_;rintro e w2 ⟨rfl,q2⟩;have HL2:Hid _:=HL.out.trans (q2.mono HL.out.size);have HK2:Hid (SlLaid bdL 5 w2 w.heap.size xs xs.length k):=HK.out.kept q2;clear q2 c0 c1 c2 c3 c4;obtain ⟨v0,t0⟩:=Option.isSome_iff_exists.1 (HK2.out.there (k*5) (by omega));have f0:=HK2.out.free (k*5) (by omega);obtain ⟨v1,t1⟩:=Option.isSome_iff_exists.1 (HK2.out.there (k*5+1) (by omega));have f1:=HK2.out.free (k*5+1) (by omega);obtain ⟨v2,t2⟩:=Option.isSome_iff_exists.1 (HK2.out.there (k*5+2) (by omega));have f2:=HK2.out.free (k*5+2) (by omega);obtain ⟨v3,t3⟩:=Option.isSome_iff_exists.1 (HK2.out.there (k*5+3) (by omega));have f3:=HK2.out.free (k*5+3) (by omega);obtain ⟨v4,t4⟩:=Option.isSome_iff_exists.1 (HK2.out.there (k*5+4) (by omega));have f4:=HK2.out.free (k*5+4) (by omega);go_wp2_with fail
   go_roundw
   case rel =>
    have hset:=HK2.out.set bdL_length hlt hlt;rw [← HQ.out] at hset;exact ⟨k+1,by omega,by go_num,hset,(((((HL2.out.setCell (Nat.le_refl _) _).setCell (Nat.le_refl _) _).setCell (Nat.le_refl _) _).setCell (Nat.le_refl _) _).setCell (Nat.le_refl _) _)⟩
   case measure=>simp [intOf]; omega
  ·have hkl:k=xs.length:=by omega
   have HE:Hid (SlLaid bdL 5 wr w.heap.size xs xs.length xs.length):=by have h:=HK.out; rw [hkl] at h; exact h
   clear HK;go_wp2_with fail
   go_ret;exact ⟨rfl,HL.out,HE.out⟩
theorem eqBindS_same (xs:List Bd) (a1 a2:Option Addr) (cap1 cap2:Nat) (w:World) (hlen:xs.length≤1048576) (h1:SlIs bdL 5 w a1 xs) (h2:SlIs bdL 5 w a2 xs) :
  Cb 40 #[.slice a1 xs.length cap1,.slice a2 xs.length cap2] w (.bool true):=by
 have H1:Hid (SlIs bdL 5 w a1 xs):=h1;have H2:Hid (SlIs bdL 5 w a2 xs):=h2;clear h1 h2;go_enter Tryz.func40,Tryz.ntmps40
 go_wp2_with fail
 go_loopw [5] (fun i wr=>∃ k:Nat,k≤xs.length∧i=iV k∧Below w.heap.size w wr) (fun i _=>xs.length-(intOf i).toNat)
 case atStart=>exact ⟨0,Nat.zero_le _,rfl,Below.refl _ _⟩
 case round =>
  obtain ⟨k,hk,rfl,hbel⟩:=hrel;have HL:Hid (Below w.heap.size w wr):=hbel;clear hbel;by_cases hlt:k < xs.length
  ·obtain ⟨b1,o1,rfl,hb1,hA⟩:=H1.out.at hlt;obtain ⟨b2,o2,rfl,hb2,hB⟩:=H2.out.at hlt;have hA:=(hA.below hb1 HL.out) k hlt;have hB:=(hB.below hb2 HL.out) k hlt;obtain ⟨q,hq⟩ : ∃ q,q=xs[k]:=⟨_,rfl⟩;rw [← hq] at hA hB;have c0:wr.cell? ⟨b1,o1+k*5,none⟩=some (iV q.proto):=hA 0 _ rfl;have c1:wr.cell? ⟨b1,o1+k*5+1,none⟩=some (.string q.inn):=hA 1 _ rfl;have c2:wr.cell? ⟨b1,o1+k*5+2,none⟩=some (iV q.inPort):=hA 2 _ rfl;have c3:wr.cell? ⟨b1,o1+k*5+3,none⟩=some (.string q.out):=hA 3 _ rfl;have c4:wr.cell? ⟨b1,o1+k*5+4,none⟩=some (iV q.outPort):=hA 4 _ rfl;have d0:wr.cell? ⟨b2,o2+k*5,none⟩=some (iV q.proto):=hB 0 _ rfl;have d1:wr.cell? ⟨b2,o2+k*5+1,none⟩=some (.string q.inn):=hB 1 _ rfl;have d2:wr.cell? ⟨b2,o2+k*5+2,none⟩=some (iV q.inPort):=hB 2 _ rfl;have d3:wr.cell? ⟨b2,o2+k*5+3,none⟩=some (.string q.out):=hB 3 _ rfl;have d4:wr.cell? ⟨b2,o2+k*5+4,none⟩=some (iV q.outPort):=hB 4 _ rfl;have HC:Hid (∀ W,Cb 64 #[bdC q,bdC q] W (.bool true)):=fun W=>eqBind_same q W
   unfold bdC at HC;clear hq hA hB;go_wp2_with fail
   go_region_with (go_at_call 64; refine (HC.out _).mono ?_; rintro e w2 ⟨rfl,q2⟩)
   all_goals
    have HL2:Hid _:=HL.out.trans ((below_undrew q2).mono HL.out.size);clear q2;go_wp2_with fail
    go_roundw
    case rel=>exact ⟨k+1,by omega,by go_num,HL2.out⟩
    case measure=>simp [intOf]; omega
  ·go_wp2_with fail
   go_ret;exact ⟨rfl,HL.out⟩
def bindM (k:Nat):List Value:=(BdR ((k:Nat):Int) (markV (k+1)) ((k+2:Nat):Int) (markV (k+3)) ((k+4:Nat):Int))
theorem bindM_length (k:Nat):(bindM k).length=5:=rfl
theorem markBindS_any (B L cap k:Nat) (w:World) (hk:0 < k) (hL:k+5*L≤1073741824) (hs:SlLaid bindM 5 w B (marksOf 5 k L) L 0) :
  Calls Tryz.prog 43 #[.slice (some ⟨B,0,none⟩) L cap,iV k] w fun e w'=>e=.returned (iV ((k+5*L:Nat):Int))∧SlLaid bindM 5 w' B (marksOf 5 k L) L L∧w.grownBy w' (some B):=by
 have HS:Hid _:=hs;clear hs;go_enter Tryz.func43,Tryz.ntmps43
 go_wp2_with fail
 go_loopw [1,5] (fun kv i wr=>∃ m:Nat,m≤L∧i=iV m∧kv=iV ((k+5*m:Nat):Int)∧SlLaid bindM 5 wr B (marksOf 5 k L) L m∧w.grownBy wr (some B)) (fun _ i _=>L-(intOf i).toNat)
 case atStart=>exact ⟨0,Nat.zero_le _,rfl,rfl,HS.out,World.grownBy.refl _ _⟩
 case round =>
  obtain ⟨m,hm,rfl,rfl,hy,hg⟩:=hrel;have HK:Hid (MkSt bindM 5 w B k L m [] wr):=MkSt.new hy hg;clear hy hg HS;by_cases hlt:m < L
  ·obtain ⟨kk,hkk⟩ : ∃ kk,kk=k+5*m:=⟨_,rfl⟩;have HKK:Hid (kk=k+5*m):=hkk;rw [← hkk];have hk1:0 < kk:=by omega
   have hk2:kk+5≤1073741824:=by omega
   clear hkk;obtain ⟨v0,t0⟩:=HK.out.there (j:=0) hlt (by omega);have f0:=HK.out.free (j:=0) hlt (by omega);rw [Nat.add_zero] at t0 f0;go_wp2_with fail
   refine (markText_at _ (kk+1) _ (by omega) (by omega) (by omega)).mono ?_;rintro e wA1 ⟨rfl,qA1⟩;have HA1:Hid (MkSt bindM 5 w B k L m [iV ((kk:Nat):Int)] wA1):=((HK.out.put bindM_length (by simp) hlt (iV ((kk:Nat):Int)))).call qA1;clear qA1 HK;obtain ⟨v1,t1⟩:=HA1.out.there (j:=1) hlt (by omega);have f1:=HA1.out.free (j:=1) hlt (by omega);obtain ⟨v2,t2⟩:=HA1.out.there (j:=2) hlt (by omega);have f2:=HA1.out.free (j:=2) hlt (by omega);go_wp2_with fail
   refine (markText_at _ (kk+3) _ (by omega) (by omega) (by omega)).mono ?_;rintro e wA3 ⟨rfl,qA3⟩;have HA3:Hid (MkSt bindM 5 w B k L m (EnV ((kk:Nat):Int) (markV (kk+1)) ((kk+2:Nat):Int)) wA3):=(((HA1.out.put bindM_length (by simp) hlt (.string (markV (kk+1)))).put bindM_length (by simp) hlt (iV ((kk+2:Nat):Int)))).call qA3;clear qA3 HA1;clear t1 f1 t2 f2;obtain ⟨v3,t3⟩:=HA3.out.there (j:=3) hlt (by omega);have f3:=HA3.out.free (j:=3) hlt (by omega);obtain ⟨v4,t4⟩:=HA3.out.there (j:=4) hlt (by omega);have f4:=HA3.out.free (j:=4) hlt (by omega);go_wp2_with fail
   go_roundw
   case rel =>
    have hF:MkSt bindM 5 w B k L m (bindM kk) _:=((HA3.out.put bindM_length (by simp) hlt (.string (markV (kk+3)))).put bindM_length (by simp) hlt (iV ((kk+4:Nat):Int)));exact ⟨m+1,by omega,by go_num,by have:=HKK.out; congr 1; omega,hF.next bindM_length (by rw [HKK.out]) hlt,hF.grown⟩
   case measure=>simp [intOf]; omega
  ·have hml:m=L:=by omega
   have HE:Hid (SlLaid bindM 5 wr B (marksOf 5 k L) L L∧w.grownBy wr (some B)):=⟨by have h:=HK.out.laid; rw [hml] at h; exact h,HK.out.grown⟩;clear HK;go_wp2_with fail
   go_ret;exact ⟨ret_int (by rw [hml]),HE.out.1,HE.out.2⟩
theorem heldBindS_any (B L cap k:Nat) (w:World) (hk:0 < k) (hL:k+5*L≤1073741824) (hs:SlLaid bindM 5 w B (marksOf 5 k L) L L) :
  Cb 67 #[.slice (some ⟨B,0,none⟩) L cap,iV k] w (iV ((k+5*L:Nat):Int)):=by
 have hblk:=hs.blk;have HS:Hid _:=hs;clear hs;go_enter Tryz.func67,Tryz.ntmps67
 go_wp2_with fail
 go_loopw [1,5] (fun kv i wr=>∃ m:Nat,m≤L∧i=iV m∧kv=iV ((k+5*m:Nat):Int)∧Below w.heap.size w wr) (fun _ i _=>L-(intOf i).toNat)
 case atStart=>exact ⟨0,Nat.zero_le _,rfl,rfl,Below.refl _ _⟩
 case round =>
  obtain ⟨m,hm,rfl,rfl,hbel⟩:=hrel;have HL:Hid (Below w.heap.size w wr):=hbel;clear hbel;by_cases hlt:m < L
  ·have hR:=(HS.out.kept HL.out).at0 m (by rw [marksOf_length]; exact hlt) hlt;rw [marksOf_get] at hR;have hbr:B < wr.heap.size:=Nat.lt_of_lt_of_le hblk HL.out.size;obtain ⟨kk,hkk⟩ : ∃ kk,kk=k+5*m:=⟨_,rfl⟩;have HKK:Hid (kk=k+5*m):=hkk;rw [← hkk] at hR ⊢;have hk1:0 < kk:=by omega
   have hk2:kk+5≤1073741824:=by omega
   clear hkk;have c0:wr.cell? ⟨B,m*5,none⟩=some (iV ((kk:Int))):=hR 0 _ rfl;have c1:wr.cell? ⟨B,m*5+1,none⟩=some (.string (markV (kk+1))):=hR 1 _ rfl;have c2:wr.cell? ⟨B,m*5+2,none⟩=some (iV ((kk:Int)+1+1)):=hR 2 _ rfl;have c3:wr.cell? ⟨B,m*5+3,none⟩=some (.string (markV (kk+3))):=hR 3 _ rfl;have c4:wr.cell? ⟨B,m*5+4,none⟩=some (iV ((kk:Int)+1+1+1+1)):=hR 4 _ rfl;clear hR;go_upto_region 7 with fail
   go_cut [28] (fun v wx=>v=.bool false∧Below wr.heap.size wr wx)
   case first =>
    rename_i J K2 hJ hK2;refine wp_region_growL (Rs:=[IsV (.slice (some ⟨B,0,none⟩) L cap),IsV (iV (m:Int)),IsV (.pointer (some ⟨B,m*5,none⟩)),IsV (.pointer (some ⟨B,m*5+1,none⟩)),IsV (.string (markV (kk+1))),IsV (iV ((kk:Int)+1)),IsV (.string (markV (kk+1))),IsV (.bool false)]) [21,22,23,24,25,26,27,28] (by kernel_rfl) (by kernel_rfl) rfl ?st ?steps ?done
    case st=>simp [stable_isV,stable_isRow]
    case steps =>
     refine ⟨?s0,?s1,?s2,?s3,?s4,?s5,?s6,?s7,trivial⟩
     case s0 =>
      intro K' a wy ho hd hb hK;have h3:=ho 0 (by decide);simp [slot] at h3;clear hd;go_simp;try go_bits
      exact hK _ _ rfl bR
     case s1 =>
      intro K' a wy ho hd hb hK;have h3:=ho 5 (by decide);simp [slot] at h3;clear hd;go_simp;try go_bits
      exact hK _ _ rfl bR
     case s2 =>
      intro K' a wy ho hd hb hK;simp [Region.binds,rAt,IsV,slot] at hd;go_simp;try go_bits
      exact hK _ _ rfl bR
     case s3 =>
      intro K' a wy ho hd hb hK;simp [Region.binds,rAt,IsV,slot] at hd;go_simp;try go_bits
      exact hK _ _ rfl bR
     case s4 =>
      intro K' a wy ho hd hb hK;simp [Region.binds,rAt,IsV,slot] at hd;have hcx:=((bcell (Below.trans bR.drew hb)).1 B _ hbr).trans c1;go_simp;try go_bits
      exact hK _ _ rfl bR
     case s5 =>
      intro K' a wy ho hd hb hK;have h3:=ho 1 (by decide);simp [slot] at h3;clear hd;go_simp;try go_bits
      exact hK _ _ rfl bR
     case s6 =>
      intro K' a wy ho hd hb hK;simp [Region.binds,rAt,IsV,slot] at hd;go_simp;refine (markText_at _ (kk+1) wy (by omega) (by omega) (by omega)).mono ?_;rintro e wz ⟨rfl,hz⟩;exact hK _ _ rfl hz
     case s7 =>
      intro K' a wy ho hd hb hK;simp [Region.binds,rAt,IsV,slot] at hd;go_simp;try go_bits
      exact hK _ _ rfl bR
    case done =>
     intro X wz hR hz;obtain ⟨x0,x1,x2,x3,x4,x5,x6,x7,-⟩:=hR;simp only [IsV] at x0 x1 x2 x3 x4 x5 x6 x7;simp only [putsFrom,x0,x1,x2,x3,x4,x5,x6,x7];clear x0 x1 x2 x3 x4 x5 x6 x7;go_simp;refine hK2 _ _ (hJ _ _ ?_);(repeat apply Exists.intro)
     refine ⟨⟨rfl,(Below.refl _ wr).drew.trans hz⟩,rfl⟩
   case rest =>
   obtain ⟨rfl,hb1⟩:=hcut;generalize wc=wx1 at *;have HL1:Hid _:=HL.out.trans (hb1.mono HL.out.size);replace c2:=((bcell hb1).1 B _ hbr).trans c2;replace c3:=((bcell hb1).1 B _ hbr).trans c3;replace c4:=((bcell hb1).1 B _ hbr).trans c4;replace hbr:=Nat.lt_of_lt_of_le hbr hb1.size;clear hb1  c1;go_upto_region 13 with fail
   go_cut [47] (fun v wx=>v=.bool false∧Below wx1.heap.size wx1 wx)
   case first =>
    rename_i J K2 hJ hK2;refine wp_region_growL (Rs:=[IsV (.slice (some ⟨B,0,none⟩) L cap),IsV (iV (m:Int)),IsV (.pointer (some ⟨B,m*5,none⟩)),IsV (.pointer (some ⟨B,m*5+3,none⟩)),IsV (.string (markV (kk+3))),IsV (iV ((kk:Int)+1+1+1)),IsV (.string (markV (kk+3))),IsV (.bool false)]) [40,41,42,43,44,45,46,47] (by kernel_rfl) (by kernel_rfl) rfl ?st ?steps ?done
    case st=>simp [stable_isV,stable_isRow]
    case steps =>
     refine ⟨?s0,?s1,?s2,?s3,?s4,?s5,?s6,?s7,trivial⟩
     case s0 =>
      intro K' a wy ho hd hb hK;have h3:=ho 0 (by decide);simp [slot] at h3;clear hd;go_simp;try go_bits
      exact hK _ _ rfl bR
     case s1 =>
      intro K' a wy ho hd hb hK;have h3:=ho 5 (by decide);simp [slot] at h3;clear hd;go_simp;try go_bits
      exact hK _ _ rfl bR
     case s2 =>
      intro K' a wy ho hd hb hK;simp [Region.binds,rAt,IsV,slot] at hd;go_simp;try go_bits
      exact hK _ _ rfl bR
     case s3 =>
      intro K' a wy ho hd hb hK;simp [Region.binds,rAt,IsV,slot] at hd;go_simp;try go_bits
      exact hK _ _ rfl bR
     case s4 =>
      intro K' a wy ho hd hb hK;simp [Region.binds,rAt,IsV,slot] at hd;have hcx:=((bcell (Below.trans bR.drew hb)).1 B _ hbr).trans c3;go_simp;try go_bits
      exact hK _ _ rfl bR
     case s5 =>
      intro K' a wy ho hd hb hK;have h3:=ho 1 (by decide);simp [slot] at h3;clear hd;go_simp;try go_bits
      exact hK _ _ rfl bR
     case s6 =>
      intro K' a wy ho hd hb hK;simp [Region.binds,rAt,IsV,slot] at hd;go_simp;refine (markText_at _ (kk+3) wy (by omega) (by omega) (by omega)).mono ?_;rintro e wz ⟨rfl,hz⟩;exact hK _ _ rfl hz
     case s7 =>
      intro K' a wy ho hd hb hK;simp [Region.binds,rAt,IsV,slot] at hd;go_simp;try go_bits
      exact hK _ _ rfl bR
    case done =>
     intro X wz hR hz;obtain ⟨x0,x1,x2,x3,x4,x5,x6,x7,-⟩:=hR;simp only [IsV] at x0 x1 x2 x3 x4 x5 x6 x7;simp only [putsFrom,x0,x1,x2,x3,x4,x5,x6,x7];clear x0 x1 x2 x3 x4 x5 x6 x7;go_simp;refine hK2 _ _ (hJ _ _ ?_);(repeat apply Exists.intro)
     refine ⟨⟨rfl,(Below.refl _ wx1).drew.trans hz⟩,rfl⟩
   case rest =>
   obtain ⟨rfl,hb3⟩:=hcut;generalize wc=wx3 at *;have HL3:Hid _:=HL1.out.trans (hb3.mono HL1.out.size);replace c4:=((bcell hb3).1 B _ hbr).trans c4;replace hbr:=Nat.lt_of_lt_of_le hbr hb3.size;clear hb3 HL1 c3;go_wp2_with fail
   go_roundw
   case rel=>exact ⟨m+1,by omega,by go_num,by have:=HKK.out; congr 1; omega,HL3.out⟩
   case measure=>simp [intOf]; omega
  ·have hml:m=L:=by omega
   go_wp2_with fail
   go_ret;exact ⟨ret_int (by rw [hml]),HL.out⟩
theorem markBindS_nil (a:Option Addr) (cap k:Nat) (w:World) (hL:k≤1073741824) :
  Cw 43 #[.slice a 0 cap,iV k] w (iV (k:Int)):=by
 go_enter Tryz.func43,Tryz.ntmps43
 go_wp2_with fail
 go_loopw [1,5] (fun kv i wr=>kv=iV k∧i=iV 0∧wr=w) (fun _ _ _=>0)
 case atStart=>exact ⟨rfl,rfl,rfl⟩
 case round =>
  obtain ⟨rfl,rfl,rfl⟩:=hrel;go_wp2_with fail
  go_ret;exact ⟨rfl,rfl⟩
theorem heldBindS_nil (a:Option Addr) (cap k:Nat) (w:World) (hL:k≤1073741824) :
  Cw 67 #[.slice a 0 cap,iV k] w (iV (k:Int)):=by
 go_enter Tryz.func67,Tryz.ntmps67
 go_wp2_with fail
 go_loopw [1,5] (fun kv i wr=>kv=iV k∧i=iV 0∧wr=w) (fun _ _ _=>0)
 case atStart=>exact ⟨rfl,rfl,rfl⟩
 case round =>
  obtain ⟨rfl,rfl,rfl⟩:=hrel;go_wp2_with fail
  go_ret;exact ⟨rfl,rfl⟩
theorem heldBindS_own (base L:Nat) (a:Option Addr) (cap k:Nat) (w:World) (hk:0 < k) (hL:k+5*L≤1073741824) (hs:MkOwn 5 bindM base w a k L) :
  Cb 67 #[.slice a L cap,iV k] w (iV ((k+5*L:Nat):Int)):=by
 rcases hs with rfl | ⟨g,rfl,hb,hl⟩
 ·refine (heldBindS_nil a cap k w (by omega)).mono ?_;rintro e w' ⟨rfl,rfl⟩;exact ⟨rfl,Below.refl _ _⟩
 ·exact heldBindS_any g L cap k w hk hL hl
def SsWf (p:Ss):Prop:=In64t p.proto∧p.inn.size≤maxLen∧In64t p.inPort∧p.peer.size≤maxLen∧In64t p.peerPort∧In64t p.state∧In64t p.untl
structure BoxSession (w:World) (B:Nat) (p:Ss):Prop where
 c0:w.cell? ⟨B,0,none⟩=some (iV p.proto)
 c1:w.cell? ⟨B,1,none⟩=some (.string p.inn)
 c2:w.cell? ⟨B,2,none⟩=some (iV p.inPort)
 c3:w.cell? ⟨B,3,none⟩=some (.string p.peer)
 c4:w.cell? ⟨B,4,none⟩=some (iV p.peerPort)
 c5:w.cell? ⟨B,5,none⟩=some (iV p.state)
 c6:w.cell? ⟨B,6,none⟩=some (iV p.untl)
theorem BoxSession.kept {w W:World} {B:Nat} {p:Ss} (h:BoxSession w B p) (hB:Below w.heap.size w W):BoxSession W B p:=by
 have hb:=World.block_lt_of_cell? w _ h.c0;exact ⟨((bcell hB).1 B 0 hb).trans h.c0,((bcell hB).1 B 1 hb).trans h.c1,((bcell hB).1 B 2 hb).trans h.c2,((bcell hB).1 B 3 hb).trans h.c3,((bcell hB).1 B 4 hb).trans h.c4,((bcell hB).1 B 5 hb).trans h.c5,((bcell hB).1 B 6 hb).trans h.c6⟩
theorem BoxSession.new (w:World) (p:Ss) {t:TypeId}:BoxSession (w.alloc (.cells (SsV p).toArray t)) w.heap.size p:=⟨cell_new rfl,cell_new rfl,cell_new rfl,cell_new rfl,cell_new rfl,cell_new rfl,cell_new rfl⟩
section
variable {H:Type} {enc:TypeId × Value→H} {w:World} {base:Nat} {spare:Nat→Bool} {held:Bool}
end
theorem toSession_any (p:Ss) (w:World) :
  Cb 58 #[ssC p] w (ssC p):=by
 obtain ⟨proto,inn,inPort,peer,peerPort,state,untl⟩:=p;unfold ssC;dsimp only;go_enter Tryz.func58,Tryz.ntmps58
 go_wp2_with fail
 refine bodyPost_ret (v:=.agg (SsR proto inn inPort peer peerPort state untl).toArray) (by simp [results,Tryz.results58,go_sem]) rfl ⟨rfl,?_⟩;exact ((bR.alloc (Nat.le_refl _) _).alloc (by simp) _).alloc (by simp; omega) _
theorem eqSession_same (p:Ss) (w:World) :
  Cb 65 #[ssC p,ssC p] w (.bool true):=by
 obtain ⟨proto,inn,inPort,peer,peerPort,state,untl⟩:=p;unfold ssC;dsimp only;have HZ:Hid (Below w.heap.size w ((aW w (SsR proto inn inPort peer peerPort state untl) 103).alloc (.cells (SsR proto inn inPort peer peerPort state untl).toArray 103))):=(bR.alloc (Nat.le_refl _) _).alloc (by simp) _;go_enter Tryz.func65,Tryz.ntmps65
 go_wp2_with fail
 go_ret;exact ⟨rfl,HZ.out⟩
def sessionN (p:Ss):List Nat:=[p.inn.size,p.peer.size]
def SssWf (xs:List Ss):Prop:=xs.length≤maxLen∧∀ q∈xs,SsWf q
section
variable {H:Type} {enc:TypeId × Value→H} {w:World} {base:Nat} {spare:Nat→Bool} {held:Bool}
theorem elem_Session {m:Nat} {cs:List Value} {y:DataW H × List MemPlace} (h:DataW.trod enc Tryz.prog w base spare held m 86 cs=some y):∃ q:Ss,cs=ssL q∧SsWf q:=by
 obtain ⟨xs,m',_,_,hl,_,_⟩:=DataW.trod_struct Tryz.underlying86 h;rw [show Tryz.prog.cellsOf 86=7 by kernel_rfl] at hl;match cs,hl with
 | [c0,c1,c2,c3,c4,c5,c6],_ =>
  obtain ⟨m0,y0,h0⟩:=flat_field Tryz.underlying86 h 0 _ rfl rfl (show Tryz.prog.cellsOf 2=1 by kernel_rfl) c0 rfl;obtain ⟨x0,e0,_,g0⟩:=DataW.trod_int Tryz.underlying2 h0;obtain ⟨m1,y1,h1⟩:=flat_field Tryz.underlying86 h 1 _ rfl rfl (show Tryz.prog.cellsOf 9=1 by kernel_rfl) c1 rfl;obtain ⟨x1,e1,_,g1⟩:=DataW.trod_string Tryz.underlying9 h1;obtain ⟨m2,y2,h2⟩:=flat_field Tryz.underlying86 h 2 _ rfl rfl (show Tryz.prog.cellsOf 2=1 by kernel_rfl) c2 rfl;obtain ⟨x2,e2,_,g2⟩:=DataW.trod_int Tryz.underlying2 h2;obtain ⟨m3,y3,h3⟩:=flat_field Tryz.underlying86 h 3 _ rfl rfl (show Tryz.prog.cellsOf 9=1 by kernel_rfl) c3 rfl;obtain ⟨x3,e3,_,g3⟩:=DataW.trod_string Tryz.underlying9 h3;obtain ⟨m4,y4,h4⟩:=flat_field Tryz.underlying86 h 4 _ rfl rfl (show Tryz.prog.cellsOf 2=1 by kernel_rfl) c4 rfl;obtain ⟨x4,e4,_,g4⟩:=DataW.trod_int Tryz.underlying2 h4;obtain ⟨m5,y5,h5⟩:=flat_field Tryz.underlying86 h 5 _ rfl rfl (show Tryz.prog.cellsOf 2=1 by kernel_rfl) c5 rfl;obtain ⟨x5,e5,_,g5⟩:=DataW.trod_int Tryz.underlying2 h5;obtain ⟨m6,y6,h6⟩:=flat_field Tryz.underlying86 h 6 _ rfl rfl (show Tryz.prog.cellsOf 2=1 by kernel_rfl) c6 rfl;obtain ⟨x6,e6,_,g6⟩:=DataW.trod_int Tryz.underlying2 h6;simp only [List.cons.injEq,and_true] at e0 e1 e2 e3 e4 e5 e6;subst e0 e1 e2 e3 e4 e5 e6;exact ⟨⟨x0,x1,x2,x3,x4,x5,x6⟩,rfl,wf64s g0,g1,wf64s g2,g3,wf64s g4,wf64s g5,wf64s g6⟩
theorem open_SessionS {fuel:Nat} {a:Option Addr} {len cap:Nat} {x:DataW H × List MemPlace} (h:DataW.trod enc Tryz.prog w base spare held fuel 28 [.slice a len cap]=some x):∃ xs:List Ss,xs.length=len∧SssWf xs∧SlIs ssL 7 w a xs :=
 open_flat ssL_length (by omega) Tryz.underlying28 (by kernel_rfl) SsWf (fun m cs y h=>elem_Session h) h
end
theorem szSession_at (p:Ss) (left:Int) (w:World) (hw:SsWf p) (h0:0≤left) (h1:left≤1048576) :
  Cb 49 #[ssC p,iV left] w (iV (szN (sessionN p) left)):=by
 have HV0:Hid (szN (sessionN p) left=szN [p.inn.size,p.peer.size] left):=rfl;obtain ⟨q_proto,q_inn,q_inPort,q_peer,q_peerPort,q_state,q_untl⟩:=hw;generalize szN (sessionN p) left=ans at *;obtain ⟨proto,inn,inPort,peer,peerPort,state,untl⟩:=p;unfold ssC;dsimp only at *;unfold maxLen at *;clear q_proto q_inPort q_peerPort q_state q_untl;have HZ:Hid (Below w.heap.size w (w.alloc (.cells (SsR proto inn inPort peer peerPort state untl).toArray 86))):=bR.alloc (Nat.le_refl _) _;by_cases l0:left < (inn.size:Int)
 ·have HV:Hid (ans=-1):=by unfold Hid; rw [HV0.out,szN_yes l0]
  clear HV0;go_enter Tryz.func49,Tryz.ntmps49
  go_wp2_with fail
  go_ret;exact ⟨ret_int HV.out.symm,HZ.out⟩
 ·skip
  by_cases l1:left-inn.size < (peer.size:Int)
  ·have HV:Hid (ans=-1):=by unfold Hid; rw [HV0.out,szN_no l0,szN_yes l1]
   clear HV0;go_enter Tryz.func49,Tryz.ntmps49
   go_wp2_with fail
   go_ret;exact ⟨ret_int HV.out.symm,HZ.out⟩
  ·have HV:Hid (ans=left-inn.size-peer.size):=by unfold Hid; rw [HV0.out,szN_no l0,szN_no l1]; rfl
   clear HV0;go_enter Tryz.func49,Tryz.ntmps49
   go_wp2_with fail
   go_ret;exact ⟨ret_int HV.out.symm,HZ.out⟩
theorem szSessionS_at (xs:List Ss) (a:Option Addr) (cap:Nat) (left:Int) (w:World) (hwf:SssWf xs) (hr:SlIs ssL 7 w a xs) (h0:0≤left) (h1:left≤1048576) :
  Cb 27 #[.slice a xs.length cap,iV left] w (iV (szSl sessionN xs left)):=by
 have hlm:=hwf.1;unfold maxLen at hlm;by_cases hlong:left < (xs.length:Int)
 ·have HV:Hid (szSl sessionN xs left=-1):=if_pos hlong;clear hr hwf;generalize szSl sessionN xs left=ans at *;go_enter Tryz.func27,Tryz.ntmps27
  go_wp2_with fail
  go_ret;exact ⟨ret_int HV.out.symm,Below.refl _ _⟩
 ·have HV:Hid (szSl sessionN xs left=szL (xs.map sessionN) (left-xs.length)):=if_neg hlong;have HR:Hid (SlIs ssL 7 w a xs):=hr;have HW:Hid (SssWf xs):=hwf;clear hr hwf;generalize szSl sessionN xs left=ans at *;go_enter Tryz.func27,Tryz.ntmps27
  go_wp2_with fail
  go_loopw [1,5] (fun l i wr=>∃ (k:Nat) (lf:Int),k≤xs.length∧i=iV k∧l=iV lf∧0≤lf∧lf≤1048576∧szL (xs.map sessionN) (left-xs.length)=szL ((xs.drop k).map sessionN) lf∧Below w.heap.size w wr) (fun _ i _=>xs.length-(intOf i).toNat)
  case atStart=>exact ⟨0,left-xs.length,Nat.zero_le _,rfl,rfl,by omega,by omega,rfl,Below.refl _ _⟩
  case round =>
   obtain ⟨k,lf,hk,rfl,rfl,hl0,hl1,hz,hbel⟩:=hrel;have HK:Hid _:=hz;have HL:Hid (Below w.heap.size w wr):=hbel;clear hz hbel;by_cases hlt:k < xs.length
   ·obtain ⟨b,off,rfl,hb,hat⟩:=HR.out.at hlt;have HA:=(hat.below hb HL.out) k hlt;have hst:=szL_drop (f:=sessionN) hlt lf;have hq2:=HW.out.2 xs[k] (List.getElem_mem hlt);obtain ⟨q,hq⟩ : ∃ q,q=xs[k]:=⟨_,rfl⟩;rw [← hq] at HA hst hq2;have c0:wr.cell? ⟨b,off+k*7,none⟩=some (iV q.proto):=HA 0 _ rfl;have c1:wr.cell? ⟨b,off+k*7+1,none⟩=some (.string q.inn):=HA 1 _ rfl;have c2:wr.cell? ⟨b,off+k*7+2,none⟩=some (iV q.inPort):=HA 2 _ rfl;have c3:wr.cell? ⟨b,off+k*7+3,none⟩=some (.string q.peer):=HA 3 _ rfl;have c4:wr.cell? ⟨b,off+k*7+4,none⟩=some (iV q.peerPort):=HA 4 _ rfl;have c5:wr.cell? ⟨b,off+k*7+5,none⟩=some (iV q.state):=HA 5 _ rfl;have c6:wr.cell? ⟨b,off+k*7+6,none⟩=some (iV q.untl):=HA 6 _ rfl;have HST:Hid _:=hst;have hrg:=szN_range (sessionN q) lf hl0;have HC:Hid (∀ W,Cb 49 #[ssC q,iV lf] W (iV (szN (sessionN q) lf))):=fun W=>szSession_at q lf W hq2 hl0 hl1
    clear hq HA hat hst hq2;generalize szN (sessionN q) lf=nx at *;unfold ssC at HC;by_cases hs:nx < 0
    ·have HX:Hid (ans=-1):=by unfold Hid; rw [HV.out,HK.out,HST.out,if_pos hs]
     go_wp2_with fail
     refine (HC.out _).mono ?_;rintro e w1 ⟨rfl,q1⟩;go_wp2_with fail
     go_ret;exact ⟨ret_int HX.out.symm,HL.out.trans (q1.mono HL.out.size)⟩
    ·have HX:Hid (szL ((xs.drop k).map sessionN) lf=szL ((xs.drop (k+1)).map sessionN) nx):=HST.out.trans (if_neg hs);have hs0:0≤nx:=by omega
     have hs1:nx≤1048576:=by omega
     clear HST hrg;go_wp2_with fail
     refine (HC.out _).mono ?_;rintro e w1 ⟨rfl,q1⟩;have HL1:Hid _:=HL.out.trans (q1.mono HL.out.size);clear q1;go_wp2_with fail
     go_roundw
     case rel=>exact ⟨k+1,nx,by omega,by go_num,rfl,hs0,hs1,by rw [HK.out,HX.out],HL1.out⟩
     case measure=>simp [intOf]; omega
   ·have HX:Hid (ans=lf):=by unfold Hid; rw [HV.out,HK.out,szL_end (by omega)]
    go_wp2_with fail
    go_ret;exact ⟨ret_int HX.out.symm,HL.out⟩
theorem Tryz.infoSs:(Tryz.prog.info? 103).map (fun i=>(i.zero,i.size,i.bytes))=some (some (.agg (SsR 0 ⟨#[]⟩ 0 ⟨#[]⟩ 0 0 0).toArray),7,72):=by kernel_rfl
theorem toSessionS_any (xs:List Ss) (a:Option Addr) (cap:Nat) (w:World) (hlen:xs.length≤1048576) (hr:SlIs ssL 7 w a xs) :
  Calls Tryz.prog 34 #[.slice a xs.length cap] w fun e w'=>e=.returned (.slice (some ⟨w.heap.size,0,none⟩) xs.length xs.length)∧Below w.heap.size w w'∧SlLaid ssL 7 w' w.heap.size xs xs.length xs.length:=by
 have HR:Hid (SlIs ssL 7 w a xs):=hr;clear hr;obtain ⟨i0,hi,hz0,hz1,hz2⟩:=info_parts Tryz.infoSs;go_enter Tryz.func34,Tryz.ntmps34
 go_wp2_with (at_make; refine wpList_make_full _ rfl _ _ 37 rfl w.heap.size 103 i0 (.agg (SsR 0 ⟨#[]⟩ 0 ⟨#[]⟩ 0 0 0).toArray) 7 Tryz.underlying37 hi hz0 hz1 .i64 .i64 _ _ xs.length rfl rfl (by omega) (by omega) (by rw [hz2]; omega) (by unfold maxLen; omega) (Nat.le_refl _) ?_; intro w1 hown hgrow)
 have hlaid:SlLaid ssL 7 w1 w.heap.size xs xs.length 0:=SlLaid.start hown;have hbel:Below w.heap.size w w1:=⟨hgrow.os,hgrow.tape,hgrow.output,hgrow.size,fun k hk=>hgrow.block k hk (by simp)⟩;have HY:Hid (SlLaid ssL 7 w1 w.heap.size xs xs.length 0):=hlaid;have HB:Hid (Below w.heap.size w w1):=hbel;clear hown hgrow hlaid hbel hi hz0 hz1 hz2;go_wp2_with fail
 go_loopw [4] (fun i wr=>∃ k:Nat,k≤xs.length∧i=iV k∧SlLaid ssL 7 wr w.heap.size xs xs.length k∧Below w.heap.size w wr) (fun i _=>xs.length-(intOf i).toNat)
 case atStart=>exact ⟨0,Nat.zero_le _,rfl,HY.out,HB.out⟩
 case round =>
  obtain ⟨k,hk,rfl,hy,hbel⟩:=hrel;have HK:Hid (SlLaid ssL 7 wr w.heap.size xs xs.length k):=hy;have HL:Hid (Below w.heap.size w wr):=hbel;clear hy hbel;by_cases hlt:k < xs.length
  ·obtain ⟨b,off,rfl,hb,hat⟩:=HR.out.at hlt;have HA:=(hat.below hb HL.out) k hlt;obtain ⟨q,hq⟩ : ∃ q,q=xs[k]:=⟨_,rfl⟩;rw [← hq] at HA;have c0:wr.cell? ⟨b,off+k*7,none⟩=some (iV q.proto):=HA 0 _ rfl;have c1:wr.cell? ⟨b,off+k*7+1,none⟩=some (.string q.inn):=HA 1 _ rfl;have c2:wr.cell? ⟨b,off+k*7+2,none⟩=some (iV q.inPort):=HA 2 _ rfl;have c3:wr.cell? ⟨b,off+k*7+3,none⟩=some (.string q.peer):=HA 3 _ rfl;have c4:wr.cell? ⟨b,off+k*7+4,none⟩=some (iV q.peerPort):=HA 4 _ rfl;have c5:wr.cell? ⟨b,off+k*7+5,none⟩=some (iV q.state):=HA 5 _ rfl;have c6:wr.cell? ⟨b,off+k*7+6,none⟩=some (iV q.untl):=HA 6 _ rfl;have HQ:Hid (q=xs[k]):=hq;have HC:Hid (∀ W,Cb 58 #[ssC q] W (ssC q)):=fun W=>toSession_any q W
   unfold ssC at HC;clear hq HA hat;go_wp2_with fail
   refine (HC.out _).mono ?_;rintro e w2 ⟨rfl,q2⟩;have HL2:Hid _:=HL.out.trans (q2.mono HL.out.size);have HK2:Hid (SlLaid ssL 7 w2 w.heap.size xs xs.length k):=HK.out.kept q2;clear q2 c0 c1 c2 c3 c4 c5 c6;obtain ⟨v0,t0⟩:=Option.isSome_iff_exists.1 (HK2.out.there (k*7) (by omega));have f0:=HK2.out.free (k*7) (by omega);obtain ⟨v1,t1⟩:=Option.isSome_iff_exists.1 (HK2.out.there (k*7+1) (by omega));have f1:=HK2.out.free (k*7+1) (by omega);obtain ⟨v2,t2⟩:=Option.isSome_iff_exists.1 (HK2.out.there (k*7+2) (by omega));have f2:=HK2.out.free (k*7+2) (by omega);obtain ⟨v3,t3⟩:=Option.isSome_iff_exists.1 (HK2.out.there (k*7+3) (by omega));have f3:=HK2.out.free (k*7+3) (by omega);obtain ⟨v4,t4⟩:=Option.isSome_iff_exists.1 (HK2.out.there (k*7+4) (by omega));have f4:=HK2.out.free (k*7+4) (by omega);obtain ⟨v5,t5⟩:=Option.isSome_iff_exists.1 (HK2.out.there (k*7+5) (by omega));have f5:=HK2.out.free (k*7+5) (by omega);obtain ⟨v6,t6⟩:=Option.isSome_iff_exists.1 (HK2.out.there (k*7+6) (by omega));have f6:=HK2.out.free (k*7+6) (by omega);go_wp2_with fail
   go_roundw
   case rel =>
    have hset:=HK2.out.set ssL_length hlt hlt;rw [← HQ.out] at hset;exact ⟨k+1,by omega,by go_num,hset,(((((((HL2.out.setCell (Nat.le_refl _) _).setCell (Nat.le_refl _) _).setCell (Nat.le_refl _) _).setCell (Nat.le_refl _) _).setCell (Nat.le_refl _) _).setCell (Nat.le_refl _) _).setCell (Nat.le_refl _) _)⟩
   case measure=>simp [intOf]; omega
  ·have hkl:k=xs.length:=by omega
   have HE:Hid (SlLaid ssL 7 wr w.heap.size xs xs.length xs.length):=by have h:=HK.out; rw [hkl] at h; exact h
   clear HK;go_wp2_with fail
   go_ret;exact ⟨rfl,HL.out,HE.out⟩
theorem eqSessionS_same (xs:List Ss) (a1 a2:Option Addr) (cap1 cap2:Nat) (w:World) (hlen:xs.length≤1048576) (h1:SlIs ssL 7 w a1 xs) (h2:SlIs ssL 7 w a2 xs) :
  Cb 41 #[.slice a1 xs.length cap1,.slice a2 xs.length cap2] w (.bool true):=by
 have H1:Hid (SlIs ssL 7 w a1 xs):=h1;have H2:Hid (SlIs ssL 7 w a2 xs):=h2;clear h1 h2;go_enter Tryz.func41,Tryz.ntmps41
 go_wp2_with fail
 go_loopw [5] (fun i wr=>∃ k:Nat,k≤xs.length∧i=iV k∧Below w.heap.size w wr) (fun i _=>xs.length-(intOf i).toNat)
 case atStart=>exact ⟨0,Nat.zero_le _,rfl,Below.refl _ _⟩
 case round =>
  obtain ⟨k,hk,rfl,hbel⟩:=hrel;have HL:Hid (Below w.heap.size w wr):=hbel;clear hbel;by_cases hlt:k < xs.length
  ·obtain ⟨b1,o1,rfl,hb1,hA⟩:=H1.out.at hlt;obtain ⟨b2,o2,rfl,hb2,hB⟩:=H2.out.at hlt;have hA:=(hA.below hb1 HL.out) k hlt;have hB:=(hB.below hb2 HL.out) k hlt;obtain ⟨q,hq⟩ : ∃ q,q=xs[k]:=⟨_,rfl⟩;rw [← hq] at hA hB;have c0:wr.cell? ⟨b1,o1+k*7,none⟩=some (iV q.proto):=hA 0 _ rfl;have c1:wr.cell? ⟨b1,o1+k*7+1,none⟩=some (.string q.inn):=hA 1 _ rfl;have c2:wr.cell? ⟨b1,o1+k*7+2,none⟩=some (iV q.inPort):=hA 2 _ rfl;have c3:wr.cell? ⟨b1,o1+k*7+3,none⟩=some (.string q.peer):=hA 3 _ rfl;have c4:wr.cell? ⟨b1,o1+k*7+4,none⟩=some (iV q.peerPort):=hA 4 _ rfl;have c5:wr.cell? ⟨b1,o1+k*7+5,none⟩=some (iV q.state):=hA 5 _ rfl;have c6:wr.cell? ⟨b1,o1+k*7+6,none⟩=some (iV q.untl):=hA 6 _ rfl;have d0:wr.cell? ⟨b2,o2+k*7,none⟩=some (iV q.proto):=hB 0 _ rfl;have d1:wr.cell? ⟨b2,o2+k*7+1,none⟩=some (.string q.inn):=hB 1 _ rfl;have d2:wr.cell? ⟨b2,o2+k*7+2,none⟩=some (iV q.inPort):=hB 2 _ rfl;have d3:wr.cell? ⟨b2,o2+k*7+3,none⟩=some (.string q.peer):=hB 3 _ rfl;have d4:wr.cell? ⟨b2,o2+k*7+4,none⟩=some (iV q.peerPort):=hB 4 _ rfl;have d5:wr.cell? ⟨b2,o2+k*7+5,none⟩=some (iV q.state):=hB 5 _ rfl;have d6:wr.cell? ⟨b2,o2+k*7+6,none⟩=some (iV q.untl):=hB 6 _ rfl;have HC:Hid (∀ W,Cb 65 #[ssC q,ssC q] W (.bool true)):=fun W=>eqSession_same q W
   unfold ssC at HC;clear hq hA hB;go_wp2_with fail
   go_region_with (go_at_call 65; refine (HC.out _).mono ?_; rintro e w2 ⟨rfl,q2⟩)
   all_goals
    have HL2:Hid _:=HL.out.trans ((below_undrew q2).mono HL.out.size);clear q2;go_wp2_with fail
    go_roundw
    case rel=>exact ⟨k+1,by omega,by go_num,HL2.out⟩
    case measure=>simp [intOf]; omega
  ·go_wp2_with fail
   go_ret;exact ⟨rfl,HL.out⟩
def sessionM (k:Nat):List Value:=(SsR ((k:Nat):Int) (markV (k+1)) ((k+2:Nat):Int) (markV (k+3)) ((k+4:Nat):Int) ((k+5:Nat):Int) ((k+6:Nat):Int))
theorem sessionM_length (k:Nat):(sessionM k).length=7:=rfl
theorem markSessionS_any (B L cap k:Nat) (w:World) (hk:0 < k) (hL:k+7*L≤1073741824) (hs:SlLaid sessionM 7 w B (marksOf 7 k L) L 0) :
  Calls Tryz.prog 44 #[.slice (some ⟨B,0,none⟩) L cap,iV k] w fun e w'=>e=.returned (iV ((k+7*L:Nat):Int))∧SlLaid sessionM 7 w' B (marksOf 7 k L) L L∧w.grownBy w' (some B):=by
 have HS:Hid _:=hs;clear hs;go_enter Tryz.func44,Tryz.ntmps44
 go_wp2_with fail
 go_loopw [1,5] (fun kv i wr=>∃ m:Nat,m≤L∧i=iV m∧kv=iV ((k+7*m:Nat):Int)∧SlLaid sessionM 7 wr B (marksOf 7 k L) L m∧w.grownBy wr (some B)) (fun _ i _=>L-(intOf i).toNat)
 case atStart=>exact ⟨0,Nat.zero_le _,rfl,rfl,HS.out,World.grownBy.refl _ _⟩
 case round =>
  obtain ⟨m,hm,rfl,rfl,hy,hg⟩:=hrel;have HK:Hid (MkSt sessionM 7 w B k L m [] wr):=MkSt.new hy hg;clear hy hg HS;by_cases hlt:m < L
  ·obtain ⟨kk,hkk⟩ : ∃ kk,kk=k+7*m:=⟨_,rfl⟩;have HKK:Hid (kk=k+7*m):=hkk;rw [← hkk];have hk1:0 < kk:=by omega
   have hk2:kk+7≤1073741824:=by omega
   clear hkk;obtain ⟨v0,t0⟩:=HK.out.there (j:=0) hlt (by omega);have f0:=HK.out.free (j:=0) hlt (by omega);rw [Nat.add_zero] at t0 f0;go_wp2_with fail
   refine (markText_at _ (kk+1) _ (by omega) (by omega) (by omega)).mono ?_;rintro e wA1 ⟨rfl,qA1⟩;have HA1:Hid (MkSt sessionM 7 w B k L m [iV ((kk:Nat):Int)] wA1):=((HK.out.put sessionM_length (by simp) hlt (iV ((kk:Nat):Int)))).call qA1;clear qA1 HK;obtain ⟨v1,t1⟩:=HA1.out.there (j:=1) hlt (by omega);have f1:=HA1.out.free (j:=1) hlt (by omega);obtain ⟨v2,t2⟩:=HA1.out.there (j:=2) hlt (by omega);have f2:=HA1.out.free (j:=2) hlt (by omega);go_wp2_with fail
   refine (markText_at _ (kk+3) _ (by omega) (by omega) (by omega)).mono ?_;rintro e wA3 ⟨rfl,qA3⟩;have HA3:Hid (MkSt sessionM 7 w B k L m (EnV ((kk:Nat):Int) (markV (kk+1)) ((kk+2:Nat):Int)) wA3):=(((HA1.out.put sessionM_length (by simp) hlt (.string (markV (kk+1)))).put sessionM_length (by simp) hlt (iV ((kk+2:Nat):Int)))).call qA3;clear qA3 HA1;clear t1 f1 t2 f2;obtain ⟨v3,t3⟩:=HA3.out.there (j:=3) hlt (by omega);have f3:=HA3.out.free (j:=3) hlt (by omega);obtain ⟨v4,t4⟩:=HA3.out.there (j:=4) hlt (by omega);have f4:=HA3.out.free (j:=4) hlt (by omega);obtain ⟨v5,t5⟩:=HA3.out.there (j:=5) hlt (by omega);have f5:=HA3.out.free (j:=5) hlt (by omega);obtain ⟨v6,t6⟩:=HA3.out.there (j:=6) hlt (by omega);have f6:=HA3.out.free (j:=6) hlt (by omega);go_wp2_with fail
   go_roundw
   case rel =>
    have hF:MkSt sessionM 7 w B k L m (sessionM kk) _:=((((HA3.out.put sessionM_length (by simp) hlt (.string (markV (kk+3)))).put sessionM_length (by simp) hlt (iV ((kk+4:Nat):Int))).put sessionM_length (by simp) hlt (iV ((kk+5:Nat):Int))).put sessionM_length (by simp) hlt (iV ((kk+6:Nat):Int)));exact ⟨m+1,by omega,by go_num,by have:=HKK.out; congr 1; omega,hF.next sessionM_length (by rw [HKK.out]) hlt,hF.grown⟩
   case measure=>simp [intOf]; omega
  ·have hml:m=L:=by omega
   have HE:Hid (SlLaid sessionM 7 wr B (marksOf 7 k L) L L∧w.grownBy wr (some B)):=⟨by have h:=HK.out.laid; rw [hml] at h; exact h,HK.out.grown⟩;clear HK;go_wp2_with fail
   go_ret;exact ⟨ret_int (by rw [hml]),HE.out.1,HE.out.2⟩
theorem heldSessionS_any (B L cap k:Nat) (w:World) (hk:0 < k) (hL:k+7*L≤1073741824) (hs:SlLaid sessionM 7 w B (marksOf 7 k L) L L) :
  Cb 68 #[.slice (some ⟨B,0,none⟩) L cap,iV k] w (iV ((k+7*L:Nat):Int)):=by
 have hblk:=hs.blk;have HS:Hid _:=hs;clear hs;go_enter Tryz.func68,Tryz.ntmps68
 go_wp2_with fail
 go_loopw [1,5] (fun kv i wr=>∃ m:Nat,m≤L∧i=iV m∧kv=iV ((k+7*m:Nat):Int)∧Below w.heap.size w wr) (fun _ i _=>L-(intOf i).toNat)
 case atStart=>exact ⟨0,Nat.zero_le _,rfl,rfl,Below.refl _ _⟩
 case round =>
  obtain ⟨m,hm,rfl,rfl,hbel⟩:=hrel;have HL:Hid (Below w.heap.size w wr):=hbel;clear hbel;by_cases hlt:m < L
  ·have hR:=(HS.out.kept HL.out).at0 m (by rw [marksOf_length]; exact hlt) hlt;rw [marksOf_get] at hR;have hbr:B < wr.heap.size:=Nat.lt_of_lt_of_le hblk HL.out.size;obtain ⟨kk,hkk⟩ : ∃ kk,kk=k+7*m:=⟨_,rfl⟩;have HKK:Hid (kk=k+7*m):=hkk;rw [← hkk] at hR ⊢;have hk1:0 < kk:=by omega
   have hk2:kk+7≤1073741824:=by omega
   clear hkk;have c0:wr.cell? ⟨B,m*7,none⟩=some (iV ((kk:Int))):=hR 0 _ rfl;have c1:wr.cell? ⟨B,m*7+1,none⟩=some (.string (markV (kk+1))):=hR 1 _ rfl;have c2:wr.cell? ⟨B,m*7+2,none⟩=some (iV ((kk:Int)+1+1)):=hR 2 _ rfl;have c3:wr.cell? ⟨B,m*7+3,none⟩=some (.string (markV (kk+3))):=hR 3 _ rfl;have c4:wr.cell? ⟨B,m*7+4,none⟩=some (iV ((kk:Int)+1+1+1+1)):=hR 4 _ rfl;have c5:wr.cell? ⟨B,m*7+5,none⟩=some (iV ((kk:Int)+1+1+1+1+1)):=hR 5 _ rfl;have c6:wr.cell? ⟨B,m*7+6,none⟩=some (iV ((kk:Int)+1+1+1+1+1+1)):=hR 6 _ rfl;clear hR;go_upto_region 7 with fail
   go_cut [28] (fun v wx=>v=.bool false∧Below wr.heap.size wr wx)
   case first =>
    rename_i J K2 hJ hK2;refine wp_region_growL (Rs:=[IsV (.slice (some ⟨B,0,none⟩) L cap),IsV (iV (m:Int)),IsV (.pointer (some ⟨B,m*7,none⟩)),IsV (.pointer (some ⟨B,m*7+1,none⟩)),IsV (.string (markV (kk+1))),IsV (iV ((kk:Int)+1)),IsV (.string (markV (kk+1))),IsV (.bool false)]) [21,22,23,24,25,26,27,28] (by kernel_rfl) (by kernel_rfl) rfl ?st ?steps ?done
    case st=>simp [stable_isV,stable_isRow]
    case steps =>
     refine ⟨?s0,?s1,?s2,?s3,?s4,?s5,?s6,?s7,trivial⟩
     case s0 =>
      intro K' a wy ho hd hb hK;have h3:=ho 0 (by decide);simp [slot] at h3;clear hd;go_simp;try go_bits
      exact hK _ _ rfl bR
     case s1 =>
      intro K' a wy ho hd hb hK;have h3:=ho 5 (by decide);simp [slot] at h3;clear hd;go_simp;try go_bits
      exact hK _ _ rfl bR
     case s2 =>
      intro K' a wy ho hd hb hK;simp [Region.binds,rAt,IsV,slot] at hd;go_simp;try go_bits
      exact hK _ _ rfl bR
     case s3 =>
      intro K' a wy ho hd hb hK;simp [Region.binds,rAt,IsV,slot] at hd;go_simp;try go_bits
      exact hK _ _ rfl bR
     case s4 =>
      intro K' a wy ho hd hb hK;simp [Region.binds,rAt,IsV,slot] at hd;have hcx:=((bcell (Below.trans bR.drew hb)).1 B _ hbr).trans c1;go_simp;try go_bits
      exact hK _ _ rfl bR
     case s5 =>
      intro K' a wy ho hd hb hK;have h3:=ho 1 (by decide);simp [slot] at h3;clear hd;go_simp;try go_bits
      exact hK _ _ rfl bR
     case s6 =>
      intro K' a wy ho hd hb hK;simp [Region.binds,rAt,IsV,slot] at hd;go_simp;refine (markText_at _ (kk+1) wy (by omega) (by omega) (by omega)).mono ?_;rintro e wz ⟨rfl,hz⟩;exact hK _ _ rfl hz
     case s7 =>
      intro K' a wy ho hd hb hK;simp [Region.binds,rAt,IsV,slot] at hd;go_simp;try go_bits
      exact hK _ _ rfl bR
    case done =>
     intro X wz hR hz;obtain ⟨x0,x1,x2,x3,x4,x5,x6,x7,-⟩:=hR;simp only [IsV] at x0 x1 x2 x3 x4 x5 x6 x7;simp only [putsFrom,x0,x1,x2,x3,x4,x5,x6,x7];clear x0 x1 x2 x3 x4 x5 x6 x7;go_simp;refine hK2 _ _ (hJ _ _ ?_);(repeat apply Exists.intro)
     refine ⟨⟨rfl,(Below.refl _ wr).drew.trans hz⟩,rfl⟩
   case rest =>
   obtain ⟨rfl,hb1⟩:=hcut;generalize wc=wx1 at *;have HL1:Hid _:=HL.out.trans (hb1.mono HL.out.size);replace c2:=((bcell hb1).1 B _ hbr).trans c2;replace c3:=((bcell hb1).1 B _ hbr).trans c3;replace c4:=((bcell hb1).1 B _ hbr).trans c4;replace c5:=((bcell hb1).1 B _ hbr).trans c5;replace c6:=((bcell hb1).1 B _ hbr).trans c6;replace hbr:=Nat.lt_of_lt_of_le hbr hb1.size;clear hb1  c1;go_upto_region 13 with fail
   go_cut [47] (fun v wx=>v=.bool false∧Below wx1.heap.size wx1 wx)
   case first =>
    rename_i J K2 hJ hK2;refine wp_region_growL (Rs:=[IsV (.slice (some ⟨B,0,none⟩) L cap),IsV (iV (m:Int)),IsV (.pointer (some ⟨B,m*7,none⟩)),IsV (.pointer (some ⟨B,m*7+3,none⟩)),IsV (.string (markV (kk+3))),IsV (iV ((kk:Int)+1+1+1)),IsV (.string (markV (kk+3))),IsV (.bool false)]) [40,41,42,43,44,45,46,47] (by kernel_rfl) (by kernel_rfl) rfl ?st ?steps ?done
    case st=>simp [stable_isV,stable_isRow]
    case steps =>
     refine ⟨?s0,?s1,?s2,?s3,?s4,?s5,?s6,?s7,trivial⟩
     case s0 =>
      intro K' a wy ho hd hb hK;have h3:=ho 0 (by decide);simp [slot] at h3;clear hd;go_simp;try go_bits
      exact hK _ _ rfl bR
     case s1 =>
      intro K' a wy ho hd hb hK;have h3:=ho 5 (by decide);simp [slot] at h3;clear hd;go_simp;try go_bits
      exact hK _ _ rfl bR
     case s2 =>
      intro K' a wy ho hd hb hK;simp [Region.binds,rAt,IsV,slot] at hd;go_simp;try go_bits
      exact hK _ _ rfl bR
     case s3 =>
      intro K' a wy ho hd hb hK;simp [Region.binds,rAt,IsV,slot] at hd;go_simp;try go_bits
      exact hK _ _ rfl bR
     case s4 =>
      intro K' a wy ho hd hb hK;simp [Region.binds,rAt,IsV,slot] at hd;have hcx:=((bcell (Below.trans bR.drew hb)).1 B _ hbr).trans c3;go_simp;try go_bits
      exact hK _ _ rfl bR
     case s5 =>
      intro K' a wy ho hd hb hK;have h3:=ho 1 (by decide);simp [slot] at h3;clear hd;go_simp;try go_bits
      exact hK _ _ rfl bR
     case s6 =>
      intro K' a wy ho hd hb hK;simp [Region.binds,rAt,IsV,slot] at hd;go_simp;refine (markText_at _ (kk+3) wy (by omega) (by omega) (by omega)).mono ?_;rintro e wz ⟨rfl,hz⟩;exact hK _ _ rfl hz
     case s7 =>
      intro K' a wy ho hd hb hK;simp [Region.binds,rAt,IsV,slot] at hd;go_simp;try go_bits
      exact hK _ _ rfl bR
    case done =>
     intro X wz hR hz;obtain ⟨x0,x1,x2,x3,x4,x5,x6,x7,-⟩:=hR;simp only [IsV] at x0 x1 x2 x3 x4 x5 x6 x7;simp only [putsFrom,x0,x1,x2,x3,x4,x5,x6,x7];clear x0 x1 x2 x3 x4 x5 x6 x7;go_simp;refine hK2 _ _ (hJ _ _ ?_);(repeat apply Exists.intro)
     refine ⟨⟨rfl,(Below.refl _ wx1).drew.trans hz⟩,rfl⟩
   case rest =>
   obtain ⟨rfl,hb3⟩:=hcut;generalize wc=wx3 at *;have HL3:Hid _:=HL1.out.trans (hb3.mono HL1.out.size);replace c4:=((bcell hb3).1 B _ hbr).trans c4;replace c5:=((bcell hb3).1 B _ hbr).trans c5;replace c6:=((bcell hb3).1 B _ hbr).trans c6;replace hbr:=Nat.lt_of_lt_of_le hbr hb3.size;clear hb3 HL1 c3;go_wp2_with fail
   go_roundw
   case rel=>exact ⟨m+1,by omega,by go_num,by have:=HKK.out; congr 1; omega,HL3.out⟩
   case measure=>simp [intOf]; omega
  ·have hml:m=L:=by omega
   go_wp2_with fail
   go_ret;exact ⟨ret_int (by rw [hml]),HL.out⟩
theorem markSessionS_nil (a:Option Addr) (cap k:Nat) (w:World) (hL:k≤1073741824) :
  Cw 44 #[.slice a 0 cap,iV k] w (iV (k:Int)):=by
 go_enter Tryz.func44,Tryz.ntmps44
 go_wp2_with fail
 go_loopw [1,5] (fun kv i wr=>kv=iV k∧i=iV 0∧wr=w) (fun _ _ _=>0)
 case atStart=>exact ⟨rfl,rfl,rfl⟩
 case round =>
  obtain ⟨rfl,rfl,rfl⟩:=hrel;go_wp2_with fail
  go_ret;exact ⟨rfl,rfl⟩
theorem heldSessionS_nil (a:Option Addr) (cap k:Nat) (w:World) (hL:k≤1073741824) :
  Cw 68 #[.slice a 0 cap,iV k] w (iV (k:Int)):=by
 go_enter Tryz.func68,Tryz.ntmps68
 go_wp2_with fail
 go_loopw [1,5] (fun kv i wr=>kv=iV k∧i=iV 0∧wr=w) (fun _ _ _=>0)
 case atStart=>exact ⟨rfl,rfl,rfl⟩
 case round =>
  obtain ⟨rfl,rfl,rfl⟩:=hrel;go_wp2_with fail
  go_ret;exact ⟨rfl,rfl⟩
theorem heldSessionS_own (base L:Nat) (a:Option Addr) (cap k:Nat) (w:World) (hk:0 < k) (hL:k+7*L≤1073741824) (hs:MkOwn 7 sessionM base w a k L) :
  Cb 68 #[.slice a L cap,iV k] w (iV ((k+7*L:Nat):Int)):=by
 rcases hs with rfl | ⟨g,rfl,hb,hl⟩
 ·refine (heldSessionS_nil a cap k w (by omega)).mono ?_;rintro e w' ⟨rfl,rfl⟩;exact ⟨rfl,Below.refl _ _⟩
 ·exact heldSessionS_any g L cap k w hk hL hl
end Go.Proofs.YtcckaeppiamebaaGreatDoor
