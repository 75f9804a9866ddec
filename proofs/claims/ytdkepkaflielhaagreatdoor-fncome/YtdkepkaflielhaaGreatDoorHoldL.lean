import Derived.Test.YtdkepkaflielhaaGreatDoorSz
import Derived.Test.YtdkepkaflielhaaGreatDoorAb
import Derived.Test.YtdkepkaflielhaaGreatDoorBase
import Derived.Deep.MidRow
import Derived.Deep.Slices
import Derived.OwnWalk
import Derived.WalkLawsBesides
import Derived.Lib.LazyBuf
import Derived.Deep.AppendLies
set_option linter.unusedVariables false
set_option linter.unusedSimpArgs false
set_option maxRecDepth 100000
set_option maxHeartbeats 8000000
namespace Go.Proofs.YtdkepkaflielhaaGreatDoor
open Go.RowKit
structure HoldsL (w:World) (B:Nat) (cs:List Value):Prop where
 at0:w.rangeAt B 0 cs
 th:w.there B 0 cs.length
section
variable {w W:World} {B:Nat} {cs:List Value}
theorem HoldsL.new (w:World) (cs:List Value) (t:TypeId):HoldsL (w.alloc (.cells cs.toArray t)) w.heap.size cs :=
 ⟨fun j v hv=>by rw [Nat.zero_add,cell_of_row _ w.z j cs.toArray t (0,0) (heap_alloc_new w _)]; simpa using hv,
   fun j hj=>⟨by rw [Nat.zero_add,cell_of_row _ w.z j cs.toArray t (0,0) (heap_alloc_new w _)]; simp [hj],by simp⟩⟩
theorem HoldsL.cell (h:HoldsL w B cs) {j:Nat} {v:Value} (hv:cs[j]?=some v):w.cell? ⟨B,j,none⟩=some v:=by
 have:=h.at0 j v hv; rwa [Nat.zero_add] at this
theorem HoldsL.free (h:HoldsL w B cs) {j:Nat} (hj:j < cs.length):w.frozen? ⟨B,j,none⟩=false:=by
 have:=(h.th j hj).2; rwa [Nat.zero_add] at this
theorem HoldsL.c2 {v0 v1:Value} {l:List Value} (h:HoldsL w B (v0::v1::l)):w.cell? ⟨B,0,none⟩=some v0∧w.cell? ⟨B,1,none⟩=some v1:=⟨h.cell rfl,h.cell rfl⟩
theorem HoldsL.c3 {v0 v1 v2:Value} {l:List Value} (h:HoldsL w B (v0::v1::v2::l)):w.cell? ⟨B,0,none⟩=some v0∧w.cell? ⟨B,1,none⟩=some v1∧w.cell? ⟨B,2,none⟩=some v2:=⟨h.cell rfl,h.cell rfl,h.cell rfl⟩
theorem HoldsL.c4 {v0 v1 v2 v3:Value} {l:List Value} (h:HoldsL w B (v0::v1::v2::v3::l)):w.cell? ⟨B,0,none⟩=some v0∧w.cell? ⟨B,1,none⟩=some v1∧w.cell? ⟨B,2,none⟩=some v2∧w.cell? ⟨B,3,none⟩=some v3:=⟨h.cell rfl,h.cell rfl,h.cell rfl,h.cell rfl⟩
theorem HoldsL.c5 {v0 v1 v2 v3 v4:Value} {l:List Value} (h:HoldsL w B (v0::v1::v2::v3::v4::l)):w.cell? ⟨B,0,none⟩=some v0∧w.cell? ⟨B,1,none⟩=some v1∧w.cell? ⟨B,2,none⟩=some v2∧w.cell? ⟨B,3,none⟩=some v3∧w.cell? ⟨B,4,none⟩=some v4:=⟨h.cell rfl,h.cell rfl,h.cell rfl,h.cell rfl,h.cell rfl⟩
theorem HoldsL.c6 {v0 v1 v2 v3 v4 v5:Value} {l:List Value} (h:HoldsL w B (v0::v1::v2::v3::v4::v5::l)):w.cell? ⟨B,0,none⟩=some v0∧w.cell? ⟨B,1,none⟩=some v1∧w.cell? ⟨B,2,none⟩=some v2∧w.cell? ⟨B,3,none⟩=some v3∧w.cell? ⟨B,4,none⟩=some v4∧w.cell? ⟨B,5,none⟩=some v5:=⟨h.cell rfl,h.cell rfl,h.cell rfl,h.cell rfl,h.cell rfl,h.cell rfl⟩
theorem HoldsL.c7 {v0 v1 v2 v3 v4 v5 v6:Value} {l:List Value} (h:HoldsL w B (v0::v1::v2::v3::v4::v5::v6::l)):w.cell? ⟨B,0,none⟩=some v0∧w.cell? ⟨B,1,none⟩=some v1∧w.cell? ⟨B,2,none⟩=some v2∧w.cell? ⟨B,3,none⟩=some v3∧w.cell? ⟨B,4,none⟩=some v4∧w.cell? ⟨B,5,none⟩=some v5∧w.cell? ⟨B,6,none⟩=some v6:=⟨h.cell rfl,h.cell rfl,h.cell rfl,h.cell rfl,h.cell rfl,h.cell rfl,h.cell rfl⟩
theorem HoldsL.c8 {v0 v1 v2 v3 v4 v5 v6 v7:Value} {l:List Value} (h:HoldsL w B (v0::v1::v2::v3::v4::v5::v6::v7::l)):w.cell? ⟨B,0,none⟩=some v0∧w.cell? ⟨B,1,none⟩=some v1∧w.cell? ⟨B,2,none⟩=some v2∧w.cell? ⟨B,3,none⟩=some v3∧w.cell? ⟨B,4,none⟩=some v4∧w.cell? ⟨B,5,none⟩=some v5∧w.cell? ⟨B,6,none⟩=some v6∧w.cell? ⟨B,7,none⟩=some v7:=⟨h.cell rfl,h.cell rfl,h.cell rfl,h.cell rfl,h.cell rfl,h.cell rfl,h.cell rfl,h.cell rfl⟩
theorem HoldsL.c10 {v0 v1 v2 v3 v4 v5 v6 v7 v8 v9:Value} {l:List Value} (h:HoldsL w B (v0::v1::v2::v3::v4::v5::v6::v7::v8::v9::l)):w.cell? ⟨B,0,none⟩=some v0∧w.cell? ⟨B,1,none⟩=some v1∧w.cell? ⟨B,2,none⟩=some v2∧w.cell? ⟨B,3,none⟩=some v3∧w.cell? ⟨B,4,none⟩=some v4∧w.cell? ⟨B,5,none⟩=some v5∧w.cell? ⟨B,6,none⟩=some v6∧w.cell? ⟨B,7,none⟩=some v7∧w.cell? ⟨B,8,none⟩=some v8∧w.cell? ⟨B,9,none⟩=some v9:=⟨h.cell rfl,h.cell rfl,h.cell rfl,h.cell rfl,h.cell rfl,h.cell rfl,h.cell rfl,h.cell rfl,h.cell rfl,h.cell rfl⟩
theorem HoldsL.c11 {v0 v1 v2 v3 v4 v5 v6 v7 v8 v9 v10:Value} {l:List Value} (h:HoldsL w B (v0::v1::v2::v3::v4::v5::v6::v7::v8::v9::v10::l)):w.cell? ⟨B,0,none⟩=some v0∧w.cell? ⟨B,1,none⟩=some v1∧w.cell? ⟨B,2,none⟩=some v2∧w.cell? ⟨B,3,none⟩=some v3∧w.cell? ⟨B,4,none⟩=some v4∧w.cell? ⟨B,5,none⟩=some v5∧w.cell? ⟨B,6,none⟩=some v6∧w.cell? ⟨B,7,none⟩=some v7∧w.cell? ⟨B,8,none⟩=some v8∧w.cell? ⟨B,9,none⟩=some v9∧w.cell? ⟨B,10,none⟩=some v10:=⟨h.cell rfl,h.cell rfl,h.cell rfl,h.cell rfl,h.cell rfl,h.cell rfl,h.cell rfl,h.cell rfl,h.cell rfl,h.cell rfl,h.cell rfl⟩
theorem HoldsL.f2 {v0 v1:Value} {l:List Value} (h:HoldsL w B (v0::v1::l)):w.frozen? ⟨B,0,none⟩=false∧w.frozen? ⟨B,1,none⟩=false:=⟨h.free (by simp),h.free (by simp)⟩
theorem HoldsL.f3 {v0 v1 v2:Value} {l:List Value} (h:HoldsL w B (v0::v1::v2::l)):w.frozen? ⟨B,0,none⟩=false∧w.frozen? ⟨B,1,none⟩=false∧w.frozen? ⟨B,2,none⟩=false:=⟨h.free (by simp),h.free (by simp),h.free (by simp)⟩
theorem HoldsL.f4 {v0 v1 v2 v3:Value} {l:List Value} (h:HoldsL w B (v0::v1::v2::v3::l)):w.frozen? ⟨B,0,none⟩=false∧w.frozen? ⟨B,1,none⟩=false∧w.frozen? ⟨B,2,none⟩=false∧w.frozen? ⟨B,3,none⟩=false:=⟨h.free (by simp),h.free (by simp),h.free (by simp),h.free (by simp)⟩
theorem HoldsL.f5 {v0 v1 v2 v3 v4:Value} {l:List Value} (h:HoldsL w B (v0::v1::v2::v3::v4::l)):w.frozen? ⟨B,0,none⟩=false∧w.frozen? ⟨B,1,none⟩=false∧w.frozen? ⟨B,2,none⟩=false∧w.frozen? ⟨B,3,none⟩=false∧w.frozen? ⟨B,4,none⟩=false:=⟨h.free (by simp),h.free (by simp),h.free (by simp),h.free (by simp),h.free (by simp)⟩
theorem HoldsL.f6 {v0 v1 v2 v3 v4 v5:Value} {l:List Value} (h:HoldsL w B (v0::v1::v2::v3::v4::v5::l)):w.frozen? ⟨B,0,none⟩=false∧w.frozen? ⟨B,1,none⟩=false∧w.frozen? ⟨B,2,none⟩=false∧w.frozen? ⟨B,3,none⟩=false∧w.frozen? ⟨B,4,none⟩=false∧w.frozen? ⟨B,5,none⟩=false:=⟨h.free (by simp),h.free (by simp),h.free (by simp),h.free (by simp),h.free (by simp),h.free (by simp)⟩
theorem HoldsL.f7 {v0 v1 v2 v3 v4 v5 v6:Value} {l:List Value} (h:HoldsL w B (v0::v1::v2::v3::v4::v5::v6::l)):w.frozen? ⟨B,0,none⟩=false∧w.frozen? ⟨B,1,none⟩=false∧w.frozen? ⟨B,2,none⟩=false∧w.frozen? ⟨B,3,none⟩=false∧w.frozen? ⟨B,4,none⟩=false∧w.frozen? ⟨B,5,none⟩=false∧w.frozen? ⟨B,6,none⟩=false:=⟨h.free (by simp),h.free (by simp),h.free (by simp),h.free (by simp),h.free (by simp),h.free (by simp),h.free (by simp)⟩
theorem HoldsL.f8 {v0 v1 v2 v3 v4 v5 v6 v7:Value} {l:List Value} (h:HoldsL w B (v0::v1::v2::v3::v4::v5::v6::v7::l)):w.frozen? ⟨B,0,none⟩=false∧w.frozen? ⟨B,1,none⟩=false∧w.frozen? ⟨B,2,none⟩=false∧w.frozen? ⟨B,3,none⟩=false∧w.frozen? ⟨B,4,none⟩=false∧w.frozen? ⟨B,5,none⟩=false∧w.frozen? ⟨B,6,none⟩=false∧w.frozen? ⟨B,7,none⟩=false:=⟨h.free (by simp),h.free (by simp),h.free (by simp),h.free (by simp),h.free (by simp),h.free (by simp),h.free (by simp),h.free (by simp)⟩
theorem HoldsL.f10 {v0 v1 v2 v3 v4 v5 v6 v7 v8 v9:Value} {l:List Value} (h:HoldsL w B (v0::v1::v2::v3::v4::v5::v6::v7::v8::v9::l)):w.frozen? ⟨B,0,none⟩=false∧w.frozen? ⟨B,1,none⟩=false∧w.frozen? ⟨B,2,none⟩=false∧w.frozen? ⟨B,3,none⟩=false∧w.frozen? ⟨B,4,none⟩=false∧w.frozen? ⟨B,5,none⟩=false∧w.frozen? ⟨B,6,none⟩=false∧w.frozen? ⟨B,7,none⟩=false∧w.frozen? ⟨B,8,none⟩=false∧w.frozen? ⟨B,9,none⟩=false:=⟨h.free (by simp),h.free (by simp),h.free (by simp),h.free (by simp),h.free (by simp),h.free (by simp),h.free (by simp),h.free (by simp),h.free (by simp),h.free (by simp)⟩
theorem HoldsL.f11 {v0 v1 v2 v3 v4 v5 v6 v7 v8 v9 v10:Value} {l:List Value} (h:HoldsL w B (v0::v1::v2::v3::v4::v5::v6::v7::v8::v9::v10::l)):w.frozen? ⟨B,0,none⟩=false∧w.frozen? ⟨B,1,none⟩=false∧w.frozen? ⟨B,2,none⟩=false∧w.frozen? ⟨B,3,none⟩=false∧w.frozen? ⟨B,4,none⟩=false∧w.frozen? ⟨B,5,none⟩=false∧w.frozen? ⟨B,6,none⟩=false∧w.frozen? ⟨B,7,none⟩=false∧w.frozen? ⟨B,8,none⟩=false∧w.frozen? ⟨B,9,none⟩=false∧w.frozen? ⟨B,10,none⟩=false:=⟨h.free (by simp),h.free (by simp),h.free (by simp),h.free (by simp),h.free (by simp),h.free (by simp),h.free (by simp),h.free (by simp),h.free (by simp),h.free (by simp),h.free (by simp)⟩
theorem HoldsL.c14 {v0 v1 v2 v3 v4 v5 v6 v7 v8 v9 v10 v11 v12 v13:Value} {l:List Value} (h:HoldsL w B (v0::v1::v2::v3::v4::v5::v6::v7::v8::v9::v10::v11::v12::v13::l)):w.cell? ⟨B,0,none⟩=some v0∧w.cell? ⟨B,1,none⟩=some v1∧w.cell? ⟨B,2,none⟩=some v2∧w.cell? ⟨B,3,none⟩=some v3∧w.cell? ⟨B,4,none⟩=some v4∧w.cell? ⟨B,5,none⟩=some v5∧w.cell? ⟨B,6,none⟩=some v6∧w.cell? ⟨B,7,none⟩=some v7∧w.cell? ⟨B,8,none⟩=some v8∧w.cell? ⟨B,9,none⟩=some v9∧w.cell? ⟨B,10,none⟩=some v10∧w.cell? ⟨B,11,none⟩=some v11∧w.cell? ⟨B,12,none⟩=some v12∧w.cell? ⟨B,13,none⟩=some v13:=⟨h.cell rfl,h.cell rfl,h.cell rfl,h.cell rfl,h.cell rfl,h.cell rfl,h.cell rfl,h.cell rfl,h.cell rfl,h.cell rfl,h.cell rfl,h.cell rfl,h.cell rfl,h.cell rfl⟩
theorem HoldsL.f14 {v0 v1 v2 v3 v4 v5 v6 v7 v8 v9 v10 v11 v12 v13:Value} {l:List Value} (h:HoldsL w B (v0::v1::v2::v3::v4::v5::v6::v7::v8::v9::v10::v11::v12::v13::l)):w.frozen? ⟨B,0,none⟩=false∧w.frozen? ⟨B,1,none⟩=false∧w.frozen? ⟨B,2,none⟩=false∧w.frozen? ⟨B,3,none⟩=false∧w.frozen? ⟨B,4,none⟩=false∧w.frozen? ⟨B,5,none⟩=false∧w.frozen? ⟨B,6,none⟩=false∧w.frozen? ⟨B,7,none⟩=false∧w.frozen? ⟨B,8,none⟩=false∧w.frozen? ⟨B,9,none⟩=false∧w.frozen? ⟨B,10,none⟩=false∧w.frozen? ⟨B,11,none⟩=false∧w.frozen? ⟨B,12,none⟩=false∧w.frozen? ⟨B,13,none⟩=false:=⟨h.free (by simp),h.free (by simp),h.free (by simp),h.free (by simp),h.free (by simp),h.free (by simp),h.free (by simp),h.free (by simp),h.free (by simp),h.free (by simp),h.free (by simp),h.free (by simp),h.free (by simp),h.free (by simp)⟩
theorem HoldsL.lt (h:HoldsL w B cs) (hl:0 < cs.length):B < w.heap.size:=by
 obtain ⟨v,hv⟩:=Option.isSome_iff_exists.1 (h.th 0 hl).1;exact World.block_lt_of_cell? w _ hv
theorem HoldsL.of_block (hb:W.heap[B]?=w.heap[B]?) (h:HoldsL w B cs):HoldsL W B cs:=by
 have hc:∀ j,W.cell? ⟨B,j,none⟩=w.cell? ⟨B,j,none⟩:=fun j=>by unfold World.cell?; rw [show (⟨B,j,none⟩ : Addr).block=B from rfl,hb]
 exact ⟨fun j v hv=>by rw [hc]; exact h.at0 j v hv,fun j hj=>⟨by rw [hc]; exact (h.th j hj).1,(World.frozen?_of_block (a:=⟨B,0+j,none⟩) hb).trans (h.th j hj).2⟩⟩
theorem HoldsL.kept (h:HoldsL w B cs) (hl:0 < cs.length) (hB:Below w.heap.size w W):HoldsL W B cs:=h.of_block (hB.block B (h.lt hl))
theorem HoldsL.grown {row:Option Nat} (h:HoldsL w B cs) (hl:0 < cs.length) (hg:w.grownBy W row) (hr:some B≠row):HoldsL W B cs:=h.of_block (hg.block B (h.lt hl) hr)
theorem HoldsL.alloc (h:HoldsL w B cs) (o:Obj):HoldsL (w.alloc o) B cs:=⟨World.rangeAt_alloc h.at0 o,World.there_alloc h.th o⟩
theorem HoldsL.drew (h:HoldsL w B cs):HoldsL w.drew B cs:=⟨by simpa using h.at0,by simpa using h.th⟩
theorem HoldsL.set (h:HoldsL w B cs) (j:Nat) (v:Value):HoldsL (w.setCell ⟨B,j,none⟩ v) B (cs.set j v):=by
 refine ⟨fun i u hu=>?_,fun i hi=>⟨?_,by rw [World.frozen?_setCell]; exact (h.th i (by simpa using hi)).2⟩⟩
 ·rw [Nat.zero_add];by_cases e:i=j
  ·subst e;have hi:i < cs.length:=by
    rw [List.getElem?_set] at hu;by_cases e:i < cs.length
    ·exact e
    ·simp [e] at hu
   obtain ⟨x,hx⟩:=Option.isSome_iff_exists.1 (h.th i hi).1;rw [Nat.zero_add] at hx;rw [World.cell?_setCell_same _ _ _ hx];rw [List.getElem?_set_self hi] at hu;exact hu
  ·rw [World.cell?_setCell_other _ _ _ _ (fun e2=>e (by injection e2 with _ h2; exact h2.symm))];rw [List.getElem?_set_ne (fun e2=>e e2.symm)] at hu;exact h.cell hu
 ·have hi':i < cs.length:=by simpa using hi
  obtain ⟨x,hx⟩:=Option.isSome_iff_exists.1 (h.th i hi').1;by_cases e:i=j
  ·subst e; rw [Nat.zero_add] at hx ⊢; rw [World.cell?_setCell_same _ _ _ hx]; rfl
  ·rw [Nat.zero_add] at hx ⊢; rw [World.cell?_setCell_other _ _ _ _ (fun e2=>e (by injection e2 with _ h2; exact h2.symm)),hx]; rfl
theorem HoldsL.setOther (h:HoldsL w B cs) {C j:Nat} (hne:B≠C) (v:Value):HoldsL (w.setCell ⟨C,j,none⟩ v) B cs :=
 h.of_block (Below.heap_setCell w _ v B (fun e=>hne (by simpa using e)))
theorem HoldsL.setCellsOther (h:HoldsL w B cs) {C o:Nat} (hne:B≠C) (ds:List Value):HoldsL (w.setCells C o ds) B cs :=
 ⟨World.rangeAt_setCells_apart h.at0 C o ds (.inl hne),World.there_setCells h.th C o ds⟩
theorem HoldsL.setRange (h:HoldsL w B cs) (o:Nat) (ds:List Value) (ho:o+ds.length≤cs.length):HoldsL (w.setCells B o ds) B (cs.take o++ds++cs.drop (o+ds.length)):=by
 have hlen:(cs.take o++ds++cs.drop (o+ds.length)).length=cs.length:=by simp; omega
 refine ⟨fun j v hv=>?_,by rw [hlen]; exact World.there_setCells h.th B o ds⟩;have hthere:w.there B o ds.length:=fun i hi=>by have:=h.th (o+i) (by omega); rwa [Nat.zero_add] at this
 rw [Nat.zero_add];by_cases h1:j < o
 ·rw [World.cell?_setCells_out B ds o w ⟨B,j,none⟩ (fun _ _=>.inl h1)];rw [List.append_assoc,List.getElem?_append_left (by simp; omega),List.getElem?_take,if_pos h1] at hv;exact h.cell hv
 ·by_cases h2:j < o+ds.length
  ·have:=World.rangeAt_setCells_same w B o ds hthere (j-o) v (by
    rw [List.append_assoc,List.getElem?_append_right (by simp; omega),List.getElem?_append_left (by simp; omega)] at hv;rw [show (cs.take o).length=o by simp; omega] at hv;exact hv)
   rwa [show o+(j-o)=j by omega] at this
  ·rw [World.cell?_setCells_out B ds o w ⟨B,j,none⟩ (fun _ _=>.inr (by show o+ds.length≤j; omega))];rw [List.getElem?_append_right (by simp; omega),List.getElem?_drop] at hv;rw [show (cs.take o++ds).length=o+ds.length by simp; omega,show o+ds.length+(j-(o+ds.length))=j by omega] at hv;exact h.cell hv
end
theorem results_mid {P:Program} {fn:Func} {p:Tmp} {ty:TypeId} (h:fn.results=#[.cell p ty]) (tmps:Array Value) (w:World) (g:Nat) (cs:List Value) (d:TypeDesc)
  (hp:tmps.getD p undef=.pointer (some ⟨g,0,none⟩)) (hc:HoldsL w g cs) (hu:P.underlying ty=some d) (hd:d.isRow=true) (hi:(P.info? ty).map (·.size)=some cs.length) :
  (results fn tmps).run P w=.ok (.agg cs.toArray) w:=by
 have hp':tmps[p]?.getD undef=.pointer (some ⟨g,0,none⟩):=by simpa using hp
 simp [results,h,hp',asAddr,run_loadVar_mid w g 0 ty cs d hc.at0 hu hd hi]
end Go.Proofs.YtdkepkaflielhaaGreatDoor
