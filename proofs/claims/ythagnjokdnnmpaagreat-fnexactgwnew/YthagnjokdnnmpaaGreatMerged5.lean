import Derived.Test.YthagnjokdnnmpaaGreatMerged1
import Derived.Deep.MidRow
import Derived.Deep.Slices
import Derived.OwnWalk
import Derived.WalkLawsBesides
import Derived.Lib.LazyBuf
import Derived.Deep.AppendLies
import Derived.Test.YthagnjokdnnmpaaGreatMerged3
import Derived.Test.YthagnjokdnnmpaaGreatMerged4
import Derived.Test.YthagnjokdnnmpaaGreatMerged2
import Derived.BigQuiet
import Derived.Deep.DeepCutAuto
set_option linter.unusedVariables false
set_option linter.unusedSimpArgs false
set_option maxRecDepth 100000
set_option maxHeartbeats 8000000
namespace Go.Proofs.YthagnjokdnnmpaaGreat
open Go.RowKit
structure HoldsL (w:World) (B:Nat) (cs:List Value):Prop where
 at0:w.rangeAt B 0 cs
 th:w.there B 0 cs.length
section
variable {w W:World} {B:Nat} {cs:List Value}
theorem HoldsL.new (w:World) (cs:List Value) (t:TypeId):HoldsL (w.alloc (.cells cs.toArray t)) w.heap.size cs :=
 ⟨fun j v hv=>by rw [Nat.zero_add,cell_of_row _ w.heap.size j cs.toArray t (0,0) (heap_alloc_new w _)]; simpa using hv,
   fun j hj=>⟨by rw [Nat.zero_add,cell_of_row _ w.heap.size j cs.toArray t (0,0) (heap_alloc_new w _)]; simp [hj],by simp⟩⟩
theorem HoldsL.cell (h:HoldsL w B cs) {j:Nat} {v:Value} (hv:cs[j]?=some v):w.cell? ⟨B,j,none⟩=some v:=by
 have:=h.at0 j v hv; rwa [Nat.zero_add] at this
theorem HoldsL.free (h:HoldsL w B cs) {j:Nat} (hj:j < cs.length):w.frozen? ⟨B,j,none⟩=false:=by
 have:=(h.th j hj).2; rwa [Nat.zero_add] at this
theorem HoldsL.c2 {v0 v1:Value} {l:List Value} (h:HoldsL w B (v0::v1::l)):w.cell? ⟨B,0,none⟩=some v0∧w.cell? ⟨B,1,none⟩=some v1:=⟨h.cell rfl,h.cell rfl⟩
theorem HoldsL.c3 {v0 v1 v2:Value} {l:List Value} (h:HoldsL w B (v0::v1::v2::l)):w.cell? ⟨B,0,none⟩=some v0∧w.cell? ⟨B,1,none⟩=some v1∧w.cell? ⟨B,2,none⟩=some v2:=⟨h.cell rfl,h.cell rfl,h.cell rfl⟩
theorem HoldsL.c4 {v0 v1 v2 v3:Value} {l:List Value} (h:HoldsL w B (v0::v1::v2::v3::l)):w.cell? ⟨B,0,none⟩=some v0∧w.cell? ⟨B,1,none⟩=some v1∧w.cell? ⟨B,2,none⟩=some v2∧w.cell? ⟨B,3,none⟩=some v3:=⟨h.cell rfl,h.cell rfl,h.cell rfl,h.cell rfl⟩
theorem HoldsL.c5 {v0 v1 v2 v3 v4:Value} {l:List Value} (h:HoldsL w B (v0::v1::v2::v3::v4::l)):w.cell? ⟨B,0,none⟩=some v0∧w.cell? ⟨B,1,none⟩=some v1∧w.cell? ⟨B,2,none⟩=some v2∧w.cell? ⟨B,3,none⟩=some v3∧w.cell? ⟨B,4,none⟩=some v4:=⟨h.cell rfl,h.cell rfl,h.cell rfl,h.cell rfl,h.cell rfl⟩
theorem HoldsL.c6 {v0 v1 v2 v3 v4 v5:Value} {l:List Value} (h:HoldsL w B (v0::v1::v2::v3::v4::v5::l)):w.cell? ⟨B,0,none⟩=some v0∧w.cell? ⟨B,1,none⟩=some v1∧w.cell? ⟨B,2,none⟩=some v2∧w.cell? ⟨B,3,none⟩=some v3∧w.cell? ⟨B,4,none⟩=some v4∧w.cell? ⟨B,5,none⟩=some v5:=⟨h.cell rfl,h.cell rfl,h.cell rfl,h.cell rfl,h.cell rfl,h.cell rfl⟩
theorem HoldsL.c7 {v0 v1 v2 v3 v4 v5 v6:Value} {l:List Value} (h:HoldsL w B (v0::v1::v2::v3::v4::v5::v6::l)):w.cell? ⟨B,0,none⟩=some v0∧w.cell? ⟨B,1,none⟩=some v1∧w.cell? ⟨B,2,none⟩=some v2∧w.cell? ⟨B,3,none⟩=some v3∧w.cell? ⟨B,4,none⟩=some v4∧w.cell? ⟨B,5,none⟩=some v5∧w.cell? ⟨B,6,none⟩=some v6:=⟨h.cell rfl,h.cell rfl,h.cell rfl,h.cell rfl,h.cell rfl,h.cell rfl,h.cell rfl⟩
theorem HoldsL.c8 {v0 v1 v2 v3 v4 v5 v6 v7:Value} {l:List Value} (h:HoldsL w B (v0::v1::v2::v3::v4::v5::v6::v7::l)):w.cell? ⟨B,0,none⟩=some v0∧w.cell? ⟨B,1,none⟩=some v1∧w.cell? ⟨B,2,none⟩=some v2∧w.cell? ⟨B,3,none⟩=some v3∧w.cell? ⟨B,4,none⟩=some v4∧w.cell? ⟨B,5,none⟩=some v5∧w.cell? ⟨B,6,none⟩=some v6∧w.cell? ⟨B,7,none⟩=some v7:=⟨h.cell rfl,h.cell rfl,h.cell rfl,h.cell rfl,h.cell rfl,h.cell rfl,h.cell rfl,h.cell rfl⟩
theorem HoldsL.c9 {v0 v1 v2 v3 v4 v5 v6 v7 v8:Value} {l:List Value} (h:HoldsL w B (v0::v1::v2::v3::v4::v5::v6::v7::v8::l)):w.cell? ⟨B,0,none⟩=some v0∧w.cell? ⟨B,1,none⟩=some v1∧w.cell? ⟨B,2,none⟩=some v2∧w.cell? ⟨B,3,none⟩=some v3∧w.cell? ⟨B,4,none⟩=some v4∧w.cell? ⟨B,5,none⟩=some v5∧w.cell? ⟨B,6,none⟩=some v6∧w.cell? ⟨B,7,none⟩=some v7∧w.cell? ⟨B,8,none⟩=some v8:=⟨h.cell rfl,h.cell rfl,h.cell rfl,h.cell rfl,h.cell rfl,h.cell rfl,h.cell rfl,h.cell rfl,h.cell rfl⟩
theorem HoldsL.c10 {v0 v1 v2 v3 v4 v5 v6 v7 v8 v9:Value} {l:List Value} (h:HoldsL w B (v0::v1::v2::v3::v4::v5::v6::v7::v8::v9::l)):w.cell? ⟨B,0,none⟩=some v0∧w.cell? ⟨B,1,none⟩=some v1∧w.cell? ⟨B,2,none⟩=some v2∧w.cell? ⟨B,3,none⟩=some v3∧w.cell? ⟨B,4,none⟩=some v4∧w.cell? ⟨B,5,none⟩=some v5∧w.cell? ⟨B,6,none⟩=some v6∧w.cell? ⟨B,7,none⟩=some v7∧w.cell? ⟨B,8,none⟩=some v8∧w.cell? ⟨B,9,none⟩=some v9:=⟨h.cell rfl,h.cell rfl,h.cell rfl,h.cell rfl,h.cell rfl,h.cell rfl,h.cell rfl,h.cell rfl,h.cell rfl,h.cell rfl⟩
theorem HoldsL.f2 {v0 v1:Value} {l:List Value} (h:HoldsL w B (v0::v1::l)):w.frozen? ⟨B,0,none⟩=false∧w.frozen? ⟨B,1,none⟩=false:=⟨h.free (by simp),h.free (by simp)⟩
theorem HoldsL.f3 {v0 v1 v2:Value} {l:List Value} (h:HoldsL w B (v0::v1::v2::l)):w.frozen? ⟨B,0,none⟩=false∧w.frozen? ⟨B,1,none⟩=false∧w.frozen? ⟨B,2,none⟩=false:=⟨h.free (by simp),h.free (by simp),h.free (by simp)⟩
theorem HoldsL.f4 {v0 v1 v2 v3:Value} {l:List Value} (h:HoldsL w B (v0::v1::v2::v3::l)):w.frozen? ⟨B,0,none⟩=false∧w.frozen? ⟨B,1,none⟩=false∧w.frozen? ⟨B,2,none⟩=false∧w.frozen? ⟨B,3,none⟩=false:=⟨h.free (by simp),h.free (by simp),h.free (by simp),h.free (by simp)⟩
theorem HoldsL.f5 {v0 v1 v2 v3 v4:Value} {l:List Value} (h:HoldsL w B (v0::v1::v2::v3::v4::l)):w.frozen? ⟨B,0,none⟩=false∧w.frozen? ⟨B,1,none⟩=false∧w.frozen? ⟨B,2,none⟩=false∧w.frozen? ⟨B,3,none⟩=false∧w.frozen? ⟨B,4,none⟩=false:=⟨h.free (by simp),h.free (by simp),h.free (by simp),h.free (by simp),h.free (by simp)⟩
theorem HoldsL.f6 {v0 v1 v2 v3 v4 v5:Value} {l:List Value} (h:HoldsL w B (v0::v1::v2::v3::v4::v5::l)):w.frozen? ⟨B,0,none⟩=false∧w.frozen? ⟨B,1,none⟩=false∧w.frozen? ⟨B,2,none⟩=false∧w.frozen? ⟨B,3,none⟩=false∧w.frozen? ⟨B,4,none⟩=false∧w.frozen? ⟨B,5,none⟩=false:=⟨h.free (by simp),h.free (by simp),h.free (by simp),h.free (by simp),h.free (by simp),h.free (by simp)⟩
theorem HoldsL.f7 {v0 v1 v2 v3 v4 v5 v6:Value} {l:List Value} (h:HoldsL w B (v0::v1::v2::v3::v4::v5::v6::l)):w.frozen? ⟨B,0,none⟩=false∧w.frozen? ⟨B,1,none⟩=false∧w.frozen? ⟨B,2,none⟩=false∧w.frozen? ⟨B,3,none⟩=false∧w.frozen? ⟨B,4,none⟩=false∧w.frozen? ⟨B,5,none⟩=false∧w.frozen? ⟨B,6,none⟩=false:=⟨h.free (by simp),h.free (by simp),h.free (by simp),h.free (by simp),h.free (by simp),h.free (by simp),h.free (by simp)⟩
theorem HoldsL.f8 {v0 v1 v2 v3 v4 v5 v6 v7:Value} {l:List Value} (h:HoldsL w B (v0::v1::v2::v3::v4::v5::v6::v7::l)):w.frozen? ⟨B,0,none⟩=false∧w.frozen? ⟨B,1,none⟩=false∧w.frozen? ⟨B,2,none⟩=false∧w.frozen? ⟨B,3,none⟩=false∧w.frozen? ⟨B,4,none⟩=false∧w.frozen? ⟨B,5,none⟩=false∧w.frozen? ⟨B,6,none⟩=false∧w.frozen? ⟨B,7,none⟩=false:=⟨h.free (by simp),h.free (by simp),h.free (by simp),h.free (by simp),h.free (by simp),h.free (by simp),h.free (by simp),h.free (by simp)⟩
theorem HoldsL.f9 {v0 v1 v2 v3 v4 v5 v6 v7 v8:Value} {l:List Value} (h:HoldsL w B (v0::v1::v2::v3::v4::v5::v6::v7::v8::l)):w.frozen? ⟨B,0,none⟩=false∧w.frozen? ⟨B,1,none⟩=false∧w.frozen? ⟨B,2,none⟩=false∧w.frozen? ⟨B,3,none⟩=false∧w.frozen? ⟨B,4,none⟩=false∧w.frozen? ⟨B,5,none⟩=false∧w.frozen? ⟨B,6,none⟩=false∧w.frozen? ⟨B,7,none⟩=false∧w.frozen? ⟨B,8,none⟩=false:=⟨h.free (by simp),h.free (by simp),h.free (by simp),h.free (by simp),h.free (by simp),h.free (by simp),h.free (by simp),h.free (by simp),h.free (by simp)⟩
theorem HoldsL.f10 {v0 v1 v2 v3 v4 v5 v6 v7 v8 v9:Value} {l:List Value} (h:HoldsL w B (v0::v1::v2::v3::v4::v5::v6::v7::v8::v9::l)):w.frozen? ⟨B,0,none⟩=false∧w.frozen? ⟨B,1,none⟩=false∧w.frozen? ⟨B,2,none⟩=false∧w.frozen? ⟨B,3,none⟩=false∧w.frozen? ⟨B,4,none⟩=false∧w.frozen? ⟨B,5,none⟩=false∧w.frozen? ⟨B,6,none⟩=false∧w.frozen? ⟨B,7,none⟩=false∧w.frozen? ⟨B,8,none⟩=false∧w.frozen? ⟨B,9,none⟩=false:=⟨h.free (by simp),h.free (by simp),h.free (by simp),h.free (by simp),h.free (by simp),h.free (by simp),h.free (by simp),h.free (by simp),h.free (by simp),h.free (by simp)⟩
theorem HoldsL.c14 {v0 v1 v2 v3 v4 v5 v6 v7 v8 v9 v10 v11 v12 v13:Value} {l:List Value} (h:HoldsL w B (v0::v1::v2::v3::v4::v5::v6::v7::v8::v9::v10::v11::v12::v13::l)):w.cell? ⟨B,0,none⟩=some v0∧w.cell? ⟨B,1,none⟩=some v1∧w.cell? ⟨B,2,none⟩=some v2∧w.cell? ⟨B,3,none⟩=some v3∧w.cell? ⟨B,4,none⟩=some v4∧w.cell? ⟨B,5,none⟩=some v5∧w.cell? ⟨B,6,none⟩=some v6∧w.cell? ⟨B,7,none⟩=some v7∧w.cell? ⟨B,8,none⟩=some v8∧w.cell? ⟨B,9,none⟩=some v9∧w.cell? ⟨B,10,none⟩=some v10∧w.cell? ⟨B,11,none⟩=some v11∧w.cell? ⟨B,12,none⟩=some v12∧w.cell? ⟨B,13,none⟩=some v13:=⟨h.cell rfl,h.cell rfl,h.cell rfl,h.cell rfl,h.cell rfl,h.cell rfl,h.cell rfl,h.cell rfl,h.cell rfl,h.cell rfl,h.cell rfl,h.cell rfl,h.cell rfl,h.cell rfl⟩
theorem HoldsL.f14 {v0 v1 v2 v3 v4 v5 v6 v7 v8 v9 v10 v11 v12 v13:Value} {l:List Value} (h:HoldsL w B (v0::v1::v2::v3::v4::v5::v6::v7::v8::v9::v10::v11::v12::v13::l)):w.frozen? ⟨B,0,none⟩=false∧w.frozen? ⟨B,1,none⟩=false∧w.frozen? ⟨B,2,none⟩=false∧w.frozen? ⟨B,3,none⟩=false∧w.frozen? ⟨B,4,none⟩=false∧w.frozen? ⟨B,5,none⟩=false∧w.frozen? ⟨B,6,none⟩=false∧w.frozen? ⟨B,7,none⟩=false∧w.frozen? ⟨B,8,none⟩=false∧w.frozen? ⟨B,9,none⟩=false∧w.frozen? ⟨B,10,none⟩=false∧w.frozen? ⟨B,11,none⟩=false∧w.frozen? ⟨B,12,none⟩=false∧w.frozen? ⟨B,13,none⟩=false:=⟨h.free (by simp),h.free (by simp),h.free (by simp),h.free (by simp),h.free (by simp),h.free (by simp),h.free (by simp),h.free (by simp),h.free (by simp),h.free (by simp),h.free (by simp),h.free (by simp),h.free (by simp),h.free (by simp)⟩
theorem HoldsL.lt (h:HoldsL w B cs) (hl:0 < cs.length):B < w.heap.size:=by
 obtain ⟨v,hv⟩:=Option.isSome_iff_exists.1 (h.th 0 hl).1;exact World.block_lt_of_cell? w _ hv
theorem HoldsL.of_block (hb:W.heap[B]?=w.heap[B]?) (h:HoldsL w B cs):HoldsL W B cs:=by
 have hc:∀ j,W.cell? ⟨B,j,none⟩=w.cell? ⟨B,j,none⟩:=fun j=>by unfold World.cell?; rw [show (⟨B,j,none⟩ : Addr).block=B from rfl,hb]
 exact ⟨fun j v hv=>by rw [hc]; exact h.at0 j v hv,fun j hj=>⟨by rw [hc]; exact (h.th j hj).1,(World.frozen?_of_block (a:=⟨B,0+j,none⟩) hb).trans (h.th j hj).2⟩⟩
theorem HoldsL.kept (h:HoldsL w B cs) (hl:0 < cs.length) (hB:Below w.heap.size w W):HoldsL W B cs:=h.of_block (hB.block B (h.lt hl))
theorem HoldsL.grown {row:Option Nat} (h:HoldsL w B cs) (hl:0 < cs.length) (hg:w.grownBy W row) (hr:some B≠row):HoldsL W B cs:=h.of_block (hg.block B (h.lt hl) hr)
theorem HoldsL.alloc (h:HoldsL w B cs) (o:Obj):HoldsL (w.alloc o) B cs:=⟨World.rangeAt_alloc h.at0 o,World.there_alloc h.th o⟩
theorem HoldsL.drew (h:HoldsL w B cs):HoldsL w.drew B cs:=⟨by simpa using h.at0,by simpa using h.th⟩
theorem HoldsL.drewN (h:HoldsL w B cs) (n:Nat):HoldsL (w.drewN n) B cs:=⟨h.at0,h.th⟩
theorem HoldsL.set (h:HoldsL w B cs) (j:Nat) (v:Value):HoldsL (w.setCell ⟨B,j,none⟩ v) B (cs.set j v):=by
 refine ⟨fun i u hu=>?_,fun i hi=>⟨?_,by rw [World.frozen?_setCell]; exact (h.th i (by simpa using hi)).2⟩⟩
 ·rw [Nat.zero_add];by_cases e:i=j
  ·subst e;have hi:i < cs.length:=by
    rw [List.getElem?_set] at hu;by_cases e:i < cs.length
    ·exact e
    ·simp [e] at hu
   obtain ⟨x,hx⟩:=Option.isSome_iff_exists.1 (h.th i hi).1;rw [Nat.zero_add] at hx;rw [World.cell?_setCell_same _ _ _ hx];rw [List.getElem?_set_self hi] at hu;exact hu
  ·rw [World.cell?_setCell_other _ _ _ _ (fun e2=>e (by injection e2 with _ h2; exact h2.symm))];rw [List.getElem?_set_ne (fun e2=>e e2.symm)] at hu;exact h.cell hu
 ·have hi':i < cs.length:=by simpa using hi
  obtain ⟨x,hx⟩:=Option.isSome_iff_exists.1 (h.th i hi').1;by_cases e:i=j
  ·subst e; rw [Nat.zero_add] at hx ⊢; rw [World.cell?_setCell_same _ _ _ hx]; rfl
  ·rw [Nat.zero_add] at hx ⊢; rw [World.cell?_setCell_other _ _ _ _ (fun e2=>e (by injection e2 with _ h2; exact h2.symm)),hx]; rfl
theorem HoldsL.setOther (h:HoldsL w B cs) {C j:Nat} (hne:B≠C) (v:Value):HoldsL (w.setCell ⟨C,j,none⟩ v) B cs :=
 h.of_block (Below.heap_setCell w _ v B (fun e=>hne (by simpa using e)))
theorem HoldsL.setCells (h:HoldsL w B cs) (ds:List Value) (hl:ds.length=cs.length):HoldsL (w.setCells B 0 ds) B ds :=
 ⟨World.rangeAt_setCells_same w B 0 ds (by rw [hl]; exact h.th),by rw [hl]; exact World.there_setCells h.th B 0 ds⟩
end
theorem results_mid {P:Program} {fn:Func} {p:Tmp} {ty:TypeId} (h:fn.results=#[.cell p ty]) (tmps:Array Value) (w:World) (g:Nat) (cs:List Value) (d:TypeDesc)
  (hp:tmps.getD p undef=.pointer (some ⟨g,0,none⟩)) (hc:HoldsL w g cs) (hu:P.underlying ty=some d) (hd:d.isRow=true) (hi:(P.info? ty).map (·.size)=some cs.length) :
  (results fn tmps).run P w=.ok (.agg cs.toArray) w:=by
 have hp':tmps[p]?.getD undef=.pointer (some ⟨g,0,none⟩):=by simpa using hp
 simp [results,h,hp',asAddr,run_loadVar_mid w g 0 ty cs d hc.at0 hu hd hi]
open Go.PlainAid Go.ChangeShapes Go.WideShapes
def BbWf (x:Bb):Prop:=BdsWf x.binds∧SssWf x.sess
structure BbIs (w:World) (a b:Option Addr) (x:Bb):Prop where
 bd:SlIs bdL 5 w a x.binds
 ss:SlIs ssL 7 w b x.sess
theorem BbIs.below {w W:World} {a b:Option Addr} {x:Bb} (h:BbIs w a b x) (hB:Below w.heap.size w W):BbIs W a b x:=⟨h.bd.below hB,h.ss.below hB⟩
structure BbOwn (base:Nat) (w:World) (a b:Option Addr) (x:Bb):Prop where
 bd:SlOwn bdL 5 base w a x.binds
 ss:SlOwn ssL 7 base w b x.sess
 ne:∀ g h,a=some ⟨g,0,none⟩→b=some ⟨h,0,none⟩→x.binds≠[]→x.sess≠[]→g≠h
theorem BbOwn.is {base:Nat} {w:World} {a b:Option Addr} {x:Bb} (h:BbOwn base w a b x):BbIs w a b x:=⟨h.bd.is,h.ss.is⟩
theorem BbOwn.kept {base:Nat} {w W:World} {a b:Option Addr} {x:Bb} (h:BbOwn base w a b x) (hB:Below w.heap.size w W):BbOwn base W a b x:=⟨h.bd.kept hB,h.ss.kept hB,h.ne⟩
section
variable {H:Type} {enc:TypeId × Value→H} {w:World} {base:Nat} {spare:Nat→Bool} {held:Bool}
end
theorem eqBib_same (x:Bb) (a1 b1 a2 b2:Option Addr) (ca1 cb1 ca2 cb2:Nat) (w:World) (hl1:x.binds.length≤1048576) (hl2:x.sess.length≤1048576) (h1:BbIs w a1 b1 x) (h2:BbIs w a2 b2 x) :
  Calls Tryz.prog 50 #[bbC a1 b1 ca1 cb1 x,bbC a2 b2 ca2 cb2 x] w fun e w'=>e=.returned (.bool true)∧Below w.heap.size w w':=by
 have HB:Hid (Below w.heap.size w ((w.alloc (.cells #[.slice a1 x.binds.length ca1,.slice b1 x.sess.length cb1] 36)).alloc (.cells #[.slice a2 x.binds.length ca2,.slice b2 x.sess.length cb2] 36))):=((Below.refl _ _).alloc (Nat.le_refl _) _).alloc (by simp) _;have H0:=(HoldsL.new w [.slice a1 x.binds.length ca1,.slice b1 x.sess.length cb1] 36).alloc (.cells #[.slice a2 x.binds.length ca2,.slice b2 x.sess.length cb2] 36);have H1:=HoldsL.new (w.alloc (.cells #[.slice a1 x.binds.length ca1,.slice b1 x.sess.length cb1] 36)) [.slice a2 x.binds.length ca2,.slice b2 x.sess.length cb2] 36;rw [World.size_alloc] at H1;have HS:Hid (∀ W,Below w.heap.size w W→Calls Tryz.prog 91 #[.slice a1 x.binds.length ca1,.slice a2 x.binds.length ca2] W fun e w'=>e=.returned (.bool true)∧Below W.heap.size W w'):=fun W hW=>eqBindS_same x.binds a1 a2 ca1 ca2 W hl1 (h1.bd.below hW) (h2.bd.below hW)
 have HT:Hid (∀ W,Below w.heap.size w W→Calls Tryz.prog 92 #[.slice b1 x.sess.length cb1,.slice b2 x.sess.length cb2] W fun e w'=>e=.returned (.bool true)∧Below W.heap.size W w'):=fun W hW=>eqSessionS_same x.sess b1 b2 cb1 cb2 W hl2 (h1.ss.below hW) (h2.ss.below hW)
 have G0:Hid _:=H0;have G1:Hid _:=H1;unfold bbC;clear h1 h2 H0 H1;go_enter Tryz.func50,Tryz.ntmps50
 go_upto_region 1 with fail
 generalize (w.alloc (.cells #[.slice a1 x.binds.length ca1,.slice b1 x.sess.length cb1] 36)).alloc (.cells #[.slice a2 x.binds.length ca2,.slice b2 x.sess.length cb2] 36)=W2 at *;have k0:=G0.out.cell (j:=0) rfl;have k1:=G1.out.cell (j:=0) rfl;go_wp2_with fail
 refine (HS.out _ HB.out).mono ?_;rintro e w1 ⟨rfl,q1⟩;have B1:Hid (Below w.heap.size w w1):=HB.out.trans (q1.mono HB.out.size);have c1:w1.cell? ⟨w.heap.size,1,none⟩=some (.slice b1 x.sess.length cb1):=(G0.out.kept (by simp) q1).cell rfl;have d1:w1.cell? ⟨w.heap.size+1,1,none⟩=some (.slice b2 x.sess.length cb2):=(G1.out.kept (by simp) q1).cell rfl;clear q1 k0 k1;go_wp2_with fail
 refine (HT.out _ B1.out).mono ?_;rintro e w2 ⟨rfl,q2⟩;have B2:Hid (Below w.heap.size w w2):=B1.out.trans (q2.mono B1.out.size);clear q2;go_wp2_with fail
 go_ret;exact ⟨rfl,B2.out⟩
end Go.Proofs.YthagnjokdnnmpaaGreat
namespace Go.Proofs.YthagnjokdnnmpaaGreat
open Go.RowKit Go.PlainAid
structure Fl where
 proto:Int
 src:ByteArray
 dst:ByteArray
 sp:Int
 dp:Int
def pairOk (s d:ByteArray):Bool:=addrOk s&&decide (s.size=d.size)
structure Pc where
 src:ByteArray
 dst:ByteArray
 proto:Int
 id:Int
 off:Int
 more:Bool
 data:ByteArray
 since:Int
def pcC (p:Pc):Value:=.agg #[.string p.src,.string p.dst,.int .i64 p.proto,.int .i64 p.id,.int .i64 p.off,.bool p.more,.string p.data,.int .i64 p.since]
def pcL (p:Pc):List Value:=[.string p.src,.string p.dst,.int .i64 p.proto,.int .i64 p.id,.int .i64 p.off,.bool p.more,.string p.data,.int .i64 p.since]
theorem pcL_length (p:Pc):(pcL p).length=8:=rfl
instance:Inhabited Pc:=⟨⟨⟨#[]⟩,⟨#[]⟩,0,0,0,false,⟨#[]⟩,0⟩⟩
def isTime (n:Int):Bool:=isIn n 0 1000000000
def pieceOk (p:Pc):Bool:=pairOk p.src p.dst&&isIn p.proto 0 255&&isIn p.id 0 4294967295&&isIn p.off 0 8191&&decide (1≤p.data.size)&&decide (p.data.size≤1400)&&(!p.more||decide (p.data.size % 8=0))&&decide (8*p.off+p.data.size≤65535)&&isTime p.since
def onePk (a b:Pc):Bool:=decide (a.src=b.src)&&decide (a.dst=b.dst)&&decide (a.proto=b.proto)&&decide (a.id=b.id)
def endPc (p:Pc):Int:=8*p.off+p.data.size
def meetPc (a b:Pc):Bool:=(decide (8*a.off < endPc b)&&decide (8*b.off < endPc a))||(!a.more&&(!b.more||decide (endPc a≤8*b.off)))||(!b.more&&decide (endPc b≤8*a.off))
def hitPc (a b:Pc):Bool:=onePk a b&&meetPc a b
def hitN (xs:List Pc) (p:Pc):Nat→Bool
 | 0=>false
 | k+1=>hitN xs p k||(match xs[k]? with | some q=>hitPc p q | none=>false)
def allN (xs:List Pc):Nat→Bool
 | 0=>true
 | k+1=>allN xs k&&(match xs[k]? with | some p=>pieceOk p&&!hitN xs p k | none=>true)
def allPc (xs:List Pc):Bool:=allN xs xs.length
def piecesOk (xs:List Pc):Bool:=decide (xs.length≤40)&&allPc xs
structure PcOut where
 pieces:List Pc
 data:ByteArray
 done:Bool
 code:Int
theorem spPair_any (s d:ByteArray) (w:World) (hs:s.size≤maxLen) (hd:d.size≤maxLen) :
  Calls Tryz.prog 164 #[.string s,.string d] w fun e w'=>e=.returned (.bool (pairOk s d))∧w'=w:=by
 have HA:Hid (∀ W,Calls Tryz.prog 137 #[.string s] W fun e w'=>e=.returned (.bool (addrOk s))∧w'=W):=fun W=>specAddrRight_any s W
 unfold maxLen at hs hd;unfold pairOk;generalize addrOk s=b at *;by_cases h:s.size=d.size
 ·have dh:((s.size:Int)==(d.size:Int))=true:=by simp; omega
  rw [decide_eq_true h];clear h
  cases b;all_goals go_enter Tryz.func164,Tryz.ntmps164
  all_goals go_wp2_with fail
  all_goals refine (HA.out _).mono ?_
  all_goals rintro e w2 ⟨rfl,rfl⟩
  all_goals go_wp2_with fail
  all_goals go_ret
  all_goals exact ⟨rfl,rfl⟩
 ·have dh:((s.size:Int)==(d.size:Int))=false:=by simp; omega
  rw [decide_eq_false h]
  cases b;all_goals go_enter Tryz.func164,Tryz.ntmps164
  all_goals go_wp2_with fail
  all_goals refine (HA.out _).mono ?_
  all_goals rintro e w2 ⟨rfl,rfl⟩
  all_goals go_wp2_with fail
  all_goals go_ret
  all_goals exact ⟨rfl,rfl⟩
theorem specIs_any (n lo hi:Int) (w:World) :
  Calls Tryz.prog 66 #[.int .i64 n,.int .i64 lo,.int .i64 hi] w fun e w'=>e=.returned (.bool (isIn n lo hi))∧w'=w:=by
 by_cases h1:lo≤n
 ·by_cases h2:n≤hi
  ·have HV:Hid (isIn n lo hi=true):=by unfold Hid isIn; simp [h1,h2]
   go_enter Tryz.func66,Tryz.ntmps66
   go_wp2_with fail
   go_ret;exact ⟨ret_bool (by rw [HV.out]),rfl⟩
  ·have HV:Hid (isIn n lo hi=false):=by unfold Hid isIn; simp [h2]
   go_enter Tryz.func66,Tryz.ntmps66
   go_wp2_with fail
   go_ret;exact ⟨ret_bool (by rw [HV.out]),rfl⟩
 ·have HV:Hid (isIn n lo hi=false):=by unfold Hid isIn; simp [h1]
  have h1':n < lo:=by omega
  go_enter Tryz.func66,Tryz.ntmps66
  go_wp2_with fail
  go_ret;exact ⟨ret_bool (by rw [HV.out]),rfl⟩
theorem specByte_any (n:Int) (w:World) :
  Calls Tryz.prog 165 #[.int .i64 n] w fun e w'=>e=.returned (.bool (isIn n 0 255))∧w'=w:=by
 have HC:Hid (∀ W,Calls Tryz.prog 66 #[.int .i64 n,.int .i64 0,.int .i64 255] W fun e w'=>e=.returned (.bool (isIn n 0 255))∧w'=W):=fun W=>specIs_any n 0 255 W
 generalize isIn n 0 255=b at *;go_enter Tryz.func165,Tryz.ntmps165
 go_wp2_with fail
 refine (HC.out _).mono ?_;rintro e w2 ⟨rfl,rfl⟩;go_wp2_with fail
 go_ret;exact ⟨rfl,rfl⟩
open Go.ChangeShapes Go.WideShapes
def PcWf (p:Pc):Prop:=p.src.size≤maxLen∧p.dst.size≤maxLen∧In64t p.proto∧In64t p.id∧In64t p.off∧p.data.size≤maxLen∧In64t p.since
def PcSm (p:Pc):Prop:=p.src.size≤1048576∧p.dst.size≤1048576∧p.data.size≤1048576
structure BoxPiece (w:World) (B:Nat) (p:Pc):Prop where
 c0:w.cell? ⟨B,0,none⟩=some (.string p.src)
 c1:w.cell? ⟨B,1,none⟩=some (.string p.dst)
 c2:w.cell? ⟨B,2,none⟩=some (.int .i64 p.proto)
 c3:w.cell? ⟨B,3,none⟩=some (.int .i64 p.id)
 c4:w.cell? ⟨B,4,none⟩=some (.int .i64 p.off)
 c5:w.cell? ⟨B,5,none⟩=some (.bool p.more)
 c6:w.cell? ⟨B,6,none⟩=some (.string p.data)
 c7:w.cell? ⟨B,7,none⟩=some (.int .i64 p.since)
theorem BoxPiece.kept {w W:World} {B:Nat} {p:Pc} (h:BoxPiece w B p) (hB:Below w.heap.size w W):BoxPiece W B p:=by
 have hb:=World.block_lt_of_cell? w _ h.c0;exact ⟨((bcell hB).1 B 0 hb).trans h.c0,((bcell hB).1 B 1 hb).trans h.c1,((bcell hB).1 B 2 hb).trans h.c2,((bcell hB).1 B 3 hb).trans h.c3,((bcell hB).1 B 4 hb).trans h.c4,((bcell hB).1 B 5 hb).trans h.c5,((bcell hB).1 B 6 hb).trans h.c6,((bcell hB).1 B 7 hb).trans h.c7⟩
theorem BoxPiece.new (w:World) (p:Pc) {t:TypeId}:BoxPiece (w.alloc (.cells #[.string p.src,.string p.dst,.int .i64 p.proto,.int .i64 p.id,.int .i64 p.off,.bool p.more,.string p.data,.int .i64 p.since] t)) w.heap.size p:=⟨cell_new rfl,cell_new rfl,cell_new rfl,cell_new rfl,cell_new rfl,cell_new rfl,cell_new rfl,cell_new rfl⟩
section
variable {H:Type} {enc:TypeId × Value→H} {w:World} {base:Nat} {spare:Nat→Bool} {held:Bool}
end
theorem eqPiece_same (p:Pc) (w:World) :
  Calls Tryz.prog 93 #[pcC p,pcC p] w fun e w'=>e=.returned (.bool true)∧Below w.heap.size w w':=by
 obtain ⟨src,dst,proto,id,off,more,data,since⟩:=p;unfold pcC;dsimp only;have HZ:Hid (Below w.heap.size w ((w.alloc (.cells #[.string src,.string dst,.int .i64 proto,.int .i64 id,.int .i64 off,.bool more,.string data,.int .i64 since] 128)).alloc (.cells #[.string src,.string dst,.int .i64 proto,.int .i64 id,.int .i64 off,.bool more,.string data,.int .i64 since] 128))):=((Below.refl _ _).alloc (Nat.le_refl _) _).alloc (by simp) _;go_enter Tryz.func93,Tryz.ntmps93
 go_wp2_with fail
 go_ret;exact ⟨rfl,HZ.out⟩
end Go.Proofs.YthagnjokdnnmpaaGreat
