import Derived.Test.YtagbhaalmjpkjaaHoldL
import Derived.Test.YtagbhaalmjpkjaaGrow
import Derived.Test.YtagbhaalmjpkjaaMerged9
import Derived.Test.YtagbhaalmjpkjaaSV4B
import Derived.Test.YtagbhaalmjpkjaaSV6B
import Derived.Test.YtagbhaalmjpkjaaSmV
import Derived.Test.YtagbhaalmjpkjaaSPseudo
import Derived.Test.YtagbhaalmjpkjaaGrowV
import Derived.Deep.DeepCutAuto
import Derived.Laws.IdiomCopy
import Derived.Deep.OwnRows
import Derived.Lib.LazyBuf
import Derived.Lib.BufferWrite
set_option linter.unusedVariables false
set_option linter.unusedSimpArgs false
set_option maxRecDepth 100000
set_option maxHeartbeats 8000000
namespace Go.Proofs.Ytagbhaalmjpkjaa
open Go.RowKit
structure Bxs (w:World) (ks:List (Nat × List Value)) (wx:World):Prop where
 k:∀ e∈ks,HoldsL wx e.1 e.2
 b:Below w.heap.size w wx
 z:∀ e∈ks,0 < e.2.length
theorem Bxs.at {w wx:World} {ks:List (Nat × List Value)} {a:Nat} {l:List Value} (h:Bxs w ks wx) (hm:(a,l)∈ks):HoldsL wx a l:=h.k _ hm
theorem Bxs.kept {w wx wy:World} {ks:List (Nat × List Value)} (h:Bxs w ks wx) (hB:Below wx.heap.size wx wy):Bxs w ks wy:=⟨fun e he=>(h.k e he).kept (h.z e he) hB,h.b.trans (hB.mono h.b.size),h.z⟩
theorem Bxs.push {w wx:World} {ks:List (Nat × List Value)} (h:Bxs w ks wx) (vs:List Value) (hv:0 < vs.length) (T:TypeId):Bxs w ((wx.heap.size,vs)::ks) (wx.alloc (.cells vs.toArray T)):=by
 have hal:Below wx.heap.size wx (wx.alloc (.cells vs.toArray T)):=(Below.refl _ _).alloc (Nat.le_refl _) _;refine ⟨fun e he=>?_,h.b.trans (hal.mono h.b.size),fun e he=>?_⟩
 ·rcases List.mem_cons.1 he with rfl | he
  ·exact HoldsL.new wx vs T
  ·exact (h.k e he).kept (h.z e he) hal
 ·rcases List.mem_cons.1 he with rfl | he
  ·exact hv
  ·exact h.z e he
theorem Bxs.cons {w wx:World} {ks:List (Nat × List Value)} {g:Nat} {vs:List Value} (h:Bxs w ks wx) (hg:HoldsL wx g vs) (hv:0 < vs.length):Bxs w ((g,vs)::ks) wx:=⟨fun e he=>by
 rcases List.mem_cons.1 he with rfl | he
 ·exact hg
 ·exact h.k e he,h.b,fun e he=>by
 rcases List.mem_cons.1 he with rfl | he
 ·exact hv
 ·exact h.z e he⟩
def IsZy (base:Nat) (zs:List Value):Value→World→Prop:=fun v w=>∃ g,v=.pointer (some ⟨g,0,none⟩)∧base≤g∧HoldsL w g zs
theorem stable_isZy (base:Nat) (zs:List Value) (h:0 < zs.length):Stable (IsZy base zs):=fun v w w' ⟨g,h1,h2,h3⟩ hb=>⟨g,h1,h2,h3.kept h hb⟩
open Go.PlainAid Go.Lib
def sixV (k c:Int):ByteArray:=pairV k c++⟨#[0,0,0,0]⟩
theorem sixV_size (k c:Int):(sixV k c).size=6:=rfl
def IsSix (k c:Int):Value→World→Prop:=fun v w=>∃ g,v=.slice (some ⟨g,0,none⟩) 6 6∧HoldsL w g [.int .u8 k,.int .u8 c,.int .u8 0,.int .u8 0,.int .u8 0,.int .u8 0]
theorem stable_isSix (k c:Int):Stable (IsSix k c):=fun v w w' ⟨g,h1,h2⟩ hb=>⟨g,h1,h2.kept (by simp) hb⟩
theorem six_conv {w:World} {g:Nat} {k c:Int} (hk:0≤k∧k≤255) (hc:0≤c∧c≤255) (h:HoldsL w g [.int .u8 k,.int .u8 c,.int .u8 0,.int .u8 0,.int .u8 0,.int .u8 0]):(convert 22 9 (.slice (some ⟨g,0,none⟩) 6 6)).run Try.prog w=.ok (.string (sixV k c)) w:=by
 obtain ⟨h0,h1,h2,h3,h4,h5⟩:=h.c6;exact run_convert_bytes_back (P:=Try.prog) w 22 9 5 ⟨g,0,none⟩ 6 [UInt8.ofNat k.toNat,UInt8.ofNat c.toNat,0,0,0,0] Try.underlying22 Try.underlying5 Try.underlying9 (by
  intro j hj;match j,hj with
  | 0,_=>simp only [Addr.add,Nat.add_zero,List.getElem_cons_zero]; rw [u8_ofNat _ hk.1 hk.2]; exact h0
  | 1,_=>simp only [Addr.add,Nat.zero_add,List.getElem_cons_succ,List.getElem_cons_zero]; rw [u8_ofNat _ hc.1 hc.2]; exact h1
  | 2,_=>simp only [Addr.add,Nat.zero_add,List.getElem_cons_succ,List.getElem_cons_zero]; exact h2
  | 3,_=>simp only [Addr.add,Nat.zero_add,List.getElem_cons_succ,List.getElem_cons_zero]; exact h3
  | 4,_=>simp only [Addr.add,Nat.zero_add,List.getElem_cons_succ,List.getElem_cons_zero]; exact h4
  | 5,_=>simp only [Addr.add,Nat.zero_add,List.getElem_cons_succ,List.getElem_cons_zero]; exact h5)
def Z16C:List Value:=[.int .u8 0,.int .u8 0,.int .u8 0,.int .u8 0,.int .u8 0,.int .u8 0,.int .u8 0,.int .u8 0,.int .u8 0,.int .u8 0,.int .u8 0,.int .u8 0,.int .u8 0,.int .u8 0,.int .u8 0,.int .u8 0]
def IsZ16:Value→World→Prop:=fun v w=>∃ g,v=.slice (some ⟨g,0,none⟩) 16 16∧HoldsL w g Z16C
theorem stable_isZ16:Stable IsZ16:=fun v w w' ⟨g,h1,h2⟩ hb=>⟨g,h1,h2.kept (by simp [Z16C]) hb⟩
theorem z16_conv {w:World} {g:Nat} (h:HoldsL w g Z16C):(convert 22 9 (.slice (some ⟨g,0,none⟩) 16 16)).run Try.prog w=.ok (.string ⟨#[0,0,0,0,0,0,0,0,0,0,0,0,0,0,0,0]⟩) w:=by
 exact run_convert_bytes_back (P:=Try.prog) w 22 9 5 ⟨g,0,none⟩ 16 [0,0,0,0,0,0,0,0,0,0,0,0,0,0,0,0] Try.underlying22 Try.underlying5 Try.underlying9 (by
  intro j hj;have ha:Addr.add ⟨g,0,none⟩ j=⟨g,j,none⟩:=by simp [Addr.add]; omega
  rw [ha];have hj':j < 16:=hj;have hd:j=0∨j=1∨j=2∨j=3∨j=4∨j=5∨j=6∨j=7∨j=8∨j=9∨j=10∨j=11∨j=12∨j=13∨j=14∨j=15:=by omega
  clear ha hj';rcases hd with rfl | rfl | rfl | rfl | rfl | rfl | rfl | rfl | rfl | rfl | rfl | rfl | rfl | rfl | rfl | rfl<;>exact h.cell rfl)
theorem made16 (wy:World):HoldsL (wy.alloc (.cells (madeCells (Value.int .u8 0).cells (16*1)) 5)) wy.heap.size Z16C:=by
 have h:=HoldsL.new wy (madeCells (Value.int .u8 0).cells (16*1)).toList 5;rw [Array.toArray_toList] at h;have e:(madeCells (Value.int .u8 0).cells (16*1)).toList=Z16C:=by
  show (madeCells #[Value.int .u8 0] (16*1)).toList=_;rw [toList_madeCells_one]; rfl
 rw [e] at h; exact h
end Go.Proofs.Ytagbhaalmjpkjaa
