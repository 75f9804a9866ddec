import Derived.Test.YtellgkeakiikkaaSTell0
import Derived.Test.YtellgkeakiikkaaSV4B
import Derived.Test.YtellgkeakiikkaaSV6B
import Derived.Test.YtellgkeakiikkaaSmV
import Derived.Test.YtellgkeakiikkaaSPseudo
import Derived.Test.YtellgkeakiikkaaBoxes
import Derived.Test.YtellgkeakiikkaaGrowV
import Derived.Deep.DeepCutAuto
import Derived.Laws.IdiomCopy
import Derived.Deep.OwnRows
import Derived.Lib.LazyBuf
import Derived.Lib.BufferWrite
set_option linter.unusedVariables false
set_option linter.unusedSimpArgs false
set_option maxRecDepth 100000
set_option maxHeartbeats 8000000
namespace Go.Proofs.Ytellgkeakiikkaa
open Go.RowKit Go.PlainAid Go.Lib
def sixV (k c:Int):ByteArray:=pairV k c++⟨#[0,0,0,0]⟩
theorem sixV_size (k c:Int):(sixV k c).size=6:=rfl
def IsSix (k c:Int):Value→World→Prop:=fun v w=>∃ g,v=.slice (some ⟨g,0,none⟩) 6 6∧HoldsL w g [.int .u8 k,.int .u8 c,.int .u8 0,.int .u8 0,.int .u8 0,.int .u8 0]
theorem stable_isSix (k c:Int):Stable (IsSix k c):=fun v w w' ⟨g,h1,h2⟩ hb=>⟨g,h1,h2.kept (by simp) hb⟩
theorem six_conv {w:World} {g:Nat} {k c:Int} (hk:0≤k∧k≤255) (hc:0≤c∧c≤255) (h:HoldsL w g [.int .u8 k,.int .u8 c,.int .u8 0,.int .u8 0,.int .u8 0,.int .u8 0]):(convert 22 9 (.slice (some ⟨g,0,none⟩) 6 6)).run Try.prog w=.ok (.string (sixV k c)) w:=by
 obtain ⟨h0,h1,h2,h3,h4,h5⟩:=h.c6;exact run_convert_bytes_back (P:=Try.prog) w 22 9 5 ⟨g,0,none⟩ 6 [UInt8.ofNat k.toNat,UInt8.ofNat c.toNat,0,0,0,0] Try.underlying22 Try.underlying5 Try.underlying9 (by
  intro j hj;match j,hj with
  | 0,_=>simp only [Addr.add,Nat.add_zero,List.getElem_cons_zero]; rw [u8_ofNat _ hk.1 hk.2]; exact h0
  | 1,_=>simp only [Addr.add,Nat.zero_add,List.getElem_cons_succ,List.getElem_cons_zero]; rw [u8_ofNat _ hc.1 hc.2]; exact h1
  | 2,_=>simp only [Addr.add,Nat.zero_add,List.getElem_cons_succ,List.getElem_cons_zero]; exact h2
  | 3,_=>simp only [Addr.add,Nat.zero_add,List.getElem_cons_succ,List.getElem_cons_zero]; exact h3
  | 4,_=>simp only [Addr.add,Nat.zero_add,List.getElem_cons_succ,List.getElem_cons_zero]; exact h4
  | 5,_=>simp only [Addr.add,Nat.zero_add,List.getElem_cons_succ,List.getElem_cons_zero]; exact h5)
def Z16C:List Value:=[.int .u8 0,.int .u8 0,.int .u8 0,.int .u8 0,.int .u8 0,.int .u8 0,.int .u8 0,.int .u8 0,.int .u8 0,.int .u8 0,.int .u8 0,.int .u8 0,.int .u8 0,.int .u8 0,.int .u8 0,.int .u8 0]
def IsZ16:Value→World→Prop:=fun v w=>∃ g,v=.slice (some ⟨g,0,none⟩) 16 16∧HoldsL w g Z16C
theorem stable_isZ16:Stable IsZ16:=fun v w w' ⟨g,h1,h2⟩ hb=>⟨g,h1,h2.kept (by simp [Z16C]) hb⟩
theorem z16_conv {w:World} {g:Nat} (h:HoldsL w g Z16C):(convert 22 9 (.slice (some ⟨g,0,none⟩) 16 16)).run Try.prog w=.ok (.string ⟨#[0,0,0,0,0,0,0,0,0,0,0,0,0,0,0,0]⟩) w:=by
 exact run_convert_bytes_back (P:=Try.prog) w 22 9 5 ⟨g,0,none⟩ 16 [0,0,0,0,0,0,0,0,0,0,0,0,0,0,0,0] Try.underlying22 Try.underlying5 Try.underlying9 (by
  intro j hj;have ha:Addr.add ⟨g,0,none⟩ j=⟨g,j,none⟩:=by simp [Addr.add]; omega
  rw [ha];have hj':j < 16:=hj;have hd:j=0∨j=1∨j=2∨j=3∨j=4∨j=5∨j=6∨j=7∨j=8∨j=9∨j=10∨j=11∨j=12∨j=13∨j=14∨j=15:=by omega
  clear ha hj';rcases hd with rfl | rfl | rfl | rfl | rfl | rfl | rfl | rfl | rfl | rfl | rfl | rfl | rfl | rfl | rfl | rfl<;>exact h.cell rfl)
theorem made16 (wy:World):HoldsL (wy.alloc (.cells (madeCells (Value.int .u8 0).cells (16*1)) 5)) wy.heap.size Z16C:=by
 have h:=HoldsL.new wy (madeCells (Value.int .u8 0).cells (16*1)).toList 5;rw [Array.toArray_toList] at h;have e:(madeCells (Value.int .u8 0).cells (16*1)).toList=Z16C:=by
  show (madeCells #[Value.int .u8 0] (16*1)).toList=_;rw [toList_madeCells_one]; rfl
 rw [e] at h; exact h
end Go.Proofs.Ytellgkeakiikkaa
