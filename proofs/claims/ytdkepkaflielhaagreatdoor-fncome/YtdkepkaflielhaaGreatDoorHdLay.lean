import Derived.Test.YtdkepkaflielhaaGreatDoorAb
import Derived.Test.YtdkepkaflielhaaGreatDoorIV4BM
import Derived.Test.YtdkepkaflielhaaGreatDoorBoxes
import Derived.Laws.IdiomCopy
import Derived.Deep.OwnRows
import Derived.Lib.LazyBuf
import Derived.Lib.BufferWrite
set_option linter.unusedVariables false
set_option linter.unusedSimpArgs false
set_option maxRecDepth 100000
set_option maxHeartbeats 8000000
namespace Go.Proofs.YtdkepkaflielhaaGreatDoor
open Go.RowKit Go.PlainAid Go.Lib
def zs (n:Nat):ByteArray:=⟨Array.replicate n 0⟩
theorem lay_at {w:World} {g o:Nat} {A Z B s:ByteArray} (h:HoldsL w g (strCells (A++Z++B))) (hA:A.size=o) (hZ:Z.size=s.size):HoldsL (w.setCells g o (strCells s)) g (strCells (A++s++B)):=by
 have hl:(strCells (A++Z++B)).length=o+s.size+B.size:=by rw [strCells_length]; simp only [ByteArray.size_append]; omega
 have:=h.setRange o (strCells s) (by rw [hl,strCells_length]; omega);rw [strCells_length] at this;rw [strCells_append,strCells_append] at this ⊢;rw [List.append_assoc (strCells A),List.take_left' (by rw [strCells_length]; exact hA),← List.append_assoc,List.drop_left' (by rw [List.length_append,strCells_length,strCells_length]; omega)] at this;exact this
theorem below_setCells {w W:World} {B g:Nat} (h:Below B w W) (hg:B≤g):∀ (cs:List Value) (o:Nat),Below B w (W.setCells g o cs)
 | [],o=>h
 | c::cs,o=>by rw [World.setCells]; exact below_setCells (h.setCell (p:=⟨g,o,none⟩) hg c) hg cs (o+1)
theorem Bxs.cells {w wx:World} {ks:List (Nat × List Value)} (h:Bxs w ks wx) {g:Nat} (hne:∀ e∈ks,e.1≠g) (hg:w.heap.size≤g) {o:Nat} {cs:List Value}:Bxs w ks (wx.setCells g o cs) :=
 ⟨fun e he=>(h.k e he).setCellsOther (hne e he) cs,below_setCells h.b hg cs o,h.z⟩
theorem hold_bt {w:World} {g:Nat} {t:ByteArray} (h:HoldsL w g (strCells t)) (i:Nat) (hi:i < t.size):w.cell? ⟨g,i,none⟩=some (.int .u8 (bt t i)):=h.cell (strCells_at t i hi)
end Go.Proofs.YtdkepkaflielhaaGreatDoor
