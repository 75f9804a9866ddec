import Derived.Test.YtdkepkaflielhaaGreatDoorSz
import Derived.Test.YtdkepkaflielhaaGreatDoorAb
import Derived.Test.YtdkepkaflielhaaGreatDoorDrawAddr
import Derived.Test.YtdkepkaflielhaaGreatDoorWords
set_option linter.unusedVariables false
set_option linter.unusedSimpArgs false
set_option maxRecDepth 100000
set_option maxHeartbeats 8000000
namespace Go.Proofs.YtdkepkaflielhaaGreatDoor
open Go.RowKit Go.PlainAid
section
variable {w wx wy:World} {B len cap:Nat} {a:Option Addr} {size:Int}
structure Dr (w:World) (B:Nat) (a:Option Addr) (len cap:Nat) (size:Int) (wx:World):Prop where
 src:Src wx B a len cap size
 grown:w.grownBy wx (some B)
 hB:B < w.heap.size
theorem Dr.start (hs:Src w B a len cap size):Dr w B a len cap size w:=⟨hs,World.grownBy.refl _ _,by obtain ⟨_,_,_,h⟩:=hs; exact World.block_lt_of_cell? w _ h.cb⟩
theorem Dr.draw (h:Dr w B a len cap size wx) (hs:Src wy B a len cap size) (hg:wx.grownBy wy (some B)):Dr w B a len cap size wy:=⟨hs,grown_trans h.grown hg,h.hB⟩
theorem Dr.below (h:Dr w B a len cap size wx) (hb:Below wx.heap.size wx wy):Dr w B a len cap size wy:=⟨h.src.kept (grown_of_below (r:=none) hb) (by simp),grown_trans h.grown (grown_of_below hb),h.hB⟩
theorem Dr.alloc (h:Dr w B a len cap size wx) (o:Obj):Dr w B a len cap size (wx.alloc o):=h.below (bR.alloc lR o)
theorem Dr.set (h:Dr w B a len cap size wx) (R j:Nat) (v:Value) (hR:w.heap.size≤R):Dr w B a len cap size (wx.setCell ⟨R,j,none⟩ v) :=
 ⟨h.src.kept (grown_cell wx R j v) (fun k e=>by have:=h.hB; injection e with e; omega),grown_new h.grown hR,h.hB⟩
theorem Dr.le (h:Dr w B a len cap size wx):w.heap.size≤wx.heap.size:=h.grown.size
end
end Go.Proofs.YtdkepkaflielhaaGreatDoor
