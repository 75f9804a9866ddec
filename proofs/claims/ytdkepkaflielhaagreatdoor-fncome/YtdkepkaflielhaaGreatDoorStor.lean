import Derived.Test.YtdkepkaflielhaaGreatDoorSz
import Derived.Test.YtdkepkaflielhaaGreatDoorAb
import Derived.Test.YtdkepkaflielhaaGreatDoorBoxes
import Derived.Test.YtdkepkaflielhaaGreatDoorLawBib
set_option linter.unusedVariables false
set_option linter.unusedSimpArgs false
set_option maxRecDepth 100000
set_option maxHeartbeats 8000000
namespace Go.Proofs.YtdkepkaflielhaaGreatDoor
open Go.RowKit
def stor (b:Nat):World→Nat→List Value→World
 | W,_,[]=>W
 | W,j,v::l=>stor b (W.setCell ⟨b,j,none⟩ v) (j+1) l
theorem HoldsL.storAt {b:Nat}:∀ (vs:List Value) {W:World} {pre olds:List Value},HoldsL W b (pre++olds)→olds.length=vs.length→HoldsL (stor b W pre.length vs) b (pre++vs)
 | [],W,pre,[],h,_=>h
 | [],W,pre,_::_,h,hl=>by simp at hl
 | v::vs,W,pre,[],h,hl=>by simp at hl
 | v::vs,W,pre,o::os,h,hl=>by
  have h2:=h.set pre.length v;rw [List.set_append_right _ _ lR,Nat.sub_self,List.set_cons_zero] at h2;have h3:HoldsL (W.setCell ⟨b,pre.length,none⟩ v) b ((pre++[v])++os):=by rw [List.append_assoc]; exact h2
  have:=HoldsL.storAt vs h3 (by simpa using hl);rw [List.length_append,List.append_assoc] at this;exact this
theorem HoldsL.stor {b:Nat} {W:World} {olds:List Value} (h:HoldsL W b olds) (vs:List Value) (hl:olds.length=vs.length):HoldsL (stor b W 0 vs) b vs:=HoldsL.storAt vs (pre:=[]) h hl
theorem Below.stor {n b:Nat} {w:World} (hb:n≤b):∀ (vs:List Value) {W:World} {j:Nat},Below n w W→Below n w (Go.Proofs.YtdkepkaflielhaaGreatDoor.stor b W j vs)
 | [],W,j,h=>h
 | v::vs,W,j,h=>Below.stor hb vs (h.setCell (p:=⟨b,j,none⟩) hb v)
theorem HoldsL.storOther {b c:Nat} {cs:List Value} (hne:c≠b):∀ (vs:List Value) {W:World} {j:Nat},HoldsL W c cs→HoldsL (Go.Proofs.YtdkepkaflielhaaGreatDoor.stor b W j vs) c cs
 | [],W,j,h=>h
 | v::vs,W,j,h=>HoldsL.storOther hne vs (h.setOther hne v)
theorem Bxs.stor {w W:World} {ks:List (Nat × List Value)} {b j:Nat} (h:Bxs w ks W) (hb:w.heap.size≤b) (hks:∀ e∈ks,e.1≠b) (vs:List Value):Bxs w ks (Go.Proofs.YtdkepkaflielhaaGreatDoor.stor b W j vs):=⟨fun e he=>HoldsL.storOther (hks e he) vs (h.k e he),Below.stor hb vs h.b,h.z⟩
theorem grown_stor {b:Nat}:∀ (vs:List Value) {w W:World} {j:Nat},w.grownBy W (some b)→w.grownBy (Go.Proofs.YtdkepkaflielhaaGreatDoor.stor b W j vs) (some b)
 | [],w,W,j,h=>h
 | v::vs,w,W,j,h=>grown_stor vs (grown_set h v)
theorem BbOwn.stor {base b j:Nat} {W:World} {a a':Option Addr} {y:Bb} (h:BbOwn base W a a' y) (hb:b < base) (vs:List Value):BbOwn base (Go.Proofs.YtdkepkaflielhaaGreatDoor.stor b W j vs) a a' y :=
 ⟨h.bd.grown (grown_stor vs (World.grownBy.refl _ _)) hb,h.ss.grown (grown_stor vs (World.grownBy.refl _ _)) hb,h.ne⟩
theorem BbOwn.lowN {base base':Nat} {W:World} {a a':Option Addr} {y:Bb} (h:BbOwn base W a a' y) (hb:base'≤base):BbOwn base' W a a' y:=⟨h.bd.down hb,h.ss.down hb,h.ne⟩
end Go.Proofs.YtdkepkaflielhaaGreatDoor
