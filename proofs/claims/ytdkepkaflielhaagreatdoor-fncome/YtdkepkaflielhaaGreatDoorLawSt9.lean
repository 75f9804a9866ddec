import Derived.Test.YtdkepkaflielhaaGreatDoorAb
import Derived.Test.YtdkepkaflielhaaGreatDoorLawPool
import Derived.Test.YtdkepkaflielhaaGreatDoorLawBibM
import Derived.Test.YtdkepkaflielhaaGreatDoorGrowV
import Derived.Test.YtdkepkaflielhaaGreatDoorGrowH
set_option linter.unusedVariables false
set_option linter.unusedSimpArgs false
set_option maxRecDepth 100000
set_option maxHeartbeats 8000000
namespace Go.Proofs.YtdkepkaflielhaaGreatDoor
open Go.RowKit Go.PlainAid Go.ChangeShapes Go.WideShapes
structure OutOf (lo hi:Nat) (w W:World):Prop where
 os:W.os=w.os
 tape:W.tape=w.tape
 output:W.output=w.output
 size:w.heap.size≤W.heap.size
 block:∀ k,k < w.heap.size→(k < lo∨hi≤k)→W.heap[k]?=w.heap[k]?
section
variable {lo hi lo2 hi2 B:Nat} {w w1 W:World}
end
section
variable {α:Type} {en:α→List Value} {n:Nat} {lo hi lo2 hi2:Nat} {w W:World} {a:Option Addr} {xs:List α}
def SlIn (en:α→List Value) (n lo hi:Nat) (w:World) (a:Option Addr) (xs:List α):Prop:=xs=[]∨∃ g,a=some ⟨g,0,none⟩∧lo≤g∧g < hi∧SlLaid en n w g xs xs.length xs.length
end
structure BbIn (lo hi:Nat) (w:World) (a b:Option Addr) (x:Bb):Prop where
 bd:SlIn bdL 5 lo hi w a x.binds
 ss:SlIn ssL 7 lo hi w b x.sess
 ne:∀ g h,a=some ⟨g,0,none⟩→b=some ⟨h,0,none⟩→x.binds≠[]→x.sess≠[]→g≠h
section
variable {lo hi lo2 hi2:Nat} {w W:World} {a b:Option Addr} {x:Bb}
end
end Go.Proofs.YtdkepkaflielhaaGreatDoor
