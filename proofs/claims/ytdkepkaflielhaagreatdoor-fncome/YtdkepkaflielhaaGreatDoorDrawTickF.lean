import Derived.Test.YtdkepkaflielhaaGreatDoorAb
import Derived.Test.YtdkepkaflielhaaGreatDoorDrawBibF
set_option linter.unusedVariables false
set_option linter.unusedSimpArgs false
set_option maxRecDepth 100000
set_option maxHeartbeats 8000000
namespace Go.Proofs.YtdkepkaflielhaaGreatDoor
open Go.RowKit Go.PlainAid
structure TS (w:World) (B:Nat) (sa:Option Addr) (len cap:Nat) (size:Int) (R0 R1 P X:Nat) (pa:Option Addr) (pc:Nat) (p:Pl) (a b:Option Addr) (c d:Nat) (x:Bb) (wx:World):Prop where
 dr:Dr w B sa len cap size wx
 r0:HoldsL wx R0 plZ0
 r1:HoldsL wx R1 [.slice none 0 0,.slice none 0 0]
 bp:HoldsL wx P (plL pa pc p)
 bx:HoldsL wx X (BbV a c b d x)
 pl:SlIs strL1 1 wx pa p.addrs
 bb:BbIs wx a b x
 fp:∀ g o,pa=some ⟨g,o,none⟩→w.heap.size≤g
 fa:x.binds=[]∨∀ g o,a=some ⟨g,o,none⟩→w.heap.size≤g
 fb:x.sess=[]∨∀ g o,b=some ⟨g,o,none⟩→w.heap.size≤g
 hP:R0 < R1∧R1 < B∧w.heap.size≤P∧P < X
structure TF (R0 R1:Nat) (pa:Option Addr) (pc:Nat) (p:Pl) (a b:Option Addr) (c d:Nat) (x:Bb) (wx:World):Prop where
 r0:HoldsL wx R0 (plL pa pc p)
 r1:HoldsL wx R1 (BbV a c b d x)
 pl:SlIs strL1 1 wx pa p.addrs
 bb:BbIs wx a b x
end Go.Proofs.YtdkepkaflielhaaGreatDoor
