import Derived.Test.YtdkepkaflielhaaGreatDoorSz
import Derived.Test.YtdkepkaflielhaaGreatDoorAb
import Derived.Test.YtdkepkaflielhaaGreatDoorDrawBibS
import Derived.Deep.RegionHeld
set_option linter.unusedVariables false
set_option linter.unusedSimpArgs false
set_option maxRecDepth 100000
set_option maxHeartbeats 8000000
namespace Go.Proofs.YtdkepkaflielhaaGreatDoor
open Go.RowKit Go.PlainAid
def BibRet (w:World) (B:Nat) (sa:Option Addr) (len cap:Nat) (size:Int) (e:Ending) (w':World):Prop:=∃ pa pc p a b c d x now,e=.returned (.tuple #[plC pa pc p,bbC a b c d x,iV now])∧PlDr p∧p.addrs.length≤pc∧BbDr x∧0≤now∧now≤100∧SlIs strL1 1 w' pa p.addrs∧BbIs w' a b x∧(∀ g o,pa=some ⟨g,o,none⟩→w.heap.size≤g)∧(x.binds=[]∨∀ g o,a=some ⟨g,o,none⟩→w.heap.size≤g)∧(x.sess=[]∨∀ g o,b=some ⟨g,o,none⟩→w.heap.size≤g)∧Src w' B sa len cap size∧w.grownBy w' (some B)
structure FinS (w:World) (B:Nat) (sa:Option Addr) (len cap:Nat) (size:Int) (pa:Option Addr) (pc:Nat) (p:Pl) (a b:Option Addr) (c d:Nat) (x:Bb) (wx:World):Prop where
 dr:Dr w B sa len cap size wx
 r0:HoldsL wx w.heap.size (plL pa pc p)
 r1:HoldsL wx (w.heap.size+1) (BbV a c b d x)
 pl:SlIs strL1 1 wx pa p.addrs
 bb:BbIs wx a b x
theorem FinS.drew {w wx:World} {B:Nat} {sa:Option Addr} {len cap:Nat} {size:Int} {pa:Option Addr} {pc:Nat} {p:Pl} {a b:Option Addr} {c d:Nat} {x:Bb} (h:FinS w B sa len cap size pa pc p a b c d x wx):FinS w B sa len cap size pa pc p a b c d x wx.drew:=⟨h.dr.below bR.drew,h.r0.drew,h.r1.drew,h.pl.below bR.drew,h.bb.below bR.drew⟩
theorem BS.fin {w wx:World} {B:Nat} {sa:Option Addr} {len cap:Nat} {size:Int} {P X base:Nat} {pa:Option Addr} {pc:Nat} {p:Pl} {a b:Option Addr} {c d:Nat} {x:Bb} (h:BS w B sa len cap size P X base pa pc p a b c d x wx):FinS w B sa len cap size pa pc p a b c d x ((sW (sW (sW (sW (sW (sW (sW (sW (sW (sW (sW wx w.heap.size 0 (.slice pa p.addrs.length pc)) w.heap.size 1 (iV p.low)) w.heap.size 2 (iV p.high)) w.heap.size 3 (iV p.most)) w.heap.size 4 (iV p.filter)) w.heap.size 5 (iV p.lv.udp)) w.heap.size 6 (iV p.lv.echo)) w.heap.size 7 (iV p.lv.opening)) w.heap.size 8 (iV p.lv.opn)) w.heap.size 9 (iV p.lv.closing)) (w.heap.size+1) 0 (.slice a x.binds.length c)).setCell ⟨w.heap.size+1,1,none⟩ (.slice b x.sess.length d)):=by
 have hB:=h.dr.hB;obtain ⟨h1,h2,h3,h4⟩:=h.hP;have np:∀ g o,pa=some ⟨g,o,none⟩→g≠w.z:=fun g o e=>by have:=h.fp g o e; omega
 have np1:∀ g o,pa=some ⟨g,o,none⟩→g≠w.z+1:=fun g o e=>by have:=h.fp g o e; omega
 have na:x.binds=[]∨∀ g o,a=some ⟨g,o,none⟩→g≠w.z:=h.fa.imp id fun f g o e=>by have:=f g o e; omega
 have na1:x.binds=[]∨∀ g o,a=some ⟨g,o,none⟩→g≠w.z+1:=h.fa.imp id fun f g o e=>by have:=f g o e; omega
 have nb:x.sess=[]∨∀ g o,b=some ⟨g,o,none⟩→g≠w.z:=h.fb.imp id fun f g o e=>by have:=f g o e; omega
 have nb1:x.sess=[]∨∀ g o,b=some ⟨g,o,none⟩→g≠w.z+1:=h.fb.imp id fun f g o e=>by have:=f g o e; omega
 refine ⟨((((((((((((h.dr.set _ 0 _ lR).set _ 1 _ lR).set _ 2 _ lR).set _ 3 _ lR).set _ 4 _ lR).set _ 5 _ lR).set _ 6 _ lR).set _ 7 _ lR).set _ 8 _ lR).set _ 9 _ lR).set _ 0 _ (by omega)).set _ 1 _ (by omega)),((((((((((((h.r0.set 0 (.slice pa p.addrs.length pc)).set 1 (iV p.low)).set 2 (iV p.high)).set 3 (iV p.most)).set 4 (iV p.filter)).set 5 (iV p.lv.udp)).set 6 (iV p.lv.echo)).set 7 (iV p.lv.opening)).set 8 (iV p.lv.opn)).set 9 (iV p.lv.closing)).setOther (by omega) _).setOther (by omega) _),((((((((((((h.r1.setOther (by omega) _).setOther (by omega) _).setOther (by omega) _).setOther (by omega) _).setOther (by omega) _).setOther (by omega) _).setOther (by omega) _).setOther (by omega) _).setOther (by omega) _).setOther (by omega) _).set 0 (.slice a x.binds.length c)).set 1 (.slice b x.sess.length d)),((((((((((((h.pl.grown (grown_cell _ (w.z) 0 _) (.inr np)).grown (grown_cell _ (w.z) 1 _) (.inr np)).grown (grown_cell _ (w.z) 2 _) (.inr np)).grown (grown_cell _ (w.z) 3 _) (.inr np)).grown (grown_cell _ (w.z) 4 _) (.inr np)).grown (grown_cell _ (w.z) 5 _) (.inr np)).grown (grown_cell _ (w.z) 6 _) (.inr np)).grown (grown_cell _ (w.z) 7 _) (.inr np)).grown (grown_cell _ (w.z) 8 _) (.inr np)).grown (grown_cell _ (w.z) 9 _) (.inr np)).grown (grown_cell _ (w.z+1) 0 _) (.inr np1)).grown (grown_cell _ (w.z+1) 1 _) (.inr np1)),⟨((((((((((((h.bb.bd.grown (grown_cell _ (w.z) 0 _) na).grown (grown_cell _ (w.z) 1 _) na).grown (grown_cell _ (w.z) 2 _) na).grown (grown_cell _ (w.z) 3 _) na).grown (grown_cell _ (w.z) 4 _) na).grown (grown_cell _ (w.z) 5 _) na).grown (grown_cell _ (w.z) 6 _) na).grown (grown_cell _ (w.z) 7 _) na).grown (grown_cell _ (w.z) 8 _) na).grown (grown_cell _ (w.z) 9 _) na).grown (grown_cell _ (w.z+1) 0 _) na1).grown (grown_cell _ (w.z+1) 1 _) na1),((((((((((((h.bb.ss.grown (grown_cell _ (w.z) 0 _) nb).grown (grown_cell _ (w.z) 1 _) nb).grown (grown_cell _ (w.z) 2 _) nb).grown (grown_cell _ (w.z) 3 _) nb).grown (grown_cell _ (w.z) 4 _) nb).grown (grown_cell _ (w.z) 5 _) nb).grown (grown_cell _ (w.z) 6 _) nb).grown (grown_cell _ (w.z) 7 _) nb).grown (grown_cell _ (w.z) 8 _) nb).grown (grown_cell _ (w.z) 9 _) nb).grown (grown_cell _ (w.z+1) 0 _) nb1).grown (grown_cell _ (w.z+1) 1 _) nb1)⟩⟩
theorem own_mono {α:Type} {en:α→List Value} {n base m:Nat} {w:World} {a:Option Addr} {xs:List α} (h:SlOwn en n base w a xs) (hm:m≤base):SlOwn en n m w a xs:=by
 rcases h with h | ⟨g,rfl,h1,h2⟩
 ·exact .inl h
 ·exact .inr ⟨g,rfl,Nat.le_trans hm h1,h2⟩
end Go.Proofs.YtdkepkaflielhaaGreatDoor
