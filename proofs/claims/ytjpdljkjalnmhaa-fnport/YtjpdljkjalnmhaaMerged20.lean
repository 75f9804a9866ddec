import Derived.Test.YtjpdljkjalnmhaaDrawBibS
import Derived.Deep.RegionHeld
set_option linter.unusedVariables false
set_option linter.unusedSimpArgs false
set_option maxRecDepth 100000
set_option maxHeartbeats 8000000
namespace Go.Proofs.Ytjpdljkjalnmhaa
open Go.RowKit Go.PlainAid
def BibRet (w:World) (B:Nat) (sa:Option Addr) (len cap:Nat) (size:Int) (e:Ending) (w':World):Prop:=∃ pa pc p a b c d x now,e=.returned (.tuple #[plC pa pc p,bbC a b c d x,.int .i64 now])∧PlDr p∧p.addrs.length≤pc∧BbDr x∧0≤now∧now≤100∧SlIs strL1 1 w' pa p.addrs∧BbIs w' a b x∧(∀ g o,pa=some ⟨g,o,none⟩→w.heap.size≤g)∧(x.binds=[]∨∀ g o,a=some ⟨g,o,none⟩→w.heap.size≤g)∧(x.sess=[]∨∀ g o,b=some ⟨g,o,none⟩→w.heap.size≤g)∧Src w' B sa len cap size∧w.grownBy w' (some B)
structure FinS (w:World) (B:Nat) (sa:Option Addr) (len cap:Nat) (size:Int) (pa:Option Addr) (pc:Nat) (p:Pl) (a b:Option Addr) (c d:Nat) (x:Bb) (wx:World):Prop where
 dr:Dr w B sa len cap size wx
 r0:HoldsL wx w.heap.size (plL pa pc p)
 r1:HoldsL wx (w.heap.size+1) [.slice a x.binds.length c,.slice b x.sess.length d]
 pl:SlIs strL1 1 wx pa p.addrs
 bb:BbIs wx a b x
theorem FinS.drew {w wx:World} {B:Nat} {sa:Option Addr} {len cap:Nat} {size:Int} {pa:Option Addr} {pc:Nat} {p:Pl} {a b:Option Addr} {c d:Nat} {x:Bb} (h:FinS w B sa len cap size pa pc p a b c d x wx):FinS w B sa len cap size pa pc p a b c d x wx.drew:=⟨h.dr.below (Below.refl _ _).drew,h.r0.drew,h.r1.drew,h.pl.below (Below.refl _ _).drew,h.bb.below (Below.refl _ _).drew⟩
theorem BS.fin {w wx:World} {B:Nat} {sa:Option Addr} {len cap:Nat} {size:Int} {P X base:Nat} {pa:Option Addr} {pc:Nat} {p:Pl} {a b:Option Addr} {c d:Nat} {x:Bb} (h:BS w B sa len cap size P X base pa pc p a b c d x wx):FinS w B sa len cap size pa pc p a b c d x ((((((((((((wx.setCell ⟨w.heap.size,0,none⟩ (.slice pa p.addrs.length pc)).setCell ⟨w.heap.size,1,none⟩ (.int .i64 p.low)).setCell ⟨w.heap.size,2,none⟩ (.int .i64 p.high)).setCell ⟨w.heap.size,3,none⟩ (.int .i64 p.most)).setCell ⟨w.heap.size,4,none⟩ (.int .i64 p.filter)).setCell ⟨w.heap.size,5,none⟩ (.int .i64 p.lv.udp)).setCell ⟨w.heap.size,6,none⟩ (.int .i64 p.lv.echo)).setCell ⟨w.heap.size,7,none⟩ (.int .i64 p.lv.opening)).setCell ⟨w.heap.size,8,none⟩ (.int .i64 p.lv.opn)).setCell ⟨w.heap.size,9,none⟩ (.int .i64 p.lv.closing)).setCell ⟨w.heap.size+1,0,none⟩ (.slice a x.binds.length c)).setCell ⟨w.heap.size+1,1,none⟩ (.slice b x.sess.length d)):=by
 have hB:=h.dr.hB;obtain ⟨h1,h2,h3,h4⟩:=h.hP;have np:∀ g o,pa=some ⟨g,o,none⟩→g≠w.heap.size:=fun g o e=>by have:=h.fp g o e; omega
 have np1:∀ g o,pa=some ⟨g,o,none⟩→g≠w.heap.size+1:=fun g o e=>by have:=h.fp g o e; omega
 have na:x.binds=[]∨∀ g o,a=some ⟨g,o,none⟩→g≠w.heap.size:=h.fa.imp id fun f g o e=>by have:=f g o e; omega
 have na1:x.binds=[]∨∀ g o,a=some ⟨g,o,none⟩→g≠w.heap.size+1:=h.fa.imp id fun f g o e=>by have:=f g o e; omega
 have nb:x.sess=[]∨∀ g o,b=some ⟨g,o,none⟩→g≠w.heap.size:=h.fb.imp id fun f g o e=>by have:=f g o e; omega
 have nb1:x.sess=[]∨∀ g o,b=some ⟨g,o,none⟩→g≠w.heap.size+1:=h.fb.imp id fun f g o e=>by have:=f g o e; omega
 refine ⟨((((((((((((h.dr.set _ 0 _ (Nat.le_refl _)).set _ 1 _ (Nat.le_refl _)).set _ 2 _ (Nat.le_refl _)).set _ 3 _ (Nat.le_refl _)).set _ 4 _ (Nat.le_refl _)).set _ 5 _ (Nat.le_refl _)).set _ 6 _ (Nat.le_refl _)).set _ 7 _ (Nat.le_refl _)).set _ 8 _ (Nat.le_refl _)).set _ 9 _ (Nat.le_refl _)).set _ 0 _ (by omega)).set _ 1 _ (by omega)),((((((((((((h.r0.set 0 (.slice pa p.addrs.length pc)).set 1 (.int .i64 p.low)).set 2 (.int .i64 p.high)).set 3 (.int .i64 p.most)).set 4 (.int .i64 p.filter)).set 5 (.int .i64 p.lv.udp)).set 6 (.int .i64 p.lv.echo)).set 7 (.int .i64 p.lv.opening)).set 8 (.int .i64 p.lv.opn)).set 9 (.int .i64 p.lv.closing)).setOther (by omega) _).setOther (by omega) _),((((((((((((h.r1.setOther (by omega) _).setOther (by omega) _).setOther (by omega) _).setOther (by omega) _).setOther (by omega) _).setOther (by omega) _).setOther (by omega) _).setOther (by omega) _).setOther (by omega) _).setOther (by omega) _).set 0 (.slice a x.binds.length c)).set 1 (.slice b x.sess.length d)),((((((((((((h.pl.grown (grown_cell _ (w.heap.size) 0 _) (.inr np)).grown (grown_cell _ (w.heap.size) 1 _) (.inr np)).grown (grown_cell _ (w.heap.size) 2 _) (.inr np)).grown (grown_cell _ (w.heap.size) 3 _) (.inr np)).grown (grown_cell _ (w.heap.size) 4 _) (.inr np)).grown (grown_cell _ (w.heap.size) 5 _) (.inr np)).grown (grown_cell _ (w.heap.size) 6 _) (.inr np)).grown (grown_cell _ (w.heap.size) 7 _) (.inr np)).grown (grown_cell _ (w.heap.size) 8 _) (.inr np)).grown (grown_cell _ (w.heap.size) 9 _) (.inr np)).grown (grown_cell _ (w.heap.size+1) 0 _) (.inr np1)).grown (grown_cell _ (w.heap.size+1) 1 _) (.inr np1)),⟨((((((((((((h.bb.bd.grown (grown_cell _ (w.heap.size) 0 _) na).grown (grown_cell _ (w.heap.size) 1 _) na).grown (grown_cell _ (w.heap.size) 2 _) na).grown (grown_cell _ (w.heap.size) 3 _) na).grown (grown_cell _ (w.heap.size) 4 _) na).grown (grown_cell _ (w.heap.size) 5 _) na).grown (grown_cell _ (w.heap.size) 6 _) na).grown (grown_cell _ (w.heap.size) 7 _) na).grown (grown_cell _ (w.heap.size) 8 _) na).grown (grown_cell _ (w.heap.size) 9 _) na).grown (grown_cell _ (w.heap.size+1) 0 _) na1).grown (grown_cell _ (w.heap.size+1) 1 _) na1),((((((((((((h.bb.ss.grown (grown_cell _ (w.heap.size) 0 _) nb).grown (grown_cell _ (w.heap.size) 1 _) nb).grown (grown_cell _ (w.heap.size) 2 _) nb).grown (grown_cell _ (w.heap.size) 3 _) nb).grown (grown_cell _ (w.heap.size) 4 _) nb).grown (grown_cell _ (w.heap.size) 5 _) nb).grown (grown_cell _ (w.heap.size) 6 _) nb).grown (grown_cell _ (w.heap.size) 7 _) nb).grown (grown_cell _ (w.heap.size) 8 _) nb).grown (grown_cell _ (w.heap.size) 9 _) nb).grown (grown_cell _ (w.heap.size+1) 0 _) nb1).grown (grown_cell _ (w.heap.size+1) 1 _) nb1)⟩⟩
theorem own_mono {α:Type} {en:α→List Value} {n base m:Nat} {w:World} {a:Option Addr} {xs:List α} (h:SlOwn en n base w a xs) (hm:m≤base):SlOwn en n m w a xs:=by
 rcases h with h | ⟨g,rfl,h1,h2⟩
 ·exact .inl h
 ·exact .inr ⟨g,rfl,Nat.le_trans hm h1,h2⟩
structure TS (w:World) (B:Nat) (sa:Option Addr) (len cap:Nat) (size:Int) (R0 R1 P X:Nat) (pa:Option Addr) (pc:Nat) (p:Pl) (a b:Option Addr) (c d:Nat) (x:Bb) (wx:World):Prop where
 dr:Dr w B sa len cap size wx
 r0:HoldsL wx R0 plZ0
 r1:HoldsL wx R1 [.slice none 0 0,.slice none 0 0]
 bp:HoldsL wx P (plL pa pc p)
 bx:HoldsL wx X [.slice a x.binds.length c,.slice b x.sess.length d]
 pl:SlIs strL1 1 wx pa p.addrs
 bb:BbIs wx a b x
 fp:∀ g o,pa=some ⟨g,o,none⟩→w.heap.size≤g
 fa:x.binds=[]∨∀ g o,a=some ⟨g,o,none⟩→w.heap.size≤g
 fb:x.sess=[]∨∀ g o,b=some ⟨g,o,none⟩→w.heap.size≤g
 hP:R0 < R1∧R1 < B∧w.heap.size≤P∧P < X
theorem TS.draw {w wx:World} {B:Nat} {sa:Option Addr} {len cap:Nat} {size:Int} {R0 R1 P X:Nat} {pa:Option Addr} {pc:Nat} {p:Pl} {a b:Option Addr} {c d:Nat} {x:Bb} {wy:World} (h:TS w B sa len cap size R0 R1 P X pa pc p a b c d x wx) (hs:Src wy B sa len cap size) (hg:wx.grownBy wy (some B)):TS w B sa len cap size R0 R1 P X pa pc p a b c d x wy:=by
 have hB:=h.dr.hB;obtain ⟨h1,h2,h3,h4⟩:=h.hP;refine ⟨h.dr.draw hs hg,h.r0.grown (by simp [plZ0]) hg (by simp; omega),h.r1.grown (by simp) hg (by simp; omega),h.bp.grown (by simp [plL]) hg (by simp; omega),h.bx.grown (by simp) hg (by simp; omega),h.pl.grown hg (.inr fun g o e=>?_),⟨h.bb.bd.grown hg (h.fa.imp id fun f g o e=>?_),h.bb.ss.grown hg (h.fb.imp id fun f g o e=>?_)⟩,h.fp,h.fa,h.fb,h1,h2,h3,h4⟩
 ·have:=h.fp g o e; omega
 ·have:=f g o e; omega
 ·have:=f g o e; omega
theorem TS.below {w wx:World} {B:Nat} {sa:Option Addr} {len cap:Nat} {size:Int} {R0 R1 P X:Nat} {pa:Option Addr} {pc:Nat} {p:Pl} {a b:Option Addr} {c d:Nat} {x:Bb} {wy:World} (h:TS w B sa len cap size R0 R1 P X pa pc p a b c d x wx) (hb:Below wx.heap.size wx wy):TS w B sa len cap size R0 R1 P X pa pc p a b c d x wy :=
 ⟨h.dr.below hb,h.r0.kept (by simp [plZ0]) hb,h.r1.kept (by simp) hb,h.bp.kept (by simp [plL]) hb,h.bx.kept (by simp) hb,h.pl.below hb,h.bb.below hb,h.fp,h.fa,h.fb,h.hP⟩
structure TF (R0 R1:Nat) (pa:Option Addr) (pc:Nat) (p:Pl) (a b:Option Addr) (c d:Nat) (x:Bb) (wx:World):Prop where
 r0:HoldsL wx R0 (plL pa pc p)
 r1:HoldsL wx R1 [.slice a x.binds.length c,.slice b x.sess.length d]
 pl:SlIs strL1 1 wx pa p.addrs
 bb:BbIs wx a b x
theorem TF.below {R0 R1:Nat} {pa:Option Addr} {pc:Nat} {p:Pl} {a b:Option Addr} {c d:Nat} {x:Bb} {wx wy:World} (h:TF R0 R1 pa pc p a b c d x wx) (hb:Below wx.heap.size wx wy):TF R0 R1 pa pc p a b c d x wy:=⟨h.r0.kept (by simp [plL]) hb,h.r1.kept (by simp) hb,h.pl.below hb,h.bb.below hb⟩
theorem TS.fin {w wx:World} {B:Nat} {sa:Option Addr} {len cap:Nat} {size:Int} {R0 R1 P X:Nat} {pa:Option Addr} {pc:Nat} {p:Pl} {a b:Option Addr} {c d:Nat} {x:Bb} (h:TS w B sa len cap size R0 R1 P X pa pc p a b c d x wx):TF R0 R1 pa pc p a b c d x ((((((((((((wx.setCell ⟨R0,0,none⟩ (.slice pa p.addrs.length pc)).setCell ⟨R0,1,none⟩ (.int .i64 p.low)).setCell ⟨R0,2,none⟩ (.int .i64 p.high)).setCell ⟨R0,3,none⟩ (.int .i64 p.most)).setCell ⟨R0,4,none⟩ (.int .i64 p.filter)).setCell ⟨R0,5,none⟩ (.int .i64 p.lv.udp)).setCell ⟨R0,6,none⟩ (.int .i64 p.lv.echo)).setCell ⟨R0,7,none⟩ (.int .i64 p.lv.opening)).setCell ⟨R0,8,none⟩ (.int .i64 p.lv.opn)).setCell ⟨R0,9,none⟩ (.int .i64 p.lv.closing)).setCell ⟨R1,0,none⟩ (.slice a x.binds.length c)).setCell ⟨R1,1,none⟩ (.slice b x.sess.length d)):=by
 have hB:=h.dr.hB;obtain ⟨h1,h2,h3,h4⟩:=h.hP;have np:∀ g o,pa=some ⟨g,o,none⟩→g≠R0:=fun g o e=>by have:=h.fp g o e; omega
 have np1:∀ g o,pa=some ⟨g,o,none⟩→g≠R1:=fun g o e=>by have:=h.fp g o e; omega
 have na:x.binds=[]∨∀ g o,a=some ⟨g,o,none⟩→g≠R0:=h.fa.imp id fun f g o e=>by have:=f g o e; omega
 have na1:x.binds=[]∨∀ g o,a=some ⟨g,o,none⟩→g≠R1:=h.fa.imp id fun f g o e=>by have:=f g o e; omega
 have nb:x.sess=[]∨∀ g o,b=some ⟨g,o,none⟩→g≠R0:=h.fb.imp id fun f g o e=>by have:=f g o e; omega
 have nb1:x.sess=[]∨∀ g o,b=some ⟨g,o,none⟩→g≠R1:=h.fb.imp id fun f g o e=>by have:=f g o e; omega
 exact ⟨((((((((((((h.r0.set 0 (.slice pa p.addrs.length pc)).set 1 (.int .i64 p.low)).set 2 (.int .i64 p.high)).set 3 (.int .i64 p.most)).set 4 (.int .i64 p.filter)).set 5 (.int .i64 p.lv.udp)).set 6 (.int .i64 p.lv.echo)).set 7 (.int .i64 p.lv.opening)).set 8 (.int .i64 p.lv.opn)).set 9 (.int .i64 p.lv.closing)).setOther (by omega) _).setOther (by omega) _),((((((((((((h.r1.setOther (by omega) _).setOther (by omega) _).setOther (by omega) _).setOther (by omega) _).setOther (by omega) _).setOther (by omega) _).setOther (by omega) _).setOther (by omega) _).setOther (by omega) _).setOther (by omega) _).set 0 (.slice a x.binds.length c)).set 1 (.slice b x.sess.length d)),((((((((((((h.pl.grown (grown_cell _ R0 0 _) (.inr np)).grown (grown_cell _ R0 1 _) (.inr np)).grown (grown_cell _ R0 2 _) (.inr np)).grown (grown_cell _ R0 3 _) (.inr np)).grown (grown_cell _ R0 4 _) (.inr np)).grown (grown_cell _ R0 5 _) (.inr np)).grown (grown_cell _ R0 6 _) (.inr np)).grown (grown_cell _ R0 7 _) (.inr np)).grown (grown_cell _ R0 8 _) (.inr np)).grown (grown_cell _ R0 9 _) (.inr np)).grown (grown_cell _ R1 0 _) (.inr np1)).grown (grown_cell _ R1 1 _) (.inr np1)),⟨((((((((((((h.bb.bd.grown (grown_cell _ R0 0 _) na).grown (grown_cell _ R0 1 _) na).grown (grown_cell _ R0 2 _) na).grown (grown_cell _ R0 3 _) na).grown (grown_cell _ R0 4 _) na).grown (grown_cell _ R0 5 _) na).grown (grown_cell _ R0 6 _) na).grown (grown_cell _ R0 7 _) na).grown (grown_cell _ R0 8 _) na).grown (grown_cell _ R0 9 _) na).grown (grown_cell _ R1 0 _) na1).grown (grown_cell _ R1 1 _) na1),((((((((((((h.bb.ss.grown (grown_cell _ R0 0 _) nb).grown (grown_cell _ R0 1 _) nb).grown (grown_cell _ R0 2 _) nb).grown (grown_cell _ R0 3 _) nb).grown (grown_cell _ R0 4 _) nb).grown (grown_cell _ R0 5 _) nb).grown (grown_cell _ R0 6 _) nb).grown (grown_cell _ R0 7 _) nb).grown (grown_cell _ R0 8 _) nb).grown (grown_cell _ R0 9 _) nb).grown (grown_cell _ R1 0 _) nb1).grown (grown_cell _ R1 1 _) nb1)⟩⟩
end Go.Proofs.Ytjpdljkjalnmhaa
