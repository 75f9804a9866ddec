import Derived.Test.YtjpdljkjalnmhaaGreatDoorMerged18
import Derived.Test.YtjpdljkjalnmhaaGreatDoorDrawTch
import Derived.Test.YtjpdljkjalnmhaaGreatDoorDrawSpo
import Derived.Deep.RegionHeld
set_option linter.unusedVariables false
set_option linter.unusedSimpArgs false
set_option maxRecDepth 100000
set_option maxHeartbeats 8000000
namespace Go.Proofs.YtjpdljkjalnmhaaGreatDoor
open Go.RowKit Go.PlainAid
structure BS (w:World) (B:Nat) (sa:Option Addr) (len cap:Nat) (size:Int) (P X base:Nat) (pa:Option Addr) (pc:Nat) (p:Pl) (a b:Option Addr) (c d:Nat) (x:Bb) (wx:World):Prop where
 dr:Dr w B sa len cap size wx
 r0:HoldsL wx w.heap.size plZ0
 r1:HoldsL wx (w.heap.size+1) [.slice none 0 0,.slice none 0 0]
 bp:HoldsL wx P (plL pa pc p)
 bx:HoldsL wx X [.slice a x.binds.length c,.slice b x.sess.length d]
 pl:SlIs strL1 1 wx pa p.addrs
 bb:BbIs wx a b x
 fp:∀ g o,pa=some ⟨g,o,none⟩→w.heap.size+2≤g∧g < P
 fa:x.binds=[]∨∀ g o,a=some ⟨g,o,none⟩→base≤g
 fb:x.sess=[]∨∀ g o,b=some ⟨g,o,none⟩→base≤g
 hP:w.heap.size+2≤P∧P < X∧X < base∧base≤wx.heap.size
section
variable {w wx wy:World} {B:Nat} {sa:Option Addr} {len cap:Nat} {size:Int} {P X base:Nat} {pa:Option Addr} {pc:Nat} {p:Pl} {a b:Option Addr} {c d:Nat} {x:Bb}
theorem BS.draw (h:BS w B sa len cap size P X base pa pc p a b c d x wx) (hs:Src wy B sa len cap size) (hg:wx.grownBy wy (some B)):BS w B sa len cap size P X base pa pc p a b c d x wy:=by
 have hB:=h.dr.hB;obtain ⟨h1,h2,h3,h4⟩:=h.hP;refine ⟨h.dr.draw hs hg,h.r0.grown (by simp [plZ0]) hg (by simp; omega),h.r1.grown (by simp) hg (by simp; omega),h.bp.grown (by simp [plL]) hg (by simp; omega),h.bx.grown (by simp) hg (by simp; omega),h.pl.grown hg (.inr fun g o e=>?_),⟨h.bb.bd.grown hg (h.fa.imp id fun f g o e=>?_),h.bb.ss.grown hg (h.fb.imp id fun f g o e=>?_)⟩,h.fp,h.fa,h.fb,h1,h2,h3,Nat.le_trans h4 hg.size⟩
 ·have:=h.fp g o e; omega
 ·have:=f g o e; omega
 ·have:=f g o e; omega
theorem BS.below (h:BS w B sa len cap size P X base pa pc p a b c d x wx) (hb:Below wx.heap.size wx wy):BS w B sa len cap size P X base pa pc p a b c d x wy :=
 ⟨h.dr.below hb,h.r0.kept (by simp [plZ0]) hb,h.r1.kept (by simp) hb,h.bp.kept (by simp [plL]) hb,h.bx.kept (by simp) hb,h.pl.below hb,h.bb.below hb,h.fp,h.fa,h.fb,h.hP.1,h.hP.2.1,h.hP.2.2.1,Nat.le_trans h.hP.2.2.2 hb.size⟩
theorem BS.other (h:BS w B sa len cap size P X base pa pc p a b c d x wx) (Y j:Nat) (v:Value) (hY:base≤Y) (ha:x.binds=[]∨∀ g o,a=some ⟨g,o,none⟩→g≠Y) (hb:x.sess=[]∨∀ g o,b=some ⟨g,o,none⟩→g≠Y):BS w B sa len cap size P X base pa pc p a b c d x (wx.setCell ⟨Y,j,none⟩ v):=by
 have hB:=h.dr.hB;obtain ⟨h1,h2,h3,h4⟩:=h.hP;have hg:=grown_cell wx Y j v;refine ⟨h.dr.set Y j v (by omega),h.r0.setOther (by omega) v,h.r1.setOther (by omega) v,h.bp.setOther (by omega) v,h.bx.setOther (by omega) v,h.pl.grown hg (.inr fun g o e=>?_),⟨h.bb.bd.grown hg ha,h.bb.ss.grown hg hb⟩,h.fp,h.fa,h.fb,h1,h2,h3,Nat.le_trans h4 hg.size⟩;have:=h.fp g o e; omega
theorem BS.setX {a' b':Option Addr} {c' d':Nat} {y:Bb} (h:BS w B sa len cap size P X base pa pc p a b c d x wx) (hy:BbIs wx a' b' y) (fa':y.binds=[]∨∀ g o,a'=some ⟨g,o,none⟩→base≤g) (fb':y.sess=[]∨∀ g o,b'=some ⟨g,o,none⟩→base≤g) :
  BS w B sa len cap size P X base pa pc p a' b' c' d' y ((wx.setCell ⟨X,0,none⟩ (.slice a' y.binds.length c')).setCell ⟨X,1,none⟩ (.slice b' y.sess.length d')):=by
 have hB:=h.dr.hB;obtain ⟨h1,h2,h3,h4⟩:=h.hP;have g1:=grown_cell wx X 0 (.slice a' y.binds.length c');have g2:=grown_cell (wx.setCell ⟨X,0,none⟩ (.slice a' y.binds.length c')) X 1 (.slice b' y.sess.length d');have na:y.binds=[]∨∀ g o,a'=some ⟨g,o,none⟩→g≠X:=fa'.imp id fun f g o e=>by have:=f g o e; omega
 have nb:y.sess=[]∨∀ g o,b'=some ⟨g,o,none⟩→g≠X:=fb'.imp id fun f g o e=>by have:=f g o e; omega
 have np:∀ g o,pa=some ⟨g,o,none⟩→g≠X:=fun g o e=>by have:=h.fp g o e; omega
 exact ⟨(h.dr.set X 0 _ (by omega)).set X 1 _ (by omega),(h.r0.setOther (by omega) _).setOther (by omega) _,(h.r1.setOther (by omega) _).setOther (by omega) _,(h.bp.setOther (by omega) _).setOther (by omega) _,(h.bx.set 0 _).set 1 _,(h.pl.grown g1 (.inr np)).grown g2 (.inr np),⟨(hy.bd.grown g1 na).grown g2 na,(hy.ss.grown g1 nb).grown g2 nb⟩,h.fp,fa',fb',h1,h2,h3,Nat.le_trans h4 (Nat.le_trans g1.size g2.size)⟩
end
def XTc:Value→World→Prop:=fun v _=>∃ t,v=tcC t∧TcDr t
theorem st_XTc {B:Nat}:StableX (EB B) XTc:=fun _ _ _ h _=>h
theorem own_off {α:Type} {en:α→List Value} {n base:Nat} {w:World} {a:Option Addr} {xs:List α} (h:SlOwn en n base w a xs):xs=[]∨∀ g o,a=some ⟨g,o,none⟩→base≤g:=by
 rcases h with h | ⟨g,rfl,h1,h2⟩
 ·exact .inl h
 ·exact .inr fun g' o e=>by injection e with e; injection e with e1 e2; omega
theorem own_box {α:Type} {en:α→List Value} {n base Y:Nat} {w:World} {a:Option Addr} {xs:List α} {cs:List Value} {y:Option Addr} {m c:Nat} (h:SlOwn en n base w a xs) (hn:∀ q,∃ k l,en q=.int .i64 k::l) (hY:HoldsL w Y (.slice y m c::cs)):xs=[]∨∀ g o,a=some ⟨g,o,none⟩→g≠Y:=by
 rcases h with h | ⟨g,rfl,h1,h2⟩
 ·exact .inl h
 ·by_cases he:xs=[]
  ·exact .inl he
  refine .inr fun g' o e=>?_
  injection e with e; injection e with e1 e2
  subst e1;intro e3;subst e3;have hp:0 < xs.length:=List.length_pos_iff.2 he;obtain ⟨k,l,hk⟩:=hn xs[0];have h3:=h2.at0 0 hp hp 0 (.int .i64 k) (by rw [hk]; rfl);have h4:=hY.cell (j:=0) rfl;simp at h3;rw [h3] at h4;simp at h4
def XBo (base B:Nat) (p:Pl) (x:Bb) (now:Int):Value→World→Prop:=fun v w=>∃ t a b c d,v=boC a b c d (bibTouchV p x t now)∧B < base∧SlOwn bdL 5 base w a (bibTouchV p x t now).bib.binds∧SlOwn ssL 7 base w b (bibTouchV p x t now).bib.sess
theorem slown_EB {α:Type} {en:α→List Value} {n base B:Nat} {w w':World} {a:Option Addr} {xs:List α} (h:SlOwn en n base w a xs) (hB:B < base) (he:EB B w w'):SlOwn en n base w' a xs:=by
 rcases h with h | ⟨g,rfl,h1,h2⟩
 ·exact .inl h
 ·have hne:g≠B:=by omega
  have hb:w'.heap[g]?=w.heap[g]?:=he.block g h2.blk (by simp; exact hne);have hc:∀ j,w'.cell? ⟨g,j,none⟩=w.cell? ⟨g,j,none⟩:=fun j=>by unfold World.cell?; rw [show (⟨g,j,none⟩ : Addr).block=g from rfl,hb]
  exact .inr ⟨g,rfl,h1,Nat.lt_of_lt_of_le h2.blk he.size,fun i hi hk j v hv=>by rw [hc]; exact h2.at0 i hi hk j v hv,fun i hi=>by rw [hc]; exact h2.there i hi,fun i hi=>(World.frozen?_of_block (a:=⟨g,i,none⟩) hb).trans (h2.free i hi)⟩
theorem st_XBo {base B:Nat} {p:Pl} {x:Bb} {now:Int}:StableX (EB B) (XBo base B p x now):=fun v w w' ⟨t,a,b,c,d,h1,h2,h3,h4⟩ he=>⟨t,a,b,c,d,h1,h2,slown_EB h3 h2 he,slown_EB h4 h2 he⟩
def BibRet (w:World) (B:Nat) (sa:Option Addr) (len cap:Nat) (size:Int) (e:Ending) (w':World):Prop:=∃ pa pc p a b c d x now,e=.returned (.tuple #[plC pa pc p,bbC a b c d x,.int .i64 now])∧PlDr p∧p.addrs.length≤pc∧BbDr x∧0≤now∧now≤100∧SlIs strL1 1 w' pa p.addrs∧BbIs w' a b x∧(∀ g o,pa=some ⟨g,o,none⟩→w.heap.size≤g)∧(x.binds=[]∨∀ g o,a=some ⟨g,o,none⟩→w.heap.size≤g)∧(x.sess=[]∨∀ g o,b=some ⟨g,o,none⟩→w.heap.size≤g)∧Src w' B sa len cap size∧w.grownBy w' (some B)
structure FinS (w:World) (B:Nat) (sa:Option Addr) (len cap:Nat) (size:Int) (pa:Option Addr) (pc:Nat) (p:Pl) (a b:Option Addr) (c d:Nat) (x:Bb) (wx:World):Prop where
 dr:Dr w B sa len cap size wx
 r0:HoldsL wx w.heap.size (plL pa pc p)
 r1:HoldsL wx (w.heap.size+1) [.slice a x.binds.length c,.slice b x.sess.length d]
 pl:SlIs strL1 1 wx pa p.addrs
 bb:BbIs wx a b x
theorem FinS.drew {w wx:World} {B:Nat} {sa:Option Addr} {len cap:Nat} {size:Int} {pa:Option Addr} {pc:Nat} {p:Pl} {a b:Option Addr} {c d:Nat} {x:Bb} (h:FinS w B sa len cap size pa pc p a b c d x wx):FinS w B sa len cap size pa pc p a b c d x wx.drew:=⟨h.dr.below (Below.refl _ _).drew,h.r0.drew,h.r1.drew,h.pl.below (Below.refl _ _).drew,h.bb.below (Below.refl _ _).drew⟩
theorem BS.fin {w wx:World} {B:Nat} {sa:Option Addr} {len cap:Nat} {size:Int} {P X base:Nat} {pa:Option Addr} {pc:Nat} {p:Pl} {a b:Option Addr} {c d:Nat} {x:Bb} (h:BS w B sa len cap size P X base pa pc p a b c d x wx):FinS w B sa len cap size pa pc p a b c d x ((((((((((((wx.setCell ⟨w.heap.size,0,none⟩ (.slice pa p.addrs.length pc)).setCell ⟨w.heap.size,1,none⟩ (.int .i64 p.low)).setCell ⟨w.heap.size,2,none⟩ (.int .i64 p.high)).setCell ⟨w.heap.size,3,none⟩ (.int .i64 p.most)).setCell ⟨w.heap.size,4,none⟩ (.int .i64 p.filter)).setCell ⟨w.heap.size,5,none⟩ (.int .i64 p.lv.udp)).setCell ⟨w.heap.size,6,none⟩ (.int .i64 p.lv.echo)).setCell ⟨w.heap.size,7,none⟩ (.int .i64 p.lv.opening)).setCell ⟨w.heap.size,8,none⟩ (.int .i64 p.lv.opn)).setCell ⟨w.heap.size,9,none⟩ (.int .i64 p.lv.closing)).setCell ⟨w.heap.size+1,0,none⟩ (.slice a x.binds.length c)).setCell ⟨w.heap.size+1,1,none⟩ (.slice b x.sess.length d)):=by
 have hB:=h.dr.hB;obtain ⟨h1,h2,h3,h4⟩:=h.hP;have np:∀ g o,pa=some ⟨g,o,none⟩→g≠w.heap.size:=fun g o e=>by have:=h.fp g o e; omega
 have np1:∀ g o,pa=some ⟨g,o,none⟩→g≠w.heap.size+1:=fun g o e=>by have:=h.fp g o e; omega
 have na:x.binds=[]∨∀ g o,a=some ⟨g,o,none⟩→g≠w.heap.size:=h.fa.imp id fun f g o e=>by have:=f g o e; omega
 have na1:x.binds=[]∨∀ g o,a=some ⟨g,o,none⟩→g≠w.heap.size+1:=h.fa.imp id fun f g o e=>by have:=f g o e; omega
 have nb:x.sess=[]∨∀ g o,b=some ⟨g,o,none⟩→g≠w.heap.size:=h.fb.imp id fun f g o e=>by have:=f g o e; omega
 have nb1:x.sess=[]∨∀ g o,b=some ⟨g,o,none⟩→g≠w.heap.size+1:=h.fb.imp id fun f g o e=>by have:=f g o e; omega
 refine ⟨((((((((((((h.dr.set _ 0 _ (Nat.le_refl _)).set _ 1 _ (Nat.le_refl _)).set _ 2 _ (Nat.le_refl _)).set _ 3 _ (Nat.le_refl _)).set _ 4 _ (Nat.le_refl _)).set _ 5 _ (Nat.le_refl _)).set _ 6 _ (Nat.le_refl _)).set _ 7 _ (Nat.le_refl _)).set _ 8 _ (Nat.le_refl _)).set _ 9 _ (Nat.le_refl _)).set _ 0 _ (by omega)).set _ 1 _ (by omega)),((((((((((((h.r0.set 0 (.slice pa p.addrs.length pc)).set 1 (.int .i64 p.low)).set 2 (.int .i64 p.high)).set 3 (.int .i64 p.most)).set 4 (.int .i64 p.filter)).set 5 (.int .i64 p.lv.udp)).set 6 (.int .i64 p.lv.echo)).set 7 (.int .i64 p.lv.opening)).set 8 (.int .i64 p.lv.opn)).set 9 (.int .i64 p.lv.closing)).setOther (by omega) _).setOther (by omega) _),((((((((((((h.r1.setOther (by omega) _).setOther (by omega) _).setOther (by omega) _).setOther (by omega) _).setOther (by omega) _).setOther (by omega) _).setOther (by omega) _).setOther (by omega) _).setOther (by omega) _).setOther (by omega) _).set 0 (.slice a x.binds.length c)).set 1 (.slice b x.sess.length d)),((((((((((((h.pl.grown (grown_cell _ (w.heap.size) 0 _) (.inr np)).grown (grown_cell _ (w.heap.size) 1 _) (.inr np)).grown (grown_cell _ (w.heap.size) 2 _) (.inr np)).grown (grown_cell _ (w.heap.size) 3 _) (.inr np)).grown (grown_cell _ (w.heap.size) 4 _) (.inr np)).grown (grown_cell _ (w.heap.size) 5 _) (.inr np)).grown (grown_cell _ (w.heap.size) 6 _) (.inr np)).grown (grown_cell _ (w.heap.size) 7 _) (.inr np)).grown (grown_cell _ (w.heap.size) 8 _) (.inr np)).grown (grown_cell _ (w.heap.size) 9 _) (.inr np)).grown (grown_cell _ (w.heap.size+1) 0 _) (.inr np1)).grown (grown_cell _ (w.heap.size+1) 1 _) (.inr np1)),⟨((((((((((((h.bb.bd.grown (grown_cell _ (w.heap.size) 0 _) na).grown (grown_cell _ (w.heap.size) 1 _) na).grown (grown_cell _ (w.heap.size) 2 _) na).grown (grown_cell _ (w.heap.size) 3 _) na).grown (grown_cell _ (w.heap.size) 4 _) na).grown (grown_cell _ (w.heap.size) 5 _) na).grown (grown_cell _ (w.heap.size) 6 _) na).grown (grown_cell _ (w.heap.size) 7 _) na).grown (grown_cell _ (w.heap.size) 8 _) na).grown (grown_cell _ (w.heap.size) 9 _) na).grown (grown_cell _ (w.heap.size+1) 0 _) na1).grown (grown_cell _ (w.heap.size+1) 1 _) na1),((((((((((((h.bb.ss.grown (grown_cell _ (w.heap.size) 0 _) nb).grown (grown_cell _ (w.heap.size) 1 _) nb).grown (grown_cell _ (w.heap.size) 2 _) nb).grown (grown_cell _ (w.heap.size) 3 _) nb).grown (grown_cell _ (w.heap.size) 4 _) nb).grown (grown_cell _ (w.heap.size) 5 _) nb).grown (grown_cell _ (w.heap.size) 6 _) nb).grown (grown_cell _ (w.heap.size) 7 _) nb).grown (grown_cell _ (w.heap.size) 8 _) nb).grown (grown_cell _ (w.heap.size) 9 _) nb).grown (grown_cell _ (w.heap.size+1) 0 _) nb1).grown (grown_cell _ (w.heap.size+1) 1 _) nb1)⟩⟩
theorem own_mono {α:Type} {en:α→List Value} {n base m:Nat} {w:World} {a:Option Addr} {xs:List α} (h:SlOwn en n base w a xs) (hm:m≤base):SlOwn en n m w a xs:=by
 rcases h with h | ⟨g,rfl,h1,h2⟩
 ·exact .inl h
 ·exact .inr ⟨g,rfl,Nat.le_trans hm h1,h2⟩
structure TS (w:World) (B:Nat) (sa:Option Addr) (len cap:Nat) (size:Int) (R0 R1 P X:Nat) (pa:Option Addr) (pc:Nat) (p:Pl) (a b:Option Addr) (c d:Nat) (x:Bb) (wx:World):Prop where
 dr:Dr w B sa len cap size wx
 r0:HoldsL wx R0 plZ0
 r1:HoldsL wx R1 [.slice none 0 0,.slice none 0 0]
 bp:HoldsL wx P (plL pa pc p)
 bx:HoldsL wx X [.slice a x.binds.length c,.slice b x.sess.length d]
 pl:SlIs strL1 1 wx pa p.addrs
 bb:BbIs wx a b x
 fp:∀ g o,pa=some ⟨g,o,none⟩→w.heap.size≤g
 fa:x.binds=[]∨∀ g o,a=some ⟨g,o,none⟩→w.heap.size≤g
 fb:x.sess=[]∨∀ g o,b=some ⟨g,o,none⟩→w.heap.size≤g
 hP:R0 < R1∧R1 < B∧w.heap.size≤P∧P < X
theorem TS.draw {w wx:World} {B:Nat} {sa:Option Addr} {len cap:Nat} {size:Int} {R0 R1 P X:Nat} {pa:Option Addr} {pc:Nat} {p:Pl} {a b:Option Addr} {c d:Nat} {x:Bb} {wy:World} (h:TS w B sa len cap size R0 R1 P X pa pc p a b c d x wx) (hs:Src wy B sa len cap size) (hg:wx.grownBy wy (some B)):TS w B sa len cap size R0 R1 P X pa pc p a b c d x wy:=by
 have hB:=h.dr.hB;obtain ⟨h1,h2,h3,h4⟩:=h.hP;refine ⟨h.dr.draw hs hg,h.r0.grown (by simp [plZ0]) hg (by simp; omega),h.r1.grown (by simp) hg (by simp; omega),h.bp.grown (by simp [plL]) hg (by simp; omega),h.bx.grown (by simp) hg (by simp; omega),h.pl.grown hg (.inr fun g o e=>?_),⟨h.bb.bd.grown hg (h.fa.imp id fun f g o e=>?_),h.bb.ss.grown hg (h.fb.imp id fun f g o e=>?_)⟩,h.fp,h.fa,h.fb,h1,h2,h3,h4⟩
 ·have:=h.fp g o e; omega
 ·have:=f g o e; omega
 ·have:=f g o e; omega
theorem TS.below {w wx:World} {B:Nat} {sa:Option Addr} {len cap:Nat} {size:Int} {R0 R1 P X:Nat} {pa:Option Addr} {pc:Nat} {p:Pl} {a b:Option Addr} {c d:Nat} {x:Bb} {wy:World} (h:TS w B sa len cap size R0 R1 P X pa pc p a b c d x wx) (hb:Below wx.heap.size wx wy):TS w B sa len cap size R0 R1 P X pa pc p a b c d x wy :=
 ⟨h.dr.below hb,h.r0.kept (by simp [plZ0]) hb,h.r1.kept (by simp) hb,h.bp.kept (by simp [plL]) hb,h.bx.kept (by simp) hb,h.pl.below hb,h.bb.below hb,h.fp,h.fa,h.fb,h.hP⟩
structure TF (R0 R1:Nat) (pa:Option Addr) (pc:Nat) (p:Pl) (a b:Option Addr) (c d:Nat) (x:Bb) (wx:World):Prop where
 r0:HoldsL wx R0 (plL pa pc p)
 r1:HoldsL wx R1 [.slice a x.binds.length c,.slice b x.sess.length d]
 pl:SlIs strL1 1 wx pa p.addrs
 bb:BbIs wx a b x
theorem TF.below {R0 R1:Nat} {pa:Option Addr} {pc:Nat} {p:Pl} {a b:Option Addr} {c d:Nat} {x:Bb} {wx wy:World} (h:TF R0 R1 pa pc p a b c d x wx) (hb:Below wx.heap.size wx wy):TF R0 R1 pa pc p a b c d x wy:=⟨h.r0.kept (by simp [plL]) hb,h.r1.kept (by simp) hb,h.pl.below hb,h.bb.below hb⟩
theorem TS.fin {w wx:World} {B:Nat} {sa:Option Addr} {len cap:Nat} {size:Int} {R0 R1 P X:Nat} {pa:Option Addr} {pc:Nat} {p:Pl} {a b:Option Addr} {c d:Nat} {x:Bb} (h:TS w B sa len cap size R0 R1 P X pa pc p a b c d x wx):TF R0 R1 pa pc p a b c d x ((((((((((((wx.setCell ⟨R0,0,none⟩ (.slice pa p.addrs.length pc)).setCell ⟨R0,1,none⟩ (.int .i64 p.low)).setCell ⟨R0,2,none⟩ (.int .i64 p.high)).setCell ⟨R0,3,none⟩ (.int .i64 p.most)).setCell ⟨R0,4,none⟩ (.int .i64 p.filter)).setCell ⟨R0,5,none⟩ (.int .i64 p.lv.udp)).setCell ⟨R0,6,none⟩ (.int .i64 p.lv.echo)).setCell ⟨R0,7,none⟩ (.int .i64 p.lv.opening)).setCell ⟨R0,8,none⟩ (.int .i64 p.lv.opn)).setCell ⟨R0,9,none⟩ (.int .i64 p.lv.closing)).setCell ⟨R1,0,none⟩ (.slice a x.binds.length c)).setCell ⟨R1,1,none⟩ (.slice b x.sess.length d)):=by
 have hB:=h.dr.hB;obtain ⟨h1,h2,h3,h4⟩:=h.hP;have np:∀ g o,pa=some ⟨g,o,none⟩→g≠R0:=fun g o e=>by have:=h.fp g o e; omega
 have np1:∀ g o,pa=some ⟨g,o,none⟩→g≠R1:=fun g o e=>by have:=h.fp g o e; omega
 have na:x.binds=[]∨∀ g o,a=some ⟨g,o,none⟩→g≠R0:=h.fa.imp id fun f g o e=>by have:=f g o e; omega
 have na1:x.binds=[]∨∀ g o,a=some ⟨g,o,none⟩→g≠R1:=h.fa.imp id fun f g o e=>by have:=f g o e; omega
 have nb:x.sess=[]∨∀ g o,b=some ⟨g,o,none⟩→g≠R0:=h.fb.imp id fun f g o e=>by have:=f g o e; omega
 have nb1:x.sess=[]∨∀ g o,b=some ⟨g,o,none⟩→g≠R1:=h.fb.imp id fun f g o e=>by have:=f g o e; omega
 exact ⟨((((((((((((h.r0.set 0 (.slice pa p.addrs.length pc)).set 1 (.int .i64 p.low)).set 2 (.int .i64 p.high)).set 3 (.int .i64 p.most)).set 4 (.int .i64 p.filter)).set 5 (.int .i64 p.lv.udp)).set 6 (.int .i64 p.lv.echo)).set 7 (.int .i64 p.lv.opening)).set 8 (.int .i64 p.lv.opn)).set 9 (.int .i64 p.lv.closing)).setOther (by omega) _).setOther (by omega) _),((((((((((((h.r1.setOther (by omega) _).setOther (by omega) _).setOther (by omega) _).setOther (by omega) _).setOther (by omega) _).setOther (by omega) _).setOther (by omega) _).setOther (by omega) _).setOther (by omega) _).setOther (by omega) _).set 0 (.slice a x.binds.length c)).set 1 (.slice b x.sess.length d)),((((((((((((h.pl.grown (grown_cell _ R0 0 _) (.inr np)).grown (grown_cell _ R0 1 _) (.inr np)).grown (grown_cell _ R0 2 _) (.inr np)).grown (grown_cell _ R0 3 _) (.inr np)).grown (grown_cell _ R0 4 _) (.inr np)).grown (grown_cell _ R0 5 _) (.inr np)).grown (grown_cell _ R0 6 _) (.inr np)).grown (grown_cell _ R0 7 _) (.inr np)).grown (grown_cell _ R0 8 _) (.inr np)).grown (grown_cell _ R0 9 _) (.inr np)).grown (grown_cell _ R1 0 _) (.inr np1)).grown (grown_cell _ R1 1 _) (.inr np1)),⟨((((((((((((h.bb.bd.grown (grown_cell _ R0 0 _) na).grown (grown_cell _ R0 1 _) na).grown (grown_cell _ R0 2 _) na).grown (grown_cell _ R0 3 _) na).grown (grown_cell _ R0 4 _) na).grown (grown_cell _ R0 5 _) na).grown (grown_cell _ R0 6 _) na).grown (grown_cell _ R0 7 _) na).grown (grown_cell _ R0 8 _) na).grown (grown_cell _ R0 9 _) na).grown (grown_cell _ R1 0 _) na1).grown (grown_cell _ R1 1 _) na1),((((((((((((h.bb.ss.grown (grown_cell _ R0 0 _) nb).grown (grown_cell _ R0 1 _) nb).grown (grown_cell _ R0 2 _) nb).grown (grown_cell _ R0 3 _) nb).grown (grown_cell _ R0 4 _) nb).grown (grown_cell _ R0 5 _) nb).grown (grown_cell _ R0 6 _) nb).grown (grown_cell _ R0 7 _) nb).grown (grown_cell _ R0 8 _) nb).grown (grown_cell _ R0 9 _) nb).grown (grown_cell _ R1 0 _) nb1).grown (grown_cell _ R1 1 _) nb1)⟩⟩
end Go.Proofs.YtjpdljkjalnmhaaGreatDoor
