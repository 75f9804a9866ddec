import Derived.Test.YtdkepkaflielhaaGreatDoorAb
import Derived.Test.YtdkepkaflielhaaGreatDoorDrawBbM
import Derived.Test.YtdkepkaflielhaaGreatDoorDrawTch
import Derived.Test.YtdkepkaflielhaaGreatDoorDrawSpo
set_option linter.unusedVariables false
set_option linter.unusedSimpArgs false
set_option maxRecDepth 100000
set_option maxHeartbeats 8000000
namespace Go.Proofs.YtdkepkaflielhaaGreatDoor
open Go.RowKit Go.PlainAid
structure BS (w:World) (B:Nat) (sa:Option Addr) (len cap:Nat) (size:Int) (P X base:Nat) (pa:Option Addr) (pc:Nat) (p:Pl) (a b:Option Addr) (c d:Nat) (x:Bb) (wx:World):Prop where
 dr:Dr w B sa len cap size wx
 r0:HoldsL wx w.heap.size plZ0
 r1:HoldsL wx (w.heap.size+1) [.slice none 0 0,.slice none 0 0]
 bp:HoldsL wx P (plL pa pc p)
 bx:HoldsL wx X (BbV a c b d x)
 pl:SlIs strL1 1 wx pa p.addrs
 bb:BbIs wx a b x
 fp:∀ g o,pa=some ⟨g,o,none⟩→w.heap.size+2≤g∧g < P
 fa:x.binds=[]∨∀ g o,a=some ⟨g,o,none⟩→base≤g
 fb:x.sess=[]∨∀ g o,b=some ⟨g,o,none⟩→base≤g
 hP:w.heap.size+2≤P∧P < X∧X < base∧base≤wx.heap.size
section
variable {w wx wy:World} {B:Nat} {sa:Option Addr} {len cap:Nat} {size:Int} {P X base:Nat} {pa:Option Addr} {pc:Nat} {p:Pl} {a b:Option Addr} {c d:Nat} {x:Bb}
theorem BS.draw (h:BS w B sa len cap size P X base pa pc p a b c d x wx) (hs:Src wy B sa len cap size) (hg:wx.grownBy wy (some B)):BS w B sa len cap size P X base pa pc p a b c d x wy:=by
 have hB:=h.dr.hB;obtain ⟨h1,h2,h3,h4⟩:=h.hP;refine ⟨h.dr.draw hs hg,h.r0.grown (by simp [plZ0]) hg (by simp; omega),h.r1.grown (by simp) hg (by simp; omega),h.bp.grown (by simp [plL]) hg (by simp; omega),h.bx.grown (by simp) hg (by simp; omega),h.pl.grown hg (.inr fun g o e=>?_),⟨h.bb.bd.grown hg (h.fa.imp id fun f g o e=>?_),h.bb.ss.grown hg (h.fb.imp id fun f g o e=>?_)⟩,h.fp,h.fa,h.fb,h1,h2,h3,Nat.le_trans h4 hg.size⟩
 ·have:=h.fp g o e; omega
 ·have:=f g o e; omega
 ·have:=f g o e; omega
theorem BS.below (h:BS w B sa len cap size P X base pa pc p a b c d x wx) (hb:Below wx.heap.size wx wy):BS w B sa len cap size P X base pa pc p a b c d x wy :=
 ⟨h.dr.below hb,h.r0.kept (by simp [plZ0]) hb,h.r1.kept (by simp) hb,h.bp.kept (by simp [plL]) hb,h.bx.kept (by simp) hb,h.pl.below hb,h.bb.below hb,h.fp,h.fa,h.fb,h.hP.1,h.hP.2.1,h.hP.2.2.1,Nat.le_trans h.hP.2.2.2 hb.size⟩
theorem BS.other (h:BS w B sa len cap size P X base pa pc p a b c d x wx) (Y j:Nat) (v:Value) (hY:base≤Y) (ha:x.binds=[]∨∀ g o,a=some ⟨g,o,none⟩→g≠Y) (hb:x.sess=[]∨∀ g o,b=some ⟨g,o,none⟩→g≠Y):BS w B sa len cap size P X base pa pc p a b c d x (wx.setCell ⟨Y,j,none⟩ v):=by
 have hB:=h.dr.hB;obtain ⟨h1,h2,h3,h4⟩:=h.hP;have hg:=grown_cell wx Y j v;refine ⟨h.dr.set Y j v (by omega),h.r0.setOther (by omega) v,h.r1.setOther (by omega) v,h.bp.setOther (by omega) v,h.bx.setOther (by omega) v,h.pl.grown hg (.inr fun g o e=>?_),⟨h.bb.bd.grown hg ha,h.bb.ss.grown hg hb⟩,h.fp,h.fa,h.fb,h1,h2,h3,Nat.le_trans h4 hg.size⟩;have:=h.fp g o e; omega
theorem BS.setX {a' b':Option Addr} {c' d':Nat} {y:Bb} (h:BS w B sa len cap size P X base pa pc p a b c d x wx) (hy:BbIs wx a' b' y) (fa':y.binds=[]∨∀ g o,a'=some ⟨g,o,none⟩→base≤g) (fb':y.sess=[]∨∀ g o,b'=some ⟨g,o,none⟩→base≤g) :
  BS w B sa len cap size P X base pa pc p a' b' c' d' y ((sW wx X 0 (.slice a' y.binds.length c')).setCell ⟨X,1,none⟩ (.slice b' y.sess.length d')):=by
 have hB:=h.dr.hB;obtain ⟨h1,h2,h3,h4⟩:=h.hP;have g1:=grown_cell wx X 0 (.slice a' y.binds.length c');have g2:=grown_cell (wx.setCell ⟨X,0,none⟩ (.slice a' y.binds.length c')) X 1 (.slice b' y.sess.length d');have na:y.binds=[]∨∀ g o,a'=some ⟨g,o,none⟩→g≠X:=fa'.imp id fun f g o e=>by have:=f g o e; omega
 have nb:y.sess=[]∨∀ g o,b'=some ⟨g,o,none⟩→g≠X:=fb'.imp id fun f g o e=>by have:=f g o e; omega
 have np:∀ g o,pa=some ⟨g,o,none⟩→g≠X:=fun g o e=>by have:=h.fp g o e; omega
 exact ⟨(h.dr.set X 0 _ (by omega)).set X 1 _ (by omega),(h.r0.setOther (by omega) _).setOther (by omega) _,(h.r1.setOther (by omega) _).setOther (by omega) _,(h.bp.setOther (by omega) _).setOther (by omega) _,(h.bx.set 0 _).set 1 _,(h.pl.grown g1 (.inr np)).grown g2 (.inr np),⟨(hy.bd.grown g1 na).grown g2 na,(hy.ss.grown g1 nb).grown g2 nb⟩,h.fp,fa',fb',h1,h2,h3,Nat.le_trans h4 (Nat.le_trans g1.size g2.size)⟩
end
def XTc:Value→World→Prop:=fun v _=>∃ t,v=tcC t∧TcDr t
theorem st_XTc {B:Nat}:StableX (EB B) XTc:=fun _ _ _ h _=>h
theorem own_off {α:Type} {en:α→List Value} {n base:Nat} {w:World} {a:Option Addr} {xs:List α} (h:SlOwn en n base w a xs):xs=[]∨∀ g o,a=some ⟨g,o,none⟩→base≤g:=by
 rcases h with h | ⟨g,rfl,h1,h2⟩
 ·exact .inl h
 ·exact .inr fun g' o e=>by injection e with e; injection e with e1 e2; omega
theorem own_box {α:Type} {en:α→List Value} {n base Y:Nat} {w:World} {a:Option Addr} {xs:List α} {cs:List Value} {y:Option Addr} {m c:Nat} (h:SlOwn en n base w a xs) (hn:∀ q,∃ k l,en q=iV k::l) (hY:HoldsL w Y (.slice y m c::cs)):xs=[]∨∀ g o,a=some ⟨g,o,none⟩→g≠Y:=by
 rcases h with h | ⟨g,rfl,h1,h2⟩
 ·exact .inl h
 ·by_cases he:xs=[]
  ·exact .inl he
  refine .inr fun g' o e=>?_
  injection e with e; injection e with e1 e2
  subst e1;intro e3;subst e3;have hp:0 < xs.length:=List.length_pos_iff.2 he;obtain ⟨k,l,hk⟩:=hn xs[0];have h3:=h2.at0 0 hp hp 0 (iV k) (by rw [hk]; rfl);have h4:=hY.cell (j:=0) rfl;simp at h3;rw [h3] at h4;simp at h4
def XBo (base B:Nat) (p:Pl) (x:Bb) (now:Int):Value→World→Prop:=fun v w=>∃ t a b c d,v=boC a b c d (bibTouchV p x t now)∧B < base∧SlOwn bdL 5 base w a (bibTouchV p x t now).bib.binds∧SlOwn ssL 7 base w b (bibTouchV p x t now).bib.sess
theorem slown_EB {α:Type} {en:α→List Value} {n base B:Nat} {w w':World} {a:Option Addr} {xs:List α} (h:SlOwn en n base w a xs) (hB:B < base) (he:EB B w w'):SlOwn en n base w' a xs:=by
 rcases h with h | ⟨g,rfl,h1,h2⟩
 ·exact .inl h
 ·have hne:g≠B:=by omega
  have hb:w'.heap[g]?=w.heap[g]?:=he.block g h2.blk (by simp; exact hne);have hc:∀ j,w'.cell? ⟨g,j,none⟩=w.cell? ⟨g,j,none⟩:=fun j=>by unfold World.cell?; rw [show (⟨g,j,none⟩ : Addr).block=g from rfl,hb]
  exact .inr ⟨g,rfl,h1,Nat.lt_of_lt_of_le h2.blk he.size,fun i hi hk j v hv=>by rw [hc]; exact h2.at0 i hi hk j v hv,fun i hi=>by rw [hc]; exact h2.there i hi,fun i hi=>(World.frozen?_of_block (a:=⟨g,i,none⟩) hb).trans (h2.free i hi)⟩
theorem st_XBo {base B:Nat} {p:Pl} {x:Bb} {now:Int}:StableX (EB B) (XBo base B p x now):=fun v w w' ⟨t,a,b,c,d,h1,h2,h3,h4⟩ he=>⟨t,a,b,c,d,h1,h2,slown_EB h3 h2 he,slown_EB h4 h2 he⟩
end Go.Proofs.YtdkepkaflielhaaGreatDoor
