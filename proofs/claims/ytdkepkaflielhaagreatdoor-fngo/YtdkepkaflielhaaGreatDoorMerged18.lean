import Derived.Test.YtdkepkaflielhaaGreatDoorDrawTch
import Derived.Test.YtdkepkaflielhaaGreatDoorMerged17
import Derived.Deep.RegionHeld
set_option linter.unusedVariables false
set_option linter.unusedSimpArgs false
set_option maxRecDepth 100000
set_option maxHeartbeats 8000000
namespace Go.Proofs.YtdkepkaflielhaaGreatDoor
open Go.RowKit Go.PlainAid
structure BS(w:World)(B:Nat)(sa:OA)(len cap:Nat)(size:Int)(P X base:Nat)(pa:OA)(pc:Nat)(p:Pl)(a b:OA)(c d:Nat)(x:Bb)(wx:World):Prop where
 dr:Dr w B sa len cap size wx
 r0:aA wx w.heap.size gL
 r1:aA wx (w.heap.size+1) [.slice none 0 0,.slice none 0 0]
 bp:aA wx P (EY pa pc p)
 bx:aA wx X (bF a c b d x)
 pl:bP bX 1 wx pa p.VA
 bb:dI wx a b x
 fp:∀g o,pa=some ⟨g,o,none⟩→w.heap.size+2≤g∧g < P
 fa:x.VC=[]∨∀g o,a=some ⟨g,o,none⟩→base≤g
 fb:x.UZ=[]∨∀g o,b=some ⟨g,o,none⟩→base≤g
 hP:w.heap.size+2≤P∧P < X∧X < base∧base≤wx.heap.size
section
variable {w wx wy:World} {B:Nat} {sa:OA} {len cap:Nat} {size:Int} {P X base:Nat} {pa:OA} {pc:Nat} {p:Pl} {a b:OA} {c d:Nat} {x:Bb}
theorem BS.draw(h:BS w B sa len cap size P X base pa pc p a b c d x wx)(hs:iT wy B sa len cap size)(hg:wx.grownBy wy (some B)):BS w B sa len cap size P X base pa pc p a b c d x wy:=by
 have hB:=h.dr.hB;obtain⟨h1,h2,h3,h4⟩:=h.hP;refine⟨h.dr.draw hs hg,h.r0.grown (by simp[gL]) hg (by simp;omega),h.r1.grown (by simp) hg (by simp;omega),h.bp.grown (by simp[EY]) hg (by simp;omega),h.bx.grown (by simp) hg (by simp;omega),h.pl.grown hg (.inr fun g o e=>?_),⟨h.bb.bd.grown hg (h.fa.imp id fun f g o e=>?_),h.bb.ss.grown hg (h.fb.imp id fun f g o e=>?_)⟩,h.fp,h.fa,h.fb,h1,h2,h3,UA h4 hg.size⟩
 ·have:=h.fp g o e;omega
 ·have:=f g o e;omega
 ·have:=f g o e;omega
theorem BS.below(h:BS w B sa len cap size P X base pa pc p a b c d x wx)(hb:Below wx.heap.size wx wy):BS w B sa len cap size P X base pa pc p a b c d x wy :=
 ⟨h.dr.below hb,h.r0.kept (by simp[gL]) hb,h.r1.kept (by simp) hb,h.bp.kept (by simp[EY]) hb,h.bx.kept (by simp) hb,h.pl.below hb,h.bb.below hb,h.fp,h.fa,h.fb,h.hP.1,h.hP.2.1,h.hP.2.2.1,UA h.hP.2.2.2 hb.size⟩
theorem BS.other(h:BS w B sa len cap size P X base pa pc p a b c d x wx)(Y j:Nat)(v:Value)(hY:base≤Y)(ha:x.VC=[]∨∀g o,a=some ⟨g,o,none⟩→g≠Y)(hb:x.UZ=[]∨∀g o,b=some ⟨g,o,none⟩→g≠Y):BS w B sa len cap size P X base pa pc p a b c d x (wx.setCell ⟨Y,j,none⟩ v):=by
 have hB:=h.dr.hB;obtain⟨h1,h2,h3,h4⟩:=h.hP;have hg:=aH wx Y j v;refine⟨h.dr.set Y j v (by omega),h.r0.setOther (by omega) v,h.r1.setOther (by omega) v,h.bp.setOther (by omega) v,h.bx.setOther (by omega) v,h.pl.grown hg (.inr fun g o e=>?_),⟨h.bb.bd.grown hg ha,h.bb.ss.grown hg hb⟩,h.fp,h.fa,h.fb,h1,h2,h3,UA h4 hg.size⟩;have:=h.fp g o e;omega
theorem BS.setX{a' b':OA}{c' d':Nat}{y:Bb}(h:BS w B sa len cap size P X base pa pc p a b c d x wx)(hy:dI wx a' b' y)(fa':y.VC=[]∨∀g o,a'=some ⟨g,o,none⟩→base≤g)(fb':y.UZ=[]∨∀g o,b'=some ⟨g,o,none⟩→base≤g) :
  BS w B sa len cap size P X base pa pc p a' b' c' d' y ((sW wx X 0 (.slice a' y.VC.length c')).setCell ⟨X,1,none⟩ (.slice b' y.UZ.length d')):=by
 have hB:=h.dr.hB;obtain⟨h1,h2,h3,h4⟩:=h.hP;have g1:=aH wx X 0 (.slice a' y.VC.length c');have g2:=aH (wx.setCell ⟨X,0,none⟩ (.slice a' y.VC.length c')) X 1 (.slice b' y.UZ.length d');have na:y.VC=[]∨∀g o,a'=some ⟨g,o,none⟩→g≠X:=fa'.imp id fun f g o e=>by have:=f g o e;omega
 have nb:y.UZ=[]∨∀g o,b'=some ⟨g,o,none⟩→g≠X:=fb'.imp id fun f g o e=>by have:=f g o e;omega
 have np:∀g o,pa=some ⟨g,o,none⟩→g≠X:=fun g o e=>by have:=h.fp g o e;omega
 exact⟨(h.dr.set X 0 _ (by omega)).set X 1 _ (by omega),(eN h.r0).setOther (by omega) _,(eN h.r1).setOther (by omega) _,(eN h.bp).setOther (by omega) _,(h.bx.set 0 _).set 1 _,(h.pl.grown g1 (.inr np)).grown g2 (.inr np),⟨(hy.bd.grown g1 na).grown g2 na,(hy.ss.grown g1 nb).grown g2 nb⟩,h.fp,fa',fb',h1,h2,h3,UA h4 (UA g1.size g2.size)⟩
end
def RZ:Value→World→Prop:=fun v _=>∃t,v=qF t∧pB t
theorem QY{B:Nat}:cU (EB B) RZ:=fun _ _ _ h _=>h
theorem JA{α:Type}{en:α→List Value}{n base:Nat}{w:World}{a:OA}{xs:List α}(h:eY en n base w a xs):xs=[]∨∀g o,a=some ⟨g,o,none⟩→base≤g:=by
 rcases h with h|⟨g,rfl,h1,h2⟩
 ·exact .inl h
 ·exact .inr fun g' o e=>by injection e with e;injection e with e1 e2;omega
theorem IZ{α:Type}{en:α→List Value}{n base Y:Nat}{w:World}{a:OA}{xs:List α}{cs:List Value}{y:OA}{m c:Nat}(h:eY en n base w a xs)(hn:∀q,∃k l,en q=iV k::l)(hY:aA w Y (.slice y m c::cs)):xs=[]∨∀g o,a=some ⟨g,o,none⟩→g≠Y:=by
 rcases h with h|⟨g,rfl,h1,h2⟩
 ·exact .inl h
 ·by_cases he:xs=[]
  ·exact .inl he
  refine .inr fun g' o e=>?_
  injection e with e;injection e with e1 e2
  subst e1;intro e3;subst e3;have hp:0 < xs.length:=List.length_pos_iff.2 he;obtain⟨k,l,hk⟩:=hn xs[0];have h3:=h2.at0 0 hp hp 0 (iV k) (by rw[hk];rfl);have h4:=hY.cell (j:=0) rfl;simp at h3;rw[h3]at h4;simp at h4
def SJ(base B:Nat)(p:Pl)(x:Bb)(now:Int):Value→World→Prop:=fun v w=>∃t a b c d,v=IP a b c d (dB p x t now)∧B < base∧eY eG 5 base w a (dB p x t now).bib.VC∧eY fY 7 base w b (dB p x t now).bib.UZ
theorem DV{α:Type}{en:α→List Value}{n base B:Nat}{w w':World}{a:OA}{xs:List α}(h:eY en n base w a xs)(hB:B < base)(he:EB B w w'):eY en n base w' a xs:=by
 rcases h with h|⟨g,rfl,h1,h2⟩
 ·exact .inl h
 ·have hne:g≠B:=by omega
  have hb:w'.heap[g]?=w.heap[g]?:=he.block g h2.blk (by simp;exact hne);have hc:∀j,w'.cell? ⟨g,j,none⟩=w.cell? ⟨g,j,none⟩:=fun j=>by unfold World.cell?;rw[show (⟨g,j,none⟩: Addr).block=g from rfl,hb]
  exact .inr ⟨g,rfl,h1,UM h2.blk he.size,fun i hi hk j v hv=>by rw[hc];exact h2.at0 i hi hk j v hv,fun i hi=>by rw[hc];exact h2.there i hi,fun i hi=>(World.frozen?_of_block (a:=⟨g,i,none⟩) hb).trans (h2.free i hi)⟩
theorem QS{base B:Nat}{p:Pl}{x:Bb}{now:Int}:cU (EB B) (SJ base B p x now):=fun v w w' ⟨t,a,b,c,d,h1,h2,h3,h4⟩ he=>⟨t,a,b,c,d,h1,h2,DV h3 h2 he,DV h4 h2 he⟩
def PP(w:World)(B:Nat)(sa:OA)(len cap:Nat)(size:Int)(e:Ending)(w':World):Prop:=∃pa pc p a b c d x now,e=.returned (.tuple #[jQ pa pc p,iQ a b c d x,iV now])∧pH p∧p.VA.length≤pc∧nM x∧0≤now∧now≤100∧bP bX 1 w' pa p.VA∧dI w' a b x∧(∀g o,pa=some ⟨g,o,none⟩→w.heap.size≤g)∧(x.VC=[]∨∀g o,a=some ⟨g,o,none⟩→w.heap.size≤g)∧(x.UZ=[]∨∀g o,b=some ⟨g,o,none⟩→w.heap.size≤g)∧iT w' B sa len cap size∧w.grownBy w' (some B)
structure JF(w:World)(B:Nat)(sa:OA)(len cap:Nat)(size:Int)(pa:OA)(pc:Nat)(p:Pl)(a b:OA)(c d:Nat)(x:Bb)(wx:World):Prop where
 dr:Dr w B sa len cap size wx
 r0:aA wx w.heap.size (EY pa pc p)
 r1:aA wx (w.heap.size+1) (bF a c b d x)
 pl:bP bX 1 wx pa p.VA
 bb:dI wx a b x
theorem JF.drew{w wx:World}{B:Nat}{sa:OA}{len cap:Nat}{size:Int}{pa:OA}{pc:Nat}{p:Pl}{a b:OA}{c d:Nat}{x:Bb}(h:JF w B sa len cap size pa pc p a b c d x wx):JF w B sa len cap size pa pc p a b c d x wx.drew:=⟨h.dr.below bR.drew,h.r0.drew,h.r1.drew,h.pl.below bR.drew,h.bb.below bR.drew⟩
theorem BS.fin{w wx:World}{B:Nat}{sa:OA}{len cap:Nat}{size:Int}{P X base:Nat}{pa:OA}{pc:Nat}{p:Pl}{a b:OA}{c d:Nat}{x:Bb}(h:BS w B sa len cap size P X base pa pc p a b c d x wx):JF w B sa len cap size pa pc p a b c d x ((sW (sW (sW (sW (sW (sW (sW (sW (sW (sW (sW wx w.heap.size 0 (.slice pa p.VA.length pc)) w.heap.size 1 (iV p.low)) w.heap.size 2 (iV p.high)) w.heap.size 3 (iV p.most)) w.heap.size 4 (iV p.filter)) w.heap.size 5 (iV p.lv.udp)) w.heap.size 6 (iV p.lv.echo)) w.heap.size 7 (iV p.lv.opening)) w.heap.size 8 (iV p.lv.opn)) w.heap.size 9 (iV p.lv.closing)) (w.heap.size+1) 0 (.slice a x.VC.length c)).setCell ⟨w.heap.size+1,1,none⟩ (.slice b x.UZ.length d)):=by
 have hB:=h.dr.hB;obtain⟨h1,h2,h3,h4⟩:=h.hP;have np:∀g o,pa=some ⟨g,o,none⟩→g≠w.heap.size:=fun g o e=>by have:=h.fp g o e;omega
 have np1:∀g o,pa=some ⟨g,o,none⟩→g≠w.heap.size+1:=fun g o e=>by have:=h.fp g o e;omega
 have na:x.VC=[]∨∀g o,a=some ⟨g,o,none⟩→g≠w.heap.size:=h.fa.imp id fun f g o e=>by have:=f g o e;omega
 have na1:x.VC=[]∨∀g o,a=some ⟨g,o,none⟩→g≠w.heap.size+1:=h.fa.imp id fun f g o e=>by have:=f g o e;omega
 have nb:x.UZ=[]∨∀g o,b=some ⟨g,o,none⟩→g≠w.heap.size:=h.fb.imp id fun f g o e=>by have:=f g o e;omega
 have nb1:x.UZ=[]∨∀g o,b=some ⟨g,o,none⟩→g≠w.heap.size+1:=h.fb.imp id fun f g o e=>by have:=f g o e;omega
 refine⟨((((((((((((h.dr.set _ 0 _ lR).set _ 1 _ lR).set _ 2 _ lR).set _ 3 _ lR).set _ 4 _ lR).set _ 5 _ lR).set _ 6 _ lR).set _ 7 _ lR).set _ 8 _ lR).set _ 9 _ lR).set _ 0 _ (by omega)).set _ 1 _ (by omega)),(eN (eN ((((((((((h.r0.set 0 (.slice pa p.VA.length pc)).set 1 (iV p.low)).set 2 (iV p.high)).set 3 (iV p.most)).set 4 (iV p.filter)).set 5 (iV p.lv.udp)).set 6 (iV p.lv.echo)).set 7 (iV p.lv.opening)).set 8 (iV p.lv.opn)).set 9 (iV p.lv.closing)))),(((eN (eN (eN (eN (eN (eN (eN (eN (eN (eN h.r1)))))))))).set 0 (.slice a x.VC.length c)).set 1 (.slice b x.UZ.length d)),((((((((((((h.pl.grown (aH _ (w.heap.size) 0 _) (.inr np)).grown (aH _ (w.heap.size) 1 _) (.inr np)).grown (aH _ (w.heap.size) 2 _) (.inr np)).grown (aH _ (w.heap.size) 3 _) (.inr np)).grown (aH _ (w.heap.size) 4 _) (.inr np)).grown (aH _ (w.heap.size) 5 _) (.inr np)).grown (aH _ (w.heap.size) 6 _) (.inr np)).grown (aH _ (w.heap.size) 7 _) (.inr np)).grown (aH _ (w.heap.size) 8 _) (.inr np)).grown (aH _ (w.heap.size) 9 _) (.inr np)).grown (aH _ (w.heap.size+1) 0 _) (.inr np1)).grown (aH _ (w.heap.size+1) 1 _) (.inr np1)),⟨((((((((((((h.bb.bd.grown (aH _ (w.heap.size) 0 _) na).grown (aH _ (w.heap.size) 1 _) na).grown (aH _ (w.heap.size) 2 _) na).grown (aH _ (w.heap.size) 3 _) na).grown (aH _ (w.heap.size) 4 _) na).grown (aH _ (w.heap.size) 5 _) na).grown (aH _ (w.heap.size) 6 _) na).grown (aH _ (w.heap.size) 7 _) na).grown (aH _ (w.heap.size) 8 _) na).grown (aH _ (w.heap.size) 9 _) na).grown (aH _ (w.heap.size+1) 0 _) na1).grown (aH _ (w.heap.size+1) 1 _) na1),((((((((((((h.bb.ss.grown (aH _ (w.heap.size) 0 _) nb).grown (aH _ (w.heap.size) 1 _) nb).grown (aH _ (w.heap.size) 2 _) nb).grown (aH _ (w.heap.size) 3 _) nb).grown (aH _ (w.heap.size) 4 _) nb).grown (aH _ (w.heap.size) 5 _) nb).grown (aH _ (w.heap.size) 6 _) nb).grown (aH _ (w.heap.size) 7 _) nb).grown (aH _ (w.heap.size) 8 _) nb).grown (aH _ (w.heap.size) 9 _) nb).grown (aH _ (w.heap.size+1) 0 _) nb1).grown (aH _ (w.heap.size+1) 1 _) nb1)⟩⟩
theorem DM{α:Type}{en:α→List Value}{n base m:Nat}{w:World}{a:OA}{xs:List α}(h:eY en n base w a xs)(hm:m≤base):eY en n m w a xs:=by
 rcases h with h|⟨g,rfl,h1,h2⟩
 ·exact .inl h
 ·exact .inr ⟨g,rfl,UA hm h1,h2⟩
structure TS(w:World)(B:Nat)(sa:OA)(len cap:Nat)(size:Int)(R0 R1 P X:Nat)(pa:OA)(pc:Nat)(p:Pl)(a b:OA)(c d:Nat)(x:Bb)(wx:World):Prop where
 dr:Dr w B sa len cap size wx
 r0:aA wx R0 gL
 r1:aA wx R1 [.slice none 0 0,.slice none 0 0]
 bp:aA wx P (EY pa pc p)
 bx:aA wx X (bF a c b d x)
 pl:bP bX 1 wx pa p.VA
 bb:dI wx a b x
 fp:∀g o,pa=some ⟨g,o,none⟩→w.heap.size≤g
 fa:x.VC=[]∨∀g o,a=some ⟨g,o,none⟩→w.heap.size≤g
 fb:x.UZ=[]∨∀g o,b=some ⟨g,o,none⟩→w.heap.size≤g
 hP:R0 < R1∧R1 < B∧w.heap.size≤P∧P < X
structure TF(R0 R1:Nat)(pa:OA)(pc:Nat)(p:Pl)(a b:OA)(c d:Nat)(x:Bb)(wx:World):Prop where
 r0:aA wx R0 (EY pa pc p)
 r1:aA wx R1 (bF a c b d x)
 pl:bP bX 1 wx pa p.VA
 bb:dI wx a b x
theorem xU(x:Bb)(c:Bd)(peer:BA)(port:Int)(ba bo:OA)(ca cb:Nat)(w:World)(hl2:x.UZ.length≤1048576)(hr:dI w ba bo x) :
  Cb 158 #[iQ ba bo ca cb x,jI c,.string peer,iV port] w (iV (bG (eR c peer port) x.UZ)):=by
 have HZ0:Hid (Below w.heap.size w ((aW w (bF ba ca bo cb x) 31).alloc (.cells (dH c).toArray 48))):=(bR.alloc lR _).alloc (by simp) _;have HB:Hid (aA ((aW w (bF ba ca bo cb x) 31).alloc (.cells (dH c).toArray 48)) w.heap.size (bF ba ca bo cb x)):=(aA.new w (bF ba ca bo cb x) 31).alloc _;have HC:Hid (aA ((aW w (bF ba ca bo cb x) 31).alloc (.cells (dH c).toArray 48)) (w.heap.size+1) (dH c)):=by
  have h:=aA.new (w.alloc (.cells (bF ba ca bo cb x).toArray 31)) (dH c) 48;rw[TQ]at h;exact h
 have HR:Hid (dI w ba bo x):=hr;obtain⟨ans,hans⟩: ∃y,y=bG (eR c peer port) x.UZ:=⟨_,rfl⟩;have HA:Hid (ans=bG (eR c peer port) x.UZ):=hans;rw[←hans];have hun:undef=Value.tuple #[]:=rfl;clear hr hans;unfold iQ jI;go_enter Tryz.func158,Tryz.ntmps158
 go_upto_region 1 with fail
 generalize World.alloc _ _=W0 at *;go_wp2_with fail
 go_loopw [9] (fun iv wr=>∃i:Nat,i≤x.UZ.length∧iv=iV i∧(x.UZ.take i).any (eR c peer port)=false∧aA wr w.heap.size (bF ba ca bo cb x)∧aA wr (w.heap.size+1) (dH c)∧Below w.heap.size w wr) (fun iv _=>x.UZ.length-(intOf iv).toNat)
 case atStart=>exact⟨0,UR _,rfl,by simp,HB.out,HC.out,HZ0.out⟩
 case round=>
  obtain⟨i,hi,rfl,hn,hB,hC,hb0⟩:=hrel;have HN:Hid ((x.UZ.take i).any (eR c peer port)=false):=hn;have HBr:Hid _:=hB;have HCr:Hid _:=hC;have HW:Hid (Below w.heap.size w wr):=hb0;clear hn hB hC hb0 HB HC HZ0;generalize wr=w1 at *;have z1:=HBr.out.cell (j:=1) rfl;by_cases hlt:i < x.UZ.length
  ·obtain⟨bb,off,rfl,hb,hat⟩:=HR.out.ss.at hlt;have hA:=(hat.below hb HW.out) i hlt;have HT:Hid _:=jW (eR c peer port) x.UZ i hlt;have HF:Hid (eR c peer port x.UZ[i]=true→bG (eR c peer port) x.UZ=i):=fun h=>nQ _ x.UZ i hlt HN.out h
   obtain⟨s,hs⟩: ∃s,s=x.UZ[i]:=⟨_,rfl⟩;rw[←hs]at hA HT HF;have HPV:Hid (eR c peer port s=(gY c s&&decide (s.peer.toList=peer.toList)&&decide (s.UV=port))):=rfl;have hltI:(i:Int) < (x.UZ.length:Int):=by omega
   obtain⟨s0,s1,s2,s3,s4,s5,s6⟩:=MX hA;clear hA hat hs hb;have HH:Hid (∀W,Cb 37 #[.agg (dH c).toArray,.agg (iB s).toArray] W (.bool (gY c s))):=fun W=>tR c s W
   generalize eR c peer port s=pv at *;generalize gY c s=hv at *;go_upto_region 5 with fail
   have bn:Below w1.heap.size w1 (w1.alloc (.cells (iB s).toArray 59)):=bR.alloc lR _;have hn:aA (w1.alloc (.cells (iB s).toArray 59)) w1.heap.size (iB s):=aA.new w1 (iB s) 59;have HB2:Hid _:=HBr.out.kept (by simp) bn;have HC2:Hid _:=HCr.out.kept (by simp) bn;have HW2:Hid _:=HW.out.trans (bn.mono HW.out.size);have HS2:Hid _:=hn;generalize (w1.alloc (.cells (iB s).toArray 59))=W2 at *;clear bn hn HBr HCr HW z1 s0 s1 s2 s3 s4 s5 s6;generalize w1.heap.size=Bs at *;obtain⟨c0,c1,c2,c3,c4⟩:=HC2.out.c5;obtain⟨s0,s1,s2,s3,s4,s5,s6⟩:=HS2.out.c7;go_wp2_with fail
   refine(HH.out _).mono ?_;rintro e w3 ⟨rfl,q3⟩;have HB3:Hid _:=HB2.out.kept (by simp) q3;have HC3:Hid _:=HC2.out.kept (by simp) q3;have HS3:Hid _:=HS2.out.kept (by simp) q3;have HW3:Hid _:=HW2.out.trans (q3.mono HW2.out.size);clear q3 HB2 HC2 HW2 HS2 HH c0 c1 c2 c3 c4 s0 s1 s2 s3 s4 s5 s6;obtain⟨-,-,-,s3,s4⟩:=HS3.out.c5
   cases hv with
   | false=>
    have HX:Hid (pv=false):=by unfold Hid;rw[HPV.out];rfl
    have HN2:Hid ((x.UZ.take (i+1)).any (eR c peer port)=false):=by unfold Hid;rw[HT.out,HN.out,HX.out];rfl
    go_wp2_with fail
    go_roundw
    case rel=>
     first | exact⟨i+1,by omega,by go_num,HN2.out,HB3.out,HC3.out,HW3.out⟩ | ((repeat apply Exists.intro);exact⟨⟨i+1,by omega,by go_num,HN2.out,HB3.out,HC3.out,HW3.out⟩,rfl⟩)
    case measure=>simp[intOf]<;>omega
   | true=>
   by_cases h1:s.peer.toList=peer.toList
   case neg=>
    have e1:(s.peer.toList==peer.toList)=false:=by simp[h1]
    have HX:Hid (pv=false):=by unfold Hid;rw[HPV.out,TR h1];rfl
    clear h1;have HN2:Hid ((x.UZ.take (i+1)).any (eR c peer port)=false):=by unfold Hid;rw[HT.out,HN.out,HX.out];rfl
    go_wp2_with fail
    go_roundw
    case rel=>
     first | exact⟨i+1,by omega,by go_num,HN2.out,HB3.out,HC3.out,HW3.out⟩ | ((repeat apply Exists.intro);exact⟨⟨i+1,by omega,by go_num,HN2.out,HB3.out,HC3.out,HW3.out⟩,rfl⟩)
    case measure=>simp[intOf]<;>omega
   have e1:(s.peer.toList==peer.toList)=true:=by simp[h1]
   by_cases h2:s.UV=port
   case neg=>
    have e2:(s.UV==port)=false:=by simp[h2]
    have HX:Hid (pv=false):=by unfold Hid;rw[HPV.out,TR h2];simp
    clear h1;have HN2:Hid ((x.UZ.take (i+1)).any (eR c peer port)=false):=by unfold Hid;rw[HT.out,HN.out,HX.out];rfl
    go_wp2_with fail
    go_roundw
    case rel=>
     first | exact⟨i+1,by omega,by go_num,HN2.out,HB3.out,HC3.out,HW3.out⟩ | ((repeat apply Exists.intro);exact⟨⟨i+1,by omega,by go_num,HN2.out,HB3.out,HC3.out,HW3.out⟩,rfl⟩)
    case measure=>simp[intOf]<;>omega
   have e2:(s.UV==port)=true:=by simp[h2]
   have HX:Hid ((i:Int)=ans):=by unfold Hid;rw[HA.out,HF.out (by rw[HPV.out,TT h1,TT h2];rfl)]
   clear h1 h2;go_wp2_with fail
   go_ret;exact⟨aK HX.out,HW3.out⟩
  ·have hie:i=x.UZ.length:=by omega
   have HX:Hid ((-1:Int)=ans):=by unfold Hid;have:=HN.out;rw[hie,List.take_length]at this;rw[HA.out,pJ _ _ this]
   have hge:¬(i:Int) < (x.UZ.length:Int):=by omega
   clear hie hlt;go_wp2_with fail
   go_ret;exact⟨aK HX.out,HW.out⟩
theorem EF(x:Bb)(c:Bd)(peer:BA)(ba bo:OA)(ca cb:Nat)(w:World)(hl2:x.UZ.length≤1048576)(hr:dI w ba bo x) :
  Cb 159 #[iQ ba bo ca cb x,jI c,.string peer] w (.bool (x.UZ.any (kY c peer))):=by
 have HZ0:Hid (Below w.heap.size w ((aW w (bF ba ca bo cb x) 31).alloc (.cells (dH c).toArray 48))):=(bR.alloc lR _).alloc (by simp) _;have HB:Hid (aA ((aW w (bF ba ca bo cb x) 31).alloc (.cells (dH c).toArray 48)) w.heap.size (bF ba ca bo cb x)):=(aA.new w (bF ba ca bo cb x) 31).alloc _;have HC:Hid (aA ((aW w (bF ba ca bo cb x) 31).alloc (.cells (dH c).toArray 48)) (w.heap.size+1) (dH c)):=by
  have h:=aA.new (w.alloc (.cells (bF ba ca bo cb x).toArray 31)) (dH c) 48;rw[TQ]at h;exact h
 have HR:Hid (dI w ba bo x):=hr;obtain⟨ans,hans⟩: ∃y,y=x.UZ.any (kY c peer):=⟨_,rfl⟩;have HA:Hid (ans=x.UZ.any (kY c peer)):=hans;rw[←hans];clear hr hans;unfold iQ jI;go_enter Tryz.func159,Tryz.ntmps159
 go_upto_region 1 with fail
 generalize World.alloc _ _=W0 at *;go_wp2_with fail
 go_loopw [7] (fun iv wr=>∃i:Nat,i≤x.UZ.length∧iv=iV i∧(x.UZ.take i).any (kY c peer)=false∧aA wr w.heap.size (bF ba ca bo cb x)∧aA wr (w.heap.size+1) (dH c)∧Below w.heap.size w wr) (fun iv _=>x.UZ.length-(intOf iv).toNat)
 case atStart=>exact⟨0,UR _,rfl,by simp,HB.out,HC.out,HZ0.out⟩
 case round=>
  obtain⟨i,hi,rfl,hn,hB,hC,hb0⟩:=hrel;have HN:Hid ((x.UZ.take i).any (kY c peer)=false):=hn;have HBr:Hid _:=hB;have HCr:Hid _:=hC;have HW:Hid (Below w.heap.size w wr):=hb0;clear hn hB hC hb0 HB HC HZ0;generalize wr=w1 at *;have z1:=HBr.out.cell (j:=1) rfl;by_cases hlt:i < x.UZ.length
  ·obtain⟨bb,off,rfl,hb,hat⟩:=HR.out.ss.at hlt;have HAT:Hid (∀W,Below w.heap.size w W→W.rangeAt bb (off+i*7) (fY x.UZ[i])):=fun W hW=>(hat.below hb hW) i hlt
   have HT:Hid _:=jW (kY c peer) x.UZ i hlt;have HF:Hid (kY c peer x.UZ[i]=true→x.UZ.any (kY c peer)=true):=tI _ x.UZ i hlt;obtain⟨s,hs⟩: ∃s,s=x.UZ[i]:=⟨_,rfl⟩;rw[←hs]at HAT HT HF;have HPV:Hid (kY c peer s=(gY c s&&decide (s.peer.toList=peer.toList))):=rfl;have hltI:(i:Int) < (x.UZ.length:Int):=by omega
   have HH:Hid (∀W,Cb 37 #[.agg (dH c).toArray,.agg (iB s).toArray] W (.bool (gY c s))):=fun W=>tR c s W
   generalize kY c peer s=pv at *;generalize gY c s=hv at *;clear hat hs hb;go_upto_region 4 with fail
   clear z1;go_cut [31] (fun v wx=>v=.bool pv∧Below w1.heap.size w1 wx)
   case first=>
    rename_i J K2 hJ hK2;have HCP:Hid (∀wy,Below w1.drew.heap.size w1.drew wy→aA wy w.heap.size (bF ba ca (some ⟨bb,off,none⟩) cb x)∧aA wy (w.heap.size+1) (dH c)∧Below w.heap.size w wy):=fun wy hy=>⟨HBr.out.drew.kept (by simp) hy,HCr.out.drew.kept (by simp) hy,HW.out.drew.trans (hy.mono HW.out.size)⟩
    cases hv with
    | false=>
     refine bH [15,16,17,18,19,20,21,22,23,24,25,26,27,28,29,30,31] (by kernel_rfl) (by kernel_rfl) ?_;iterate 17 ((first|(refine cW.n rfl rfl rfl rfl rfl (by simp) ?_)|(apply cW.u rfl;(·intro K' a wy ho hd hb2 hK;simp[aS,aF,aD,Region.binds]at ho hd;obtain⟨hB,hC,hbw⟩:=HCP.out wy hb2;have hA:=HAT.out wy hbw;have kC:=hB.c2;have kC:=hC.c5;obtain⟨s0,s1,s2,s3,s4,s5,s6⟩:=MX hA;go_simp;first|((try go_bits);exact hK _ _ rfl bQ)|(refine(HH.out wy).mono ?_;rintro e wz ⟨rfl,hz⟩;exact hK _ _ rfl hz))));dsimp only[nA,cA])
     intro X wz hR hz;simp only[UB,UC,eW,aF]at hR;simp only[aE,hR];clear hR;go_simp;refine hK2 _ _ (hJ _ _ ?_);(repeat apply Exists.intro)
     refine⟨⟨by rw[HPV.out];simp,bR.drew.trans hz⟩,rfl⟩
    | true=>
     by_cases h1:s.peer.toList=peer.toList
     ·have e1:(s.peer.toList==peer.toList)=true:=by simp[h1]
      refine bH [15,16,17,18,19,20,21,22,23,24,25,26,27,28,29,30,31] (by kernel_rfl) (by kernel_rfl) ?_;iterate 17 ((first|apply cW.u rfl|apply cW.g rfl rfl rfl rfl rfl (by simp));(·intro K' a wy ho hd hb2 hK;simp[aS,aF,aD,Region.binds]at ho hd;obtain⟨hB,hC,hbw⟩:=HCP.out wy hb2;have hA:=HAT.out wy hbw;have kC:=hB.c2;have kC:=hC.c5;obtain⟨s0,s1,s2,s3,s4,s5,s6⟩:=MX hA;go_simp;first|((try go_bits);exact hK _ _ rfl bQ)|(refine(HH.out wy).mono ?_;rintro e wz ⟨rfl,hz⟩;exact hK _ _ rfl hz));dsimp only[nA,cA])
      intro X wz hR hz;simp only[UB,UC,eW,aF]at hR;simp only[aE,hR];clear hR;go_simp;refine hK2 _ _ (hJ _ _ ?_);(repeat apply Exists.intro)
      refine⟨⟨by rw[HPV.out];simp[h1],bR.drew.trans hz⟩,rfl⟩
     ·have e1:(s.peer.toList==peer.toList)=false:=by simp[h1]
      refine bH [15,16,17,18,19,20,21,22,23,24,25,26,27,28,29,30,31] (by kernel_rfl) (by kernel_rfl) ?_;iterate 17 ((first|apply cW.u rfl|apply cW.g rfl rfl rfl rfl rfl (by simp));(·intro K' a wy ho hd hb2 hK;simp[aS,aF,aD,Region.binds]at ho hd;obtain⟨hB,hC,hbw⟩:=HCP.out wy hb2;have hA:=HAT.out wy hbw;have kC:=hB.c2;have kC:=hC.c5;obtain⟨s0,s1,s2,s3,s4,s5,s6⟩:=MX hA;go_simp;first|((try go_bits);exact hK _ _ rfl bQ)|(refine(HH.out wy).mono ?_;rintro e wz ⟨rfl,hz⟩;exact hK _ _ rfl hz));dsimp only[nA,cA])
      intro X wz hR hz;simp only[UB,UC,eW,aF]at hR;simp only[aE,hR];clear hR;go_simp;refine hK2 _ _ (hJ _ _ ?_);(repeat apply Exists.intro)
      refine⟨⟨by rw[HPV.out];simp[h1],bR.drew.trans hz⟩,rfl⟩
   case rest=>
   obtain⟨rfl,qc⟩:=hcut;generalize wc=w3 at *;have HB3:Hid _:=HBr.out.kept (by simp) qc;have HC3:Hid _:=HCr.out.kept (by simp) qc;have HW3:Hid _:=HW.out.trans (qc.mono HW.out.size);clear qc HBr HCr HW
   cases pv with
   | true=>
    have HX:Hid (true=ans):=by unfold Hid;rw[HA.out,HF.out rfl]
    go_wp2_with fail
    go_ret;exact⟨aB HX.out,HW3.out⟩
   | false=>
    have HN2:Hid ((x.UZ.take (i+1)).any (kY c peer)=false):=by unfold Hid;rw[HT.out,HN.out];rfl
    go_wp2_with fail
    go_roundw
    case rel=>
     first | exact⟨i+1,by omega,by go_num,HN2.out,HB3.out,HC3.out,HW3.out⟩ | ((repeat apply Exists.intro);exact⟨⟨i+1,by omega,by go_num,HN2.out,HB3.out,HC3.out,HW3.out⟩,rfl⟩)
    case measure=>simp[intOf]<;>omega
  ·have hie:i=x.UZ.length:=by omega
   have HX:Hid (false=ans):=by unfold Hid;have:=HN.out;rw[hie,List.take_length]at this;rw[HA.out,this]
   have hge:¬(i:Int) < (x.UZ.length:Int):=by omega
   clear hie hlt;go_wp2_with fail
   go_ret;exact⟨aB HX.out,HW.out⟩
theorem xV(t:Tc)(w:World)(hs1:t.addr.size≤1048576)(hs2:t.peer.size≤1048576) :
  Cb 125 #[qF t] w (.bool (bY t)):=by
 have HZ:Hid (Below w.heap.size w (w.alloc (.cells (FF t).toArray 89))):=bR.alloc lR _;have HK:aA (w.alloc (.cells (FF t).toArray 89)) w.heap.size (FF t):=aA.new w (FF t) 89;have H1:Hid (∀W,Cw 69 #[iV t.UU] W (.bool (eP t.UU))):=fun W=>sU _ W
 have H2:Hid (∀W,Cw 65 #[.string t.addr] W (.bool (cI t.addr))):=fun W=>iZ t.addr W
 have H3:Hid (∀W,Cw 39 #[iV t.port] W (.bool (jS t.port))):=fun W=>gH _ W
 have H4:Hid (∀W,Cw 39 #[iV t.UV] W (.bool (jS t.UV))):=fun W=>gH _ W
 have H5:Hid (∀W,Cw 38 #[iV t.VB] W (.bool (aM t.VB 0 255))):=fun W=>gU _ W
 have HV:Hid (bY t=(eP t.UU&&cI t.addr&&(t.UY||decide (t.addr.size=4))&&jS t.port&&decide (t.peer.size=4)&&jS t.UV&&aM t.VB 0 255)):=rfl;generalize bY t=ans at *;generalize eP t.UU=b1 at *;generalize cI t.addr=b2 at *;generalize jS t.port=b3 at *;generalize jS t.UV=b4 at *;generalize aM t.VB 0 255=b5 at *;have hun:undef=Value.tuple #[]:=rfl;unfold qF;go_enter Tryz.func125,Tryz.ntmps125
 go_upto_region 1 with fail
 generalize (w.alloc (.cells (FF t).toArray 89))=W at *;obtain⟨k0,k1,k2,k3,k4,k5,k6⟩:=HK.c7;clear HK;obtain⟨UU,UY,addr,port,peer,UV,VB⟩:=t;dsimp only at *;go_wp2_with fail
 refine(H1.out _).mono ?_;rintro e W ⟨rfl,rfl⟩
 cases b1 with
 | false=>
  have HX:Hid (ans=false):=by unfold Hid;rw[HV.out];simp
  go_wp2_with fail
  go_ret;exact⟨aB HX.out.symm,HZ.out⟩
 | true=>
 go_wp2_with fail
 refine(H2.out _).mono ?_;rintro e W ⟨rfl,rfl⟩
 cases b2 with
 | false=>
  have HX:Hid (ans=false):=by unfold Hid;rw[HV.out];simp
  go_wp2_with fail
  go_ret;exact⟨aB HX.out.symm,HZ.out⟩
 | true=>
 cases UY with
 | true=>
  go_wp2_with fail
  refine(H3.out _).mono ?_;rintro e W ⟨rfl,rfl⟩
  cases b3 with
  | false=>
   have HX:Hid (ans=false):=by unfold Hid;rw[HV.out];simp
   go_wp2_with fail
   go_ret;exact⟨aB HX.out.symm,HZ.out⟩
  | true=>
  by_cases h4:peer.size=4
  case neg=>
   have h4i:¬(peer.size:Int)=4:=by omega
   have d4:((peer.size:Int)==4)=false:=by simp[h4i]
   have HX:Hid (ans=false):=by unfold Hid;rw[HV.out,TR h4];simp
   go_wp2_with fail
   go_ret;exact⟨aB HX.out.symm,HZ.out⟩
  have h4i:(peer.size:Int)=4:=by omega
  have d4:((peer.size:Int)==4)=true:=by simp[h4i]
  have HP4:Hid (decide (peer.size=4)=true):=TT h4;clear h4i h4;go_wp2_with fail
  refine(H4.out _).mono ?_;rintro e W ⟨rfl,rfl⟩
  cases b4 with
  | false=>
   have HX:Hid (ans=false):=by unfold Hid;rw[HV.out];simp
   go_wp2_with fail
   go_ret;exact⟨aB HX.out.symm,HZ.out⟩
  | true=>
  have HX:Hid (ans=b5):=by unfold Hid;rw[HV.out,HP4.out];simp
  go_wp2_with fail
  refine(H5.out _).mono ?_;rintro e W ⟨rfl,rfl⟩;go_wp2_with fail
  go_ret;exact⟨aB HX.out.symm,HZ.out⟩
 | false=>
  by_cases ha:addr.size=4
  case neg=>
   have hai:¬(addr.size:Int)=4:=by omega
   have da:((addr.size:Int)==4)=false:=by simp[hai]
   have HX:Hid (ans=false):=by unfold Hid;rw[HV.out,TR ha];simp
   go_wp2_with fail
   go_ret;exact⟨aB HX.out.symm,HZ.out⟩
  have hai:(addr.size:Int)=4:=by omega
  have da:((addr.size:Int)==4)=true:=by simp[hai]
  have HA4:Hid (decide (addr.size=4)=true):=TT ha;clear hai ha;go_wp2_with fail
  refine(H3.out _).mono ?_;rintro e W ⟨rfl,rfl⟩
  cases b3 with
  | false=>
   have HX:Hid (ans=false):=by unfold Hid;rw[HV.out];simp
   go_wp2_with fail
   go_ret;exact⟨aB HX.out.symm,HZ.out⟩
  | true=>
  by_cases h4:peer.size=4
  case neg=>
   have h4i:¬(peer.size:Int)=4:=by omega
   have d4:((peer.size:Int)==4)=false:=by simp[h4i]
   have HX:Hid (ans=false):=by unfold Hid;rw[HV.out,TR h4];simp
   go_wp2_with fail
   go_ret;exact⟨aB HX.out.symm,HZ.out⟩
  have h4i:(peer.size:Int)=4:=by omega
  have d4:((peer.size:Int)==4)=true:=by simp[h4i]
  have HP4:Hid (decide (peer.size=4)=true):=TT h4;clear h4i h4;go_wp2_with fail
  refine(H4.out _).mono ?_;rintro e W ⟨rfl,rfl⟩
  cases b4 with
  | false=>
   have HX:Hid (ans=false):=by unfold Hid;rw[HV.out];simp
   go_wp2_with fail
   go_ret;exact⟨aB HX.out.symm,HZ.out⟩
  | true=>
  have HX:Hid (ans=b5):=by unfold Hid;rw[HV.out,HP4.out];rw[HA4.out];simp
  go_wp2_with fail
  refine(H5.out _).mono ?_;rintro e W ⟨rfl,rfl⟩;go_wp2_with fail
  go_ret;exact⟨aB HX.out.symm,HZ.out⟩
variable {n b:Nat} {w W:World} {x0 x1 x2 x3 x4 x5 x6 x7:Value}
theorem RM(h:aA W b [x0,x1])(hb:Below n w W)(hn:n≤b)(v0 v1:Value):Hid (aA ((sW W b 0 v0).setCell ⟨b,1,none⟩ v1) b [v0,v1])∧Hid (Below n w ((sW W b 0 v0).setCell ⟨b,1,none⟩ v1)):=⟨((h.set 0 v0).set 1 v1),((hb.setCell (p:=⟨b,0,none⟩) hn v0).setCell (p:=⟨b,1,none⟩) hn v1)⟩
theorem PJ(h:aA W b [x0,x1,x2,x3,x4])(hb:Below n w W)(hn:n≤b)(v0 v1 v2 v3 v4:Value):Hid (aA ((sW (sW (sW (sW W b 0 v0) b 1 v1) b 2 v2) b 3 v3).setCell ⟨b,4,none⟩ v4) b [v0,v1,v2,v3,v4])∧Hid (Below n w ((sW (sW (sW (sW W b 0 v0) b 1 v1) b 2 v2) b 3 v3).setCell ⟨b,4,none⟩ v4)):=⟨(((((h.set 0 v0).set 1 v1).set 2 v2).set 3 v3).set 4 v4),(((((hb.setCell (p:=⟨b,0,none⟩) hn v0).setCell (p:=⟨b,1,none⟩) hn v1).setCell (p:=⟨b,2,none⟩) hn v2).setCell (p:=⟨b,3,none⟩) hn v3).setCell (p:=⟨b,4,none⟩) hn v4)⟩
theorem TD(h:aA W b [x0,x1,x2,x3,x4,x5,x6])(hb:Below n w W)(hn:n≤b)(v0 v1 v2 v3 v4 v5 v6:Value):Hid (aA ((sW (sW (sW (sW (sW (sW W b 0 v0) b 1 v1) b 2 v2) b 3 v3) b 4 v4) b 5 v5).setCell ⟨b,6,none⟩ v6) b [v0,v1,v2,v3,v4,v5,v6])∧Hid (Below n w ((sW (sW (sW (sW (sW (sW W b 0 v0) b 1 v1) b 2 v2) b 3 v3) b 4 v4) b 5 v5).setCell ⟨b,6,none⟩ v6)):=⟨(((((((h.set 0 v0).set 1 v1).set 2 v2).set 3 v3).set 4 v4).set 5 v5).set 6 v6),(((((((hb.setCell (p:=⟨b,0,none⟩) hn v0).setCell (p:=⟨b,1,none⟩) hn v1).setCell (p:=⟨b,2,none⟩) hn v2).setCell (p:=⟨b,3,none⟩) hn v3).setCell (p:=⟨b,4,none⟩) hn v4).setCell (p:=⟨b,5,none⟩) hn v5).setCell (p:=⟨b,6,none⟩) hn v6)⟩
theorem vD(h:aA W b [x0,x1,x2,x3,x4,x5,x6,x7])(hb:Below n w W)(hn:n≤b)(v0 v1 v2 v3 v4 v5 v6 v7:Value):Hid (aA ((sW (sW (sW (sW (sW (sW (sW W b 0 v0) b 1 v1) b 2 v2) b 3 v3) b 4 v4) b 5 v5) b 6 v6).setCell ⟨b,7,none⟩ v7) b [v0,v1,v2,v3,v4,v5,v6,v7])∧Hid (Below n w ((sW (sW (sW (sW (sW (sW (sW W b 0 v0) b 1 v1) b 2 v2) b 3 v3) b 4 v4) b 5 v5) b 6 v6).setCell ⟨b,7,none⟩ v7)):=⟨((((((((h.set 0 v0).set 1 v1).set 2 v2).set 3 v3).set 4 v4).set 5 v5).set 6 v6).set 7 v7),((((((((hb.setCell (p:=⟨b,0,none⟩) hn v0).setCell (p:=⟨b,1,none⟩) hn v1).setCell (p:=⟨b,2,none⟩) hn v2).setCell (p:=⟨b,3,none⟩) hn v3).setCell (p:=⟨b,4,none⟩) hn v4).setCell (p:=⟨b,5,none⟩) hn v5).setCell (p:=⟨b,6,none⟩) hn v6).setCell (p:=⟨b,7,none⟩) hn v7)⟩
end Go.Proofs.YtdkepkaflielhaaGreatDoor
