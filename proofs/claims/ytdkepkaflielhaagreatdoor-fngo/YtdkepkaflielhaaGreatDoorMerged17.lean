import Derived.Test.YtdkepkaflielhaaGreatDoorMerged16
set_option linter.unusedVariables false
set_option linter.unusedSimpArgs false
set_option maxRecDepth 100000
set_option maxHeartbeats 8000000
namespace Go.Proofs.YtdkepkaflielhaaGreatDoor
open Go.RowKit Go.PlainAid
structure tA(w:World)(B:Nat)(sa:OA)(len cap:Nat)(size:Int)(R X base:Nat)(bv sv:Value)(ys:List Bd)(zs:List Ss)(wx:World):Prop where
 dr:Dr w B sa len cap size wx
 out:aA wx R [.slice none 0 0,.slice none 0 0]
 box:aA wx X [bv,sv]
 bo:wx.ownsRow base 48 5 bv ys.length (dK eG ys)
 so:wx.ownsRow base 59 7 sv zs.length (dK fY zs)
 hX:w.heap.size≤X∧X < base
 hR:w.heap.size≤R∧R < base
 ne:X≠R
 wb:w.heap.size≤base
 hb:base≤wx.heap.size
def NU(w:World)(B:Nat)(sa:OA)(len cap:Nat)(size:Int)(R X base:Nat)(wx:World):Prop :=
 ∃(y:Bb) (a b:OA) (c d:Nat),nM y∧aA wx X (bF a c b d y)∧aA wx R [.slice none 0 0,.slice none 0 0]∧dI wx a b y∧(∀g o,a=some ⟨g,o,none⟩→base≤g)∧(∀g o,b=some ⟨g,o,none⟩→base≤g)∧Dr w B sa len cap size wx
section
variable {w wx wy:World} {B:Nat} {sa:OA} {len cap:Nat} {size:Int} {R X base:Nat} {bv sv:Value} {ys:List Bd} {zs:List Ss}
theorem tA.draw(h:tA w B sa len cap size R X base bv sv ys zs wx)(hs:iT wy B sa len cap size)(hg:wx.grownBy wy (some B)):tA w B sa len cap size R X base bv sv ys zs wy:=by
 have hB:=h.dr.hB;have hX:=h.hX;have hR:=h.hR;have hw:=h.wb;exact⟨h.dr.draw hs hg,h.out.grown (by simp) hg (by simp;omega),h.box.grown (by simp) hg (by simp;omega),AV h.bo hg (by omega),AV h.so hg (by omega),h.hX,h.hR,h.ne,h.wb,UA h.hb hg.size⟩
theorem tA.below(h:tA w B sa len cap size R X base bv sv ys zs wx)(hb:Below wx.heap.size wx wy):tA w B sa len cap size R X base bv sv ys zs wy :=
 ⟨h.dr.below hb,h.out.kept (by simp) hb,h.box.kept (by simp) hb,fX h.bo hb,fX h.so hb,h.hX,h.hR,h.ne,h.wb,UA h.hb hb.size⟩
theorem LU{r:Option Nat}(h:Dr w B sa len cap size wx)(hg:wx.grownBy wy r)(hr:∀k,r=some k→w.heap.size≤k):Dr w B sa len cap size wy:=by
 have hB:=h.hB;refine⟨h.src.kept hg (fun k e=>by have:=hr k e;omega),?_,h.hB⟩;have h1:=h.grown;exact⟨hg.os.trans h1.os,hg.tape.trans h1.tape,hg.output.trans h1.output,UA h1.size hg.size,fun k hk hne=>(hg.block k (UM hk h1.size) (fun e=>by have:=hr k e.symm;omega)).trans (h1.block k hk hne)⟩
theorem tA.appB(h:tA w B sa len cap size R X base bv sv ys zs wx)(q:Bd)(g:Nat)(hg:aA wx g (eG q))(jJ:ys.length≤1048576) :
  ∃v6 w6,(Builtin.append_ #[28,28] 28 #[bv,.slice (some ⟨g,0,none⟩) 1 1]).run Tryz.prog wx=.ok v6 w6∧aA w6 X [bv,sv]∧tA w B sa len cap size R X base v6 sv (ys++[q]) zs (w6.setCell ⟨X,0,none⟩ v6):=by
 obtain⟨i0,hi,hz0,hz1,hz2⟩:=info_parts Tryz.infoBd;have hX:=h.hX;have hR:=h.hR;have hw:=h.wb;have hbb:=h.hb;obtain⟨v6,w6,hrun,h62,h63,h64,h65⟩:=run_append_own_at (P:=Tryz.prog) wx base 28 28 48 i0 _ 5 _ Tryz.underlying28 hi hz0 hz1 hz2 rfl (by decide) bv _ _ h.bo ⟨g,0,none⟩ 1 1 (eG q) rfl (fun i u hu=>by rw[rE];exact hg.cell hu) (zH q) (by unfold maxLen;omega) (by omega) h.hb;have hnr:∀Y,Y < base→some Y≠bv.ownBlock:=fun Y hY e=>dU h.bo hY e.symm
 have n6:v6.ownBlock≠some X:=by
  rcases h65 with h7|h7<;>rw[h7]
  ·exact dU h.bo (by omega)
  ·intro e;injection e with e;omega
 have hO:=h.box.grown (by simp) h63 (hnr _ (by omega));have hold:=World.ownsRow.kept h.so h63 (by
  by_cases e:sv.ownBlock=none
  ·exact .inl e
  ·refine .inr (fun e2=>?_);obtain⟨k,hk⟩:=Option.ne_none_iff_exists'.1 e;exact sO h.bo h.so (by decide) k (e2 ▸ hk) hk)
 refine⟨v6,w6,hrun,hO,⟨(LU h.dr h63 (fun k e=>by have:=(fC h.bo e).1;omega)).set X 0 v6 hX.1,(h.out.grown (by simp) h63 (hnr _ (by omega))).setOther h.ne.symm v6,hO.set 0 v6,cE (by rw[kB,List.length_append];exact h62) n6,cE hold (dU h.so (by omega)),h.hX,h.hR,h.ne,h.wb,?_⟩⟩;simp;exact UA h.hb h63.size
theorem tA.appS(h:tA w B sa len cap size R X base bv sv ys zs wx)(q:Ss)(g:Nat)(hg:aA wx g (fY q))(jJ:zs.length≤1048576) :
  ∃v6 w6,(Builtin.append_ #[29,29] 29 #[sv,.slice (some ⟨g,0,none⟩) 1 1]).run Tryz.prog wx=.ok v6 w6∧aA w6 X [bv,sv]∧tA w B sa len cap size R X base bv v6 ys (zs++[q]) (w6.setCell ⟨X,1,none⟩ v6):=by
 obtain⟨i0,hi,hz0,hz1,hz2⟩:=info_parts Tryz.infoSs;have hX:=h.hX;have hR:=h.hR;have hw:=h.wb;have hbb:=h.hb;obtain⟨v6,w6,hrun,h62,h63,h64,h65⟩:=run_append_own_at (P:=Tryz.prog) wx base 29 29 59 i0 _ 7 _ Tryz.underlying29 hi hz0 hz1 hz2 rfl (by decide) sv _ _ h.so ⟨g,0,none⟩ 1 1 (fY q) rfl (fun i u hu=>by rw[rE];exact hg.cell hu) (BE q) (by unfold maxLen;omega) (by omega) h.hb;have hnr:∀Y,Y < base→some Y≠sv.ownBlock:=fun Y hY e=>dU h.so hY e.symm
 have n6:v6.ownBlock≠some X:=by
  rcases h65 with h7|h7<;>rw[h7]
  ·exact dU h.so (by omega)
  ·intro e;injection e with e;omega
 have hO:=h.box.grown (by simp) h63 (hnr _ (by omega));have hold:=World.ownsRow.kept h.bo h63 (by
  by_cases e:bv.ownBlock=none
  ·exact .inl e
  ·refine .inr (fun e2=>?_);obtain⟨k,hk⟩:=Option.ne_none_iff_exists'.1 e;exact sO h.bo h.so (by decide) k hk (e2 ▸ hk))
 refine⟨v6,w6,hrun,hO,⟨(LU h.dr h63 (fun k e=>by have:=(fC h.so e).1;omega)).set X 1 v6 hX.1,(h.out.grown (by simp) h63 (hnr _ (by omega))).setOther h.ne.symm v6,hO.set 1 v6,cE hold (dU h.bo (by omega)),cE (by rw[kB,List.length_append];exact h62) n6,h.hX,h.hR,h.ne,h.wb,?_⟩⟩;simp;exact UA h.hb h63.size
theorem tA.shapes(h:tA w B sa len cap size R X base bv sv ys zs wx):(∃a cap,bv=.slice a ys.length cap∧ys.length≤cap∧eY eG 5 base wx a ys)∧∃a cap,sv=.slice a zs.length cap∧zs.length≤cap∧eY fY 7 base wx a zs :=
 ⟨xB.shape eC (w0:=wx) ⟨h.bo,Below.refl _ _⟩,xB.shape eE (w0:=wx) ⟨h.so,Below.refl _ _⟩⟩
theorem tA.fin(h:tA w B sa len cap size R X base bv sv ys zs wx)(hd:nM ⟨ys,zs⟩):NU w B sa len cap size R X base wx:=by
 obtain⟨⟨a,c,e1,-,h1⟩,b,d,e2,-,h2⟩:=h.shapes;have hb:=h.box;have hbo:=h.bo;have hso:=h.so;rw[e1,e2]at hb;rw[e1]at hbo;rw[e2]at hso;exact⟨⟨ys,zs⟩,a,b,c,d,hd,hb,h.out,⟨h1.is,h2.is⟩,fun g o e=>by rw[e]at hbo;exact(fC hbo (g:=g) rfl).1,fun g o e=>by rw[e]at hso;exact(fC hso (g:=g) rfl).1,h.dr⟩
end
theorem oK{w:World}{base e n m g cap:Nat}{xs:List Bd}(h:w.ownsRow base e 5 (.slice (some ⟨g,0,none⟩) n cap) m (dK eG xs))(hnm:n=m)(i:Nat)(hi:i < xs.length)(j:Nat)(v:Value)(hv:(eG xs[i])[j]?=some v):w.cell? ⟨g,i*5+j,none⟩=some v:=by
 subst hnm;have hl:=fP eC xs;have hj:j < 5:=by have:=(List.getElem?_eq_some_iff.1 hv).1;rwa [eC]at this
 have hn:=h.1;rw[hl]at hn;have hnl:n=xs.length:=by omega
 rw[World.ownsRow.cellAt h _ (by rw[hnl];omega)];have hs:=mH eC j hj v xs i hi xs[i] (by rw[DU hv]);rw[List.set_getElem_self]at hs;rw[hs,List.getElem?_set_self (by rw[hl];omega)]
section
variable {w wx wy:World} {B:Nat} {sa:OA} {len cap:Nat} {size:Int} {R X base:Nat} {bv sv:Value} {ys:List Bd} {zs:List Ss}
theorem tA.setB{g c n:Nat}(h:tA w B sa len cap size R X base (.slice (some ⟨g,0,none⟩) n c) sv ys zs wx)(hn:n=ys.length)(i:Nat)(hi:i < ys.length)(j:Nat)(hj:j < 5)(v:Value)(y:Bd)(hy:eG y=(eG ys[i]).set j v):tA w B sa len cap size R X base (.slice (some ⟨g,0,none⟩) n c) sv (ys.set i y) zs (wx.setCell ⟨g,i*5+j,none⟩ v):=by
 subst hn;have hg:=(fC h.bo (g:=g) rfl).1;have hX:=h.hX;have hR:=h.hR;have hw:=h.wb;have hsv:sv.ownBlock≠some g:=fun e=>sO h.bo h.so (by decide) g rfl e
 refine⟨h.dr.set g _ v (by omega),h.out.setOther (by omega) _,h.box.setOther (by omega) _,?_,cE h.so hsv,h.hX,h.hR,h.ne,h.wb,by simpa using h.hb⟩;rw[List.length_set,mH eC j hj v ys i hi y hy];exact AW h.bo _ (by rw[fP eC];omega) v
theorem tA.setS{g c n:Nat}(h:tA w B sa len cap size R X base bv (.slice (some ⟨g,0,none⟩) n c) ys zs wx)(hn:n=zs.length)(i:Nat)(hi:i < zs.length)(j:Nat)(hj:j < 7)(v:Value)(y:Ss)(hy:fY y=(fY zs[i]).set j v):tA w B sa len cap size R X base bv (.slice (some ⟨g,0,none⟩) n c) ys (zs.set i y) (wx.setCell ⟨g,i*7+j,none⟩ v):=by
 subst hn;have hg:=(fC h.so (g:=g) rfl).1;have hX:=h.hX;have hR:=h.hR;have hw:=h.wb;have hbv:bv.ownBlock≠some g:=fun e=>sO h.bo h.so (by decide) g e rfl
 refine⟨h.dr.set g _ v (by omega),h.out.setOther (by omega) _,h.box.setOther (by omega) _,cE h.bo hbv,?_,h.hX,h.hR,h.ne,h.wb,by simpa using h.hb⟩;rw[List.length_set,mH eE j hj v zs i hi y hy];exact AW h.so _ (by rw[fP eE];omega) v
end
theorem nW{α:Type}{en:α→List Value}{n:Nat}{w:World}{a:OA}{xs:List α}(h:bP en n w a xs)(j:Nat)(R:Nat)(v:Value)(hf:∀g o,a=some ⟨g,o,none⟩→R < g):bP en n (w.setCell ⟨R,j,none⟩ v) a xs:=h.grown (aH w R j v) (.inr fun g o e=>by have:=hf g o e;omega)
theorem rL{α:Type}{P:α→Prop}{xs:List α}{i:Nat}{y:α}(h:∀x∈xs,P x)(hy:P y):∀x∈xs.set i y,P x:=fun x hx=>by
 rcases List.mem_or_eq_of_mem_set hx with h1|rfl
 ·exact h x h1
 ·exact hy
theorem uH{α:Type}{P:α→Prop}{xs:List α}{y:α}(h:∀x∈xs,P x)(hy:P y):∀x∈xs++[y],P x:=fun x hx=>by
 rcases List.mem_append.1 hx with h1|h1
 ·exact h x h1
 ·simp at h1;subst h1;exact hy
def RG(w:World)(B:Nat)(sa:OA)(len cap:Nat)(size:Int)(e:Ending)(w':World):Prop:=∃y a b c d,e=.returned (iQ a b c d y)∧nM y∧dI w' a b y∧(∀g o,a=some ⟨g,o,none⟩→w.heap.size≤g)∧(∀g o,b=some ⟨g,o,none⟩→w.heap.size≤g)∧iT w' B sa len cap size∧w.grownBy w' (some B)
theorem rS{w W:World}{B:Nat}{sa:OA}{len cap:Nat}{size:Int}{y:Bb}{fa fb:OA}{fc fd:Nat}(hy:nM y)(hR:aA W (w.heap.size+1) [.slice none 0 0,.slice none 0 0])(hbi:dI W fa fb y)(hfa:∀g o,fa=some ⟨g,o,none⟩→w.heap.size+1 < g)(hfb:∀g o,fb=some ⟨g,o,none⟩→w.heap.size+1 < g)(hdr:Dr w B sa len cap size W) :
  Hid (aA ((sW W (w.heap.size+1) 0 (.slice fa y.VC.length fc)).setCell ⟨w.heap.size+1,1,none⟩ (.slice fb y.UZ.length fd)) (w.heap.size+1) (bF fa fc fb fd y))∧Hid (Dr w B sa len cap size ((sW W (w.heap.size+1) 0 (.slice fa y.VC.length fc)).setCell ⟨w.heap.size+1,1,none⟩ (.slice fb y.UZ.length fd)))∧Hid (dI ((sW W (w.heap.size+1) 0 (.slice fa y.VC.length fc)).setCell ⟨w.heap.size+1,1,none⟩ (.slice fb y.UZ.length fd)) fa fb y)∧Hid (nM y∧(∀g o,fa=some ⟨g,o,none⟩→w.heap.size≤g)∧∀g o,fb=some ⟨g,o,none⟩→w.heap.size≤g) :=
 ⟨(hR.set 0 _).set 1 _,(hdr.set _ 0 _ (by omega)).set _ 1 _ (by omega),⟨nW (nW hbi.bd 0 _ _ (fun g o e=>by have:=hfa g o e;omega)) 1 _ _ (fun g o e=>by have:=hfa g o e;omega),nW (nW hbi.ss 0 _ _ (fun g o e=>by have:=hfb g o e;omega)) 1 _ _ (fun g o e=>by have:=hfb g o e;omega)⟩,⟨hy,fun g o e=>by have:=hfa g o e;omega,fun g o e=>by have:=hfb g o e;omega⟩⟩
theorem xL(B:Nat)(sa:OA)(len cap:Nat)(size:Int)(ba bo:OA)(ca cb:Nat)(x:Bb)(w:World)(hl:len≤1048576)(hbd:nM x)(jJ:x.VC.length≤50∧x.UZ.length≤50)(hne:x.VC≠[]→x.UZ≠[])(hx:dI w ba bo x)(hs:iT w B sa len cap size) :
  Calls Tryz.prog 90 #[.pointer (some ⟨B,0,none⟩),iQ ba bo ca cb x] w (RG w B sa len cap size):=by
 have hBW:B < w.heap.size:=(Dr.start hs).hB;obtain⟨hl1,hl2⟩:=jJ;have HBD:Hid (nM x):=hbd;have HNE:Hid (x.VC≠[]→x.UZ≠[]):=hne;have HCY:Hid (∀W,Below w.heap.size w W→Calls Tryz.prog 126 #[.agg (bF ba ca bo cb x).toArray] W fun e w'=>oA W.heap.size x e w'∧Below W.heap.size W w'):=fun W hW=>rQ x ba bo ca cb W (by omega) (by omega) (hx.below hW)
 have D0:Hid (Dr w B sa len cap size ((aW w (bF ba ca bo cb x) 31).alloc (.cells #[.slice none 0 0,.slice none 0 0] 31))):=((Dr.start hs).alloc _).alloc _;have BL:Hid (Below w.heap.size w ((aW w (bF ba ca bo cb x) 31).alloc (.cells #[.slice none 0 0,.slice none 0 0] 31))):=(bR.alloc lR _).alloc (by simp) _;have HX:Hid (aA ((aW w (bF ba ca bo cb x) 31).alloc (.cells #[.slice none 0 0,.slice none 0 0] 31)) w.heap.size (bF ba ca bo cb x)):=(aA.new w (bF ba ca bo cb x) 31).alloc _;have HR:Hid (aA ((aW w (bF ba ca bo cb x) 31).alloc (.cells #[.slice none 0 0,.slice none 0 0] 31)) (w.heap.size+1) [.slice none 0 0,.slice none 0 0]):=by
  have h:=aA.new (w.alloc (.cells (bF ba ca bo cb x).toArray 31)) [.slice none 0 0,.slice none 0 0] 31;rw[TQ]at h;exact h
 have hun:undef=Value.tuple #[]:=rfl;clear hs hx hbd hne;unfold iQ;go_enter Tryz.func90,Tryz.ntmps90
 go_upto_region 1 with fail
 generalize World.alloc _ _=W0 at *;obtain⟨b0,b1⟩:=HX.out.c2;go_wp2_with fail
 refine(HCY.out _ BL.out).mono ?_;rintro e W1 ⟨⟨bv,sv,rfl,o1,o2⟩,q1⟩;obtain⟨ab,cb1,hbv,-,-⟩:=(xB.shape eC (w0:=W1) ⟨o1,Below.refl _ _⟩: ∃a' cap,bv=.slice a' x.VC.length cap∧x.VC.length≤cap∧eY eG 5 W0.heap.size W1 a' x.VC);obtain⟨sb,cs1,hsv,-,-⟩:=(xB.shape eE (w0:=W1) ⟨o2,Below.refl _ _⟩: ∃a' cap,sv=.slice a' x.UZ.length cap∧x.UZ.length≤cap∧eY fY 7 W0.heap.size W1 a' x.UZ);subst hbv hsv;have hRl:w.heap.size+1 < W0.heap.size:=HR.out.lt (by simp);have hX1:=HX.out.kept (by simp) q1;have hR1:=HR.out.kept (by simp) q1;have hXR:w.heap.size≠w.heap.size+1:=by omega
 have S2:Hid (tA w B sa len cap size (w.heap.size+1) w.heap.size W0.heap.size (.slice ab x.VC.length cb1) (.slice sb x.UZ.length cs1) x.VC x.UZ ((sW W1 w.heap.size 0 (.slice ab x.VC.length cb1)).setCell ⟨w.heap.size,1,none⟩ (.slice sb x.UZ.length cs1))):=⟨((D0.out.below q1).set _ 0 _ lR).set _ 1 _ lR,(hR1.setOther hXR.symm _).setOther hXR.symm _,(hX1.set 0 _).set 1 _,cE (cE o1 (dU o1 (by omega))) (dU o1 (by omega)),cE (cE o2 (dU o2 (by omega))) (dU o2 (by omega)),⟨Nat.le_refl _,by omega⟩,⟨by omega,hRl⟩,hXR,by omega,by simp;exact q1.size⟩;obtain⟨b0,b1⟩:=hX1.c2;obtain⟨bf0,bf1⟩:=hX1.f2;clear hX1 hR1 o1 o2 HX HR D0 BL q1 HCY;go_upto_region 2 with fail
 generalize ((sW W1 w.heap.size 0 (.slice ab x.VC.length cb1)).setCell ⟨w.heap.size,1,none⟩ (.slice sb x.UZ.length cs1))=W2 at *;clear b0 b1 bf0 bf1;generalize W0.heap.size=base at *;have HHx:aA W2 w.heap.size (bF ab cb1 sb cs1 x):=S2.out.box;obtain⟨x0,x1⟩:=HHx.c2;clear HHx;by_cases hb0:x.VC=[]
 case pos=>
  have HB0:Hid (x.VC=[]):=hb0;have d0:((x.VC.length:Int)==0)=true:=by rw[hb0];rfl
  clear hb0;go_upto_region 3 with fail
  clear d0 x0 x1;have HF:Hid (NU w B sa len cap size (w.heap.size+1) w.heap.size base W2):=S2.out.fin ⟨by have:=HBD.out.1;exact this,HBD.out.2.1,HBD.out.2.2⟩;obtain⟨y,fa,fb,fc,fd,hy,hX,hR,hbi,hfa,hfb,hdr⟩:=HF.out;clear HF;obtain⟨x0,x1⟩:=hX.c2;obtain⟨z0,z1⟩:=hR.c2;obtain⟨zf0,zf1⟩:=hR.f2;obtain⟨HRR,DD,BI,HY⟩:=rS (fc:=fc) (fd:=fd) hy hR hbi (fun g o e=>by have:=hfa g o e;omega) (fun g o e=>by have:=hfb g o e;omega) hdr;clear hy hX hR hbi hfa hfb hdr;go_wp2_with fail
  exact UQ (aG Tryz.results90 _ _ _ _ _ rfl HRR.out Tryz.underlying31 rfl (show (Tryz.prog.info? 31).map (·.size)=some 2 by kernel_rfl)) rfl ⟨y,fa,fb,fc,fd,rfl,HY.out.1,BI.out,HY.out.2.1,HY.out.2.2,DD.out.src,DD.out.grown⟩
 have hbp:0 < x.VC.length:=List.length_pos_iff.2 hb0;have hsp:0 < x.UZ.length:=List.length_pos_iff.2 (HNE.out hb0);have d0:((x.VC.length:Int)==0)=false:=by simp;exact hb0
 clear hb0;obtain⟨gb,hgb⟩: ∃g,ab=some ⟨g,0,none⟩:=by
  rcases S2.out.bo.2 with ⟨_,h0⟩|⟨g,c,cur,h3,_⟩
  ·omega
  ·injection h3 with h3;exact⟨g,h3⟩
 obtain⟨gs,hgs⟩: ∃g,sb=some ⟨g,0,none⟩:=by
  rcases S2.out.so.2 with ⟨_,h0⟩|⟨g,c,cur,h3,_⟩
  ·omega
  ·injection h3 with h3;exact⟨g,h3⟩
 subst hgb hgs;go_upto_region 4 with fail
 clear d0;go_wp2_with fail
 refine(fE (x.VC.length:Int) B sa len cap size _ (by omega) hl S2.out.dr.src).mono ?_;rintro e W3 ⟨r3,rfl,lo3,hi3,hs,hg⟩;obtain⟨k,rfl⟩:=TZ lo3;have hk:k < x.VC.length:=by omega
 have S3:Hid (tA w B sa len cap size (w.heap.size+1) w.heap.size base (.slice (some ⟨gb,0,none⟩) x.VC.length cb1) (.slice (some ⟨gs,0,none⟩) x.UZ.length cs1) (x.VC) (x.UZ) W3):=S2.out.draw hs hg;clear hs hg S2 lo3 hi3 x0 x1;go_wp2_with fail
 refine(aT 6 B sa len cap size _ (by omega) (by omega) hl S3.out.dr.src).mono ?_;rintro e W4 ⟨r6,rfl,lo6,hi6,hs,hg⟩;have S4:Hid (tA w B sa len cap size (w.heap.size+1) w.heap.size base (.slice (some ⟨gb,0,none⟩) x.VC.length cb1) (.slice (some ⟨gs,0,none⟩) x.UZ.length cs1) (x.VC) (x.UZ) W4):=S3.out.draw hs hg;clear hs hg S3;have hkI:(k:Int) < (x.VC.length:Int):=by omega
 have hsI:(0:Int) < (x.UZ.length:Int):=by omega
 obtain⟨q,hq⟩: ∃q,q=x.VC[k]:=⟨_,rfl⟩;have HQ:Hid (q=x.VC[k]):=hq;have HQD:Hid (vG q):=by unfold Hid;rw[hq];exact HBD.out.2.2.1 _ (TY _)
 obtain⟨s,hs⟩: ∃s,s=x.UZ[0]:=⟨_,rfl⟩;have HS:Hid (s=x.UZ[0]):=hs;have HSD:Hid (LI s):=by unfold Hid;rw[hs];exact HBD.out.2.2.2 _ (TY _)
 clear hq hs;by_cases d0:r6=0
 case pos=>
  subst d0;clear lo6 hi6;go_upto_region 8 with fail
  have HCP:Hid (∀wy,Below W4.drew.heap.size W4.drew wy→_):=fun wy hy=>S4.out.below (bR.drew.trans hy)
  clear hun;refine aN [27,28,29,30,31,32,33,34] (by kernel_rfl) (by kernel_rfl) ?_;iterate 7 (apply bC.u rfl;(·intro K' a wy ho hd hb hK;simp[aS,aF,aD,Region.binds]at ho hd;have hst:=HCP.out wy hb;have ko:=hst.box.cell (j:=0) rfl;have d0:wy.cell? ⟨gb,k*5,none⟩=some (iV q.UU):=oK hst.bo rfl k hk 0 _ (by rw[←HQ.out];rfl);have d1:wy.cell? ⟨gb,k*5+1,none⟩=some (.string q.inn):=oK hst.bo rfl k hk 1 _ (by rw[←HQ.out];rfl);have d2:wy.cell? ⟨gb,k*5+2,none⟩=some (iV q.UW):=oK hst.bo rfl k hk 2 _ (by rw[←HQ.out];rfl);have d3:wy.cell? ⟨gb,k*5+3,none⟩=some (.string q.out):=oK hst.bo rfl k hk 3 _ (by rw[←HQ.out];rfl);have d4:wy.cell? ⟨gb,k*5+4,none⟩=some (iV q.UX):=oK hst.bo rfl k hk 4 _ (by rw[←HQ.out];rfl);clear hst;go_simp;(try go_bits);exact hK _ _ rfl bQ);dsimp only[nA,cA])
  refine bC.rel (n:=7) (jA (eG q)) (gB _ (by simp[eG])) [_,_,_,_,_,_,_,jA (eG q)] rfl rfl ?_ ?_
  ·intro K' a wy ho hd hb hK;rw[wN rfl];have q6:=hd ⟨6,.data⟩ (by simp) rfl;simp[aS,aF,aD]at q6;clear hd ho;go_simp;exact hK _ _ ⟨wy.heap.size,rfl,aA.new wy (eG q) _⟩ (bR.alloc lR _)
  intro X wz hR hz;obtain⟨x0,x1,x2,x3,x4,x5,x6,x7,-⟩:=hR;simp only[aF]at x0 x1 x2 x3 x4 x5 x6;simp only[aE,x0,x1,x2,x3,x4,x5,x6,aE];clear x0 x1 x2 x3 x4 x5 x6;obtain⟨g7,e7,r7⟩:=x7;have SZ:=HCP.out wz hz;obtain⟨v6,w6,hrun,hO6,S6⟩:=SZ.appB q g7 r7 (by omega);have HRUN:Hid _:=hrun;have HS6:Hid _:=S6;have p1:=hO6.cell (j:=0) rfl;have p2:=hO6.free (j:=0) (by simp);obtain⟨a8,c8,e8,-,-⟩:=S6.shapes.1;have hv6:∃a n c,v6=.slice a n c:=⟨_,_,_,e8⟩;clear hrun S6 hO6 SZ r7 hz HCP e8;obtain⟨a8,n8,c8,rfl⟩:=hv6;simp only[e7];simp only[List.length_cons,List.length_nil,List.drop_succ_cons,List.drop_zero,TX,Nat.reduceAdd];intro K5 hK5;with_reducible refine dC (.tmp 28) (.tmp 34) _ rfl ?_ ?_ HRUN.out (hK5 _ _ ?_)
  ·simp[Act.eval,Act.put]
  ·simp[Act.eval,Act.put]
  intro K6 hK6;go_simp;refine hK6 _ _ ?_;intro K7 hK7;go_simp;refine hK7 _ _ ?_;simp only[fO];clear HRUN p1 p2;generalize (w6.setCell ⟨w.heap.size,0,none⟩ (.slice a8 n8 c8))=W8 at *;have HF:Hid (NU w B sa len cap size (w.heap.size+1) w.heap.size base W8):=HS6.out.fin ⟨by simp;omega,by show x.UZ.length≤100;omega,uH HBD.out.2.2.1 HQD.out,HBD.out.2.2.2⟩;obtain⟨y,fa,fb,fc,fd,hy,hX,hR,hbi,hfa,hfb,hdr⟩:=HF.out;clear HF;obtain⟨x0,x1⟩:=hX.c2;obtain⟨z0,z1⟩:=hR.c2;obtain⟨zf0,zf1⟩:=hR.f2;obtain⟨HRR,DD,BI,HY⟩:=rS (fc:=fc) (fd:=fd) hy hR hbi (fun g o e=>by have:=hfa g o e;omega) (fun g o e=>by have:=hfb g o e;omega) hdr;clear hy hX hR hbi hfa hfb hdr;go_wp2_with fail
  exact UQ (aG Tryz.results90 _ _ _ _ _ rfl HRR.out Tryz.underlying31 rfl (show (Tryz.prog.info? 31).map (·.size)=some 2 by kernel_rfl)) rfl ⟨y,fa,fb,fc,fd,rfl,HY.out.1,BI.out,HY.out.2.1,HY.out.2.2,DD.out.src,DD.out.grown⟩
 have b0:(r6==0)=false:=by simp[d0]
 by_cases d1:r6=1
 case pos=>
  subst d1;clear lo6 hi6;go_upto_region 10 with fail
  clear hun;refine eU (EB B) (fun wx=>tA w B sa len cap size (w.heap.size+1) w.heap.size base (.slice (some ⟨gb,0,none⟩) x.VC.length cb1) (.slice (some ⟨gs,0,none⟩) x.UZ.length cs1) (x.VC) (x.UZ) wx∧W4.heap.size≤wx.heap.size) [39,40,41,42,43,44,45,46,47,48] (by kernel_rfl) (by kernel_rfl) (⟨S4.out.below bR.drew,Nat.le_refl _⟩) ?_;iterate 3 (apply cP.u xQ rfl;(·intro K' a wy ho hd hI hK;simp[aS,aF,aD,Region.binds]at ho hd;have ko:=hI.1.box.cell (j:=0) rfl;go_simp;(try go_bits);exact hK _ rfl);dsimp only[nA,cA])
  refine cP.rel (n:=3) (IM B 4 0 70000) (NH _ _ _ _) [_,_,_,IM B 4 0 70000] rfl rfl ?_ ?_
  ·intro K' a wy ho hd hI hK;rw[wN rfl];clear hd ho;go_simp;exact hK _ _ ⟨wy.heap.size,rfl,by have:=hI.1.dr.le;omega,fun j hj=>by
    match j,hj with
    | 0,_=>exact⟨_,bW rfl,by omega,by omega⟩
    | 1,_=>exact⟨_,bW rfl,by omega,by omega⟩
    | 2,_=>exact⟨_,bW rfl,by omega,by omega⟩
    | 3,_=>exact⟨_,bW rfl,by omega,by omega⟩⟩ (EB.of (bR.alloc lR _)) ⟨hI.1.below (bR.alloc lR _),by simp;omega⟩
  (apply cP.u xQ rfl;(·intro K' a wy ho hd hI hK;simp[aS,aF,aD,Region.binds]at ho hd;go_simp;(try go_bits);exact hK _ rfl);dsimp only[nA,cA])
  refine cP.rel (n:=5) (XR 0 3) (qB _ _ _) [_,_,_,_,_,XR 0 3] rfl rfl ?_ ?_
  ·intro K' a wy ho hd hI hK;rw[wN rfl];have q4:=hd ⟨4,.data⟩ (by simp) rfl;simp[aS,aF,aD]at q4;clear hd ho;go_simp;refine(fE 4 B sa len cap size wy (by omega) hl hI.1.dr.src).mono ?_;rintro e wz ⟨r,rfl,h0,h1,hsz,hgz⟩;exact hK _ _ ⟨r,rfl,by omega,by omega⟩ hgz ⟨hI.1.draw hsz hgz,UA hI.2 hgz.size⟩
  refine cP.rel (n:=6) (IL B 0 70000) (NG _ _ _) [_,_,_,_,_,_,IL B 0 70000] rfl rfl ?_ ?_
  ·intro K' a wy ho hd hI hK;rw[wN rfl];obtain⟨b3,e3,nb3,g3⟩: IM B 4 0 70000 (aD a 42) wy:=hd ⟨3,.data⟩ (by simp) rfl;simp[aD]at e3;obtain⟨r5,e5,l5,u5⟩: XR 0 3 (aD a 44) wy:=hd ⟨5,.data⟩ (by simp) rfl;simp[aD]at e5;clear hd ho;obtain⟨kk,hkk⟩:=TZ (a:=r5) (by omega);subst hkk;obtain⟨yy,hyy,ly,uy⟩:=g3 kk (by omega);have i0:(kk:Int) < 4:=by omega
   go_simp;exact hK _ _ ⟨b3,kk,yy,rfl,nb3,hyy,ly,uy⟩ (EB.of bR) hI
  refine cP.rel (n:=7) (XR 0 70000) (qB _ _ _) [_,_,_,_,_,_,_,XR 0 70000] rfl rfl ?_ ?_
  ·intro K' a wy ho hd hI hK;rw[wN rfl];obtain⟨b6,k6,y6,e6,nb6,c6,l6,u6⟩: IL B 0 70000 (aD a 45) wy:=hd ⟨6,.data⟩ (by simp) rfl;simp[aD]at e6;clear hd ho;have ko:=hI.1.box.cell (j:=0) rfl;go_simp;exact hK _ _ ⟨y6,rfl,l6,u6⟩ (EB.of bR) hI
  iterate 2 (apply cP.u xQ rfl;(·intro K' a wy ho hd hI hK;simp[aS,aF,aD,Region.binds]at ho hd;go_simp;(try go_bits);exact hK _ rfl);dsimp only[nA,cA])
  intro X wz hR hI;obtain⟨x0,x1,x2,x3,x4,x5,x6,x7,x8,x9,-⟩:=hR;obtain⟨r7,e7,l7,u7⟩:=x7;simp only[aF]at x0 x1 x2 x4 x8 x9;simp only[aE,x0,x1,x2,aE,x4,aE,aE,e7,x8,x9];clear x0 x1 x2 x4 x8 x9;have c4:wz.cell? ⟨gb,k*5+4,none⟩=some (iV q.UX):=oK hI.1.bo rfl k hk 4 _ (by rw[←HQ.out];rfl);have f4:wz.frozen? ⟨gb,k*5+4,none⟩=false:=mS hI.1.bo _;have S6:Hid _:=hI.1.setB rfl k hk 4 (by decide) (iV r7) { q with UX:=r7 } (by rw[←HQ.out];rfl);clear hI;intro K5 hK5;go_simp;refine hK5 _ _ ?_;simp only[fO];clear c4 f4;generalize wz.setCell ⟨gb,k*5+4,none⟩ (iV r7)=W8 at *;have HF:Hid (NU w B sa len cap size (w.heap.size+1) w.heap.size base W8):=S6.out.fin ⟨by simp;omega,by show x.UZ.length≤100;omega,rL HBD.out.2.2.1 ⟨HQD.out.1,HQD.out.2.1,HQD.out.2.2.1,HQD.out.2.2.2.1,by show uY r7;unfold uY;omega⟩,HBD.out.2.2.2⟩;obtain⟨y,fa,fb,fc,fd,hy,hX,hR,hbi,hfa,hfb,hdr⟩:=HF.out;clear HF;obtain⟨x0,x1⟩:=hX.c2;obtain⟨z0,z1⟩:=hR.c2;obtain⟨zf0,zf1⟩:=hR.f2;obtain⟨HRR,DD,BI,HY⟩:=rS (fc:=fc) (fd:=fd) hy hR hbi (fun g o e=>by have:=hfa g o e;omega) (fun g o e=>by have:=hfb g o e;omega) hdr;clear hy hX hR hbi hfa hfb hdr;go_wp2_with fail
  exact UQ (aG Tryz.results90 _ _ _ _ _ rfl HRR.out Tryz.underlying31 rfl (show (Tryz.prog.info? 31).map (·.size)=some 2 by kernel_rfl)) rfl ⟨y,fa,fb,fc,fd,rfl,HY.out.1,BI.out,HY.out.2.1,HY.out.2.2,DD.out.src,DD.out.grown⟩
 have b1:(r6==1)=false:=by simp[d1]
 by_cases d2:r6=2
 case pos=>
  subst d2;clear lo6 hi6;have HHx:aA W4 w.heap.size (bF (some ⟨gb,0,none⟩) cb1 (some ⟨gs,0,none⟩) cs1 x):=S4.out.box;obtain⟨x0,x1⟩:=HHx.c2;have xf1:=HHx.free (j:=1) (by simp);clear HHx;have hcs:x.UZ.length≤cs1:=by
   obtain⟨a9,c9,e9,h9,-⟩:=S4.out.shapes.2;injection e9 with _ _ e9
   omega
  have hcsI:(1:Int)≤(x.UZ.length:Int):=by omega
  have hcsJ:(x.UZ.length:Int)≤(cs1:Int):=by omega
  have HF0:Hid (NU w B sa len cap size (w.heap.size+1) w.heap.size base (W4.setCell ⟨w.heap.size,1,none⟩ (.slice (if cs1=1 then some ⟨gs,0,none⟩ else some ⟨gs,7,none⟩) (x.UZ.length-1) (cs1-1)))):=by
   have hX:=S4.out.hX;have hgb1:=(fC S4.out.bo (g:=gb) rfl).1;have hgs1:=(fC S4.out.so (g:=gs) rfl).1;obtain⟨⟨a1,c1,e1,-,h1⟩,a2,c2,e2,-,h2⟩:=S4.out.shapes;injection e1 with i1 _ i3
   injection e2 with j1 _ j3
   subst i1 i3 j1 j3;have hfar:∀g o,(if cs1=1 then some (⟨gs,0,none⟩: Addr) else some ⟨gs,7,none⟩)=some ⟨g,o,none⟩→base≤g:=fun g o e=>by
    split at e<;>(injection e with e;injection e with e _;omega)
   refine⟨⟨x.VC,x.UZ.tail⟩,some ⟨gb,0,none⟩,(if cs1=1 then some ⟨gs,0,none⟩ else some ⟨gs,7,none⟩),cb1,cs1-1,⟨by show x.VC.length≤100;omega,by simp;omega,HBD.out.2.2.1,fun y hy=>HBD.out.2.2.2 y (List.mem_of_mem_tail hy)⟩,?_,S4.out.out.setOther S4.out.ne.symm _,⟨nW h1.is 1 _ _ (fun g o e=>by injection e with e;injection e with e _;omega),nW ?_ 1 _ _ (fun g o e=>by have:=hfar g o e;omega)⟩,fun g o e=>by injection e with e;injection e with e _;omega,hfar,S4.out.dr.set _ 1 _ hX.1⟩
   ·have h:=S4.out.box.set 1 (.slice (if cs1=1 then some ⟨gs,0,none⟩ else some ⟨gs,7,none⟩) (x.UZ.length-1) (cs1-1));show aA _ _ [_,_];simpa using h
   ·by_cases hc9:cs1=1
    ·refine .inl ?_;have h9:x.UZ.length=1:=by omega
     exact List.length_eq_zero_iff.1 (by show x.UZ.tail.length=0;simp;omega)
    rw[if_neg hc9];refine .inr ⟨gs,7,rfl,(fC S4.out.so (g:=gs) rfl).2,fun i hi j v hv=>?_⟩;simp at hi;have h:=fF S4.out.so rfl (i+1) (by omega) j v (by simpa using hv);rw[show 7+i*7+j=(i+1)*7+j by omega];exact h
  go_upto_region 17 with fail
  clear x0 x1 xf1;generalize (if cs1=1 then some (⟨gs,0,none⟩: Addr) else some ⟨gs,7,none⟩)=na at *;generalize (W4.setCell ⟨w.heap.size,1,none⟩ (.slice na (x.UZ.length-1) (cs1-1)))=W8 at *;have HF:Hid (NU w B sa len cap size (w.heap.size+1) w.heap.size base W8):=HF0.out;obtain⟨y,fa,fb,fc,fd,hy,hX,hR,hbi,hfa,hfb,hdr⟩:=HF.out;clear HF;obtain⟨x0,x1⟩:=hX.c2;obtain⟨z0,z1⟩:=hR.c2;obtain⟨zf0,zf1⟩:=hR.f2;obtain⟨HRR,DD,BI,HY⟩:=rS (fc:=fc) (fd:=fd) hy hR hbi (fun g o e=>by have:=hfa g o e;omega) (fun g o e=>by have:=hfb g o e;omega) hdr;clear hy hX hR hbi hfa hfb hdr;go_wp2_with fail
  exact UQ (aG Tryz.results90 _ _ _ _ _ rfl HRR.out Tryz.underlying31 rfl (show (Tryz.prog.info? 31).map (·.size)=some 2 by kernel_rfl)) rfl ⟨y,fa,fb,fc,fd,rfl,HY.out.1,BI.out,HY.out.2.1,HY.out.2.2,DD.out.src,DD.out.grown⟩
 have b2:(r6==2)=false:=by simp[d2]
 by_cases d3:r6=3
 case pos=>
  subst d3;clear lo6 hi6;go_upto_region 14 with fail
  clear hun;refine eU (EB B) (fun wx=>tA w B sa len cap size (w.heap.size+1) w.heap.size base (.slice (some ⟨gb,0,none⟩) x.VC.length cb1) (.slice (some ⟨gs,0,none⟩) x.UZ.length cs1) (x.VC) (x.UZ) wx∧W4.heap.size≤wx.heap.size) [57,58,59,60,61,62] (by kernel_rfl) (by kernel_rfl) (⟨S4.out.below bR.drew,Nat.le_refl _⟩) ?_;iterate 3 (apply cP.u xQ rfl;(·intro K' a wy ho hd hI hK;simp[aS,aF,aD,Region.binds]at ho hd;have ko:=hI.1.box.cell (j:=1) rfl;go_simp;(try go_bits);exact hK _ rfl);dsimp only[nA,cA])
  refine cP.rel (n:=3) (XR 0 8) (qB _ _ _) [_,_,_,XR 0 8] rfl rfl ?_ ?_
  ·intro K' a wy ho hd hI hK;rw[wN rfl];have q2:=hd ⟨2,.data⟩ (by simp) rfl;simp[aS,aF,aD]at q2;clear hd ho;go_simp;refine(fE 9 B sa len cap size wy (by omega) hl hI.1.dr.src).mono ?_;rintro e wz ⟨r,rfl,h0,h1,hsz,hgz⟩;exact hK _ _ ⟨r,rfl,by omega,by omega⟩ hgz ⟨hI.1.draw hsz hgz,UA hI.2 hgz.size⟩
  iterate 2 (apply cP.u xQ rfl;(·intro K' a wy ho hd hI hK;simp[aS,aF,aD,Region.binds]at ho hd;go_simp;(try go_bits);exact hK _ rfl);dsimp only[nA,cA])
  intro X wz hR hI;obtain⟨x0,x1,x2,x3,x4,x5,-⟩:=hR;obtain⟨r3,e3,l3,u3⟩:=x3;simp only[aF]at x0 x1 x2 x4 x5;simp only[aE,x0,x1,x2,e3,x4,x5];clear x0 x1 x2 x4 x5;have c5:wz.cell? ⟨gs,5,none⟩=some (iV s.state):=by have h:=fF hI.1.so rfl 0 hsp 5 (iV s.state) (by rw[←HS.out];rfl);simpa using h
  have f5:wz.frozen? ⟨gs,5,none⟩=false:=mS hI.1.so _;have S6:Hid (tA w B sa len cap size (w.heap.size+1) w.heap.size base (.slice (some ⟨gb,0,none⟩) x.VC.length cb1) (.slice (some ⟨gs,0,none⟩) x.UZ.length cs1) (x.VC) (x.UZ.set 0 { s with state:=r3 }) (wz.setCell ⟨gs,5,none⟩ (iV r3))):=by unfold Hid;have h:=hI.1.setS rfl 0 hsp 5 (by decide) (iV r3) { s with state:=r3 } (by rw[←HS.out];rfl);simpa using h
  clear hI;intro K5 hK5;go_simp;refine hK5 _ _ ?_;simp only[fO];clear c5 f5;generalize (wz.setCell ⟨gs,5,none⟩ (iV r3))=W8 at *;have HF:Hid (NU w B sa len cap size (w.heap.size+1) w.heap.size base W8):=S6.out.fin ⟨by show x.VC.length≤100;omega,by simp;omega,HBD.out.2.2.1,rL HBD.out.2.2.2 HSD.out⟩;obtain⟨y,fa,fb,fc,fd,hy,hX,hR,hbi,hfa,hfb,hdr⟩:=HF.out;clear HF;obtain⟨x0,x1⟩:=hX.c2;obtain⟨z0,z1⟩:=hR.c2;obtain⟨zf0,zf1⟩:=hR.f2;obtain⟨HRR,DD,BI,HY⟩:=rS (fc:=fc) (fd:=fd) hy hR hbi (fun g o e=>by have:=hfa g o e;omega) (fun g o e=>by have:=hfb g o e;omega) hdr;clear hy hX hR hbi hfa hfb hdr;go_wp2_with fail
  exact UQ (aG Tryz.results90 _ _ _ _ _ rfl HRR.out Tryz.underlying31 rfl (show (Tryz.prog.info? 31).map (·.size)=some 2 by kernel_rfl)) rfl ⟨y,fa,fb,fc,fd,rfl,HY.out.1,BI.out,HY.out.2.1,HY.out.2.2,DD.out.src,DD.out.grown⟩
 have b3:(r6==3)=false:=by simp[d3]
 by_cases d4:r6=4
 case pos=>
  subst d4;clear lo6 hi6;go_upto_region 16 with fail
  have HCP:Hid (∀wy,Below W4.drew.heap.size W4.drew wy→_):=fun wy hy=>S4.out.below (bR.drew.trans hy)
  clear hun;refine aN [65,66,67,68,69,70,71] (by kernel_rfl) (by kernel_rfl) ?_;apply bC.v0
  ·rfl
  ·intro K' a wy ho hd hb hK kz;have o3:=ho 3 (by decide);simp[aD]at o3;clear hd ho;go_simp;try go_bits
   exact kz _ rfl
  apply bC.v1
  ·rfl
  ·intro K' a wy ho hd hb hK kz;have q0:=hd ⟨0,.data⟩ (by simp) rfl;simp[aS,aF,aD]at q0;clear hd ho;have hst:=HCP.out wy hb;have ko:=hst.box.cell (j:=1) rfl;have d0:wy.cell? ⟨gs,0,none⟩=some (iV s.UU):=by have h:=fF hst.so rfl 0 hsp 0 (iV s.UU) (by rw[←HS.out];rfl);simpa using h
   have d1:wy.cell? ⟨gs,1,none⟩=some (.string s.inn):=by have h:=fF hst.so rfl 0 hsp 1 (.string s.inn) (by rw[←HS.out];rfl);simpa using h
   have d2:wy.cell? ⟨gs,2,none⟩=some (iV s.UW):=by have h:=fF hst.so rfl 0 hsp 2 (iV s.UW) (by rw[←HS.out];rfl);simpa using h
   have d3:wy.cell? ⟨gs,3,none⟩=some (.string s.peer):=by have h:=fF hst.so rfl 0 hsp 3 (.string s.peer) (by rw[←HS.out];rfl);simpa using h
   have d4:wy.cell? ⟨gs,4,none⟩=some (iV s.UV):=by have h:=fF hst.so rfl 0 hsp 4 (iV s.UV) (by rw[←HS.out];rfl);simpa using h
   have d5:wy.cell? ⟨gs,5,none⟩=some (iV s.state):=by have h:=fF hst.so rfl 0 hsp 5 (iV s.state) (by rw[←HS.out];rfl);simpa using h
   have d6:wy.cell? ⟨gs,6,none⟩=some (iV s.untl):=by have h:=fF hst.so rfl 0 hsp 6 (iV s.untl) (by rw[←HS.out];rfl);simpa using h
   clear hst;go_simp;try go_bits
   exact kz _ rfl
  apply bC.v2
  ·rfl
  ·intro K' a wy ho hd hb hK kz;have o3:=ho 3 (by decide);simp[aD]at o3;clear hd ho;go_simp;try go_bits
   exact kz _ rfl
  apply bC.v3
  ·rfl
  ·intro K' a wy ho hd hb hK kz;have q2:=hd ⟨2,.data⟩ (by simp) rfl;simp[aS,aF,aD]at q2;clear hd ho;have hst:=HCP.out wy hb;have ko:=hst.box.cell (j:=1) rfl;have d0:wy.cell? ⟨gs,0,none⟩=some (iV s.UU):=by have h:=fF hst.so rfl 0 hsp 0 (iV s.UU) (by rw[←HS.out];rfl);simpa using h
   have d1:wy.cell? ⟨gs,1,none⟩=some (.string s.inn):=by have h:=fF hst.so rfl 0 hsp 1 (.string s.inn) (by rw[←HS.out];rfl);simpa using h
   have d2:wy.cell? ⟨gs,2,none⟩=some (iV s.UW):=by have h:=fF hst.so rfl 0 hsp 2 (iV s.UW) (by rw[←HS.out];rfl);simpa using h
   have d3:wy.cell? ⟨gs,3,none⟩=some (.string s.peer):=by have h:=fF hst.so rfl 0 hsp 3 (.string s.peer) (by rw[←HS.out];rfl);simpa using h
   have d4:wy.cell? ⟨gs,4,none⟩=some (iV s.UV):=by have h:=fF hst.so rfl 0 hsp 4 (iV s.UV) (by rw[←HS.out];rfl);simpa using h
   have d5:wy.cell? ⟨gs,5,none⟩=some (iV s.state):=by have h:=fF hst.so rfl 0 hsp 5 (iV s.state) (by rw[←HS.out];rfl);simpa using h
   have d6:wy.cell? ⟨gs,6,none⟩=some (iV s.untl):=by have h:=fF hst.so rfl 0 hsp 6 (iV s.untl) (by rw[←HS.out];rfl);simpa using h
   clear hst;go_simp;try go_bits
   exact kz _ rfl
  (apply bC.u rfl;(·intro K' a wy ho hd hb hK;simp[aS,aF,aD,Region.binds]at ho hd;go_simp;(try go_bits);exact hK _ _ rfl bQ);dsimp only[nA,cA])
  apply bC.v5
  ·rfl
  ·intro K' a wy ho hd hb hK kz;have q4:=hd ⟨4,.data⟩ (by simp) rfl;simp[aS,aF,aD]at q4;clear hd ho;have hst:=HCP.out wy hb;have ko:=hst.box.cell (j:=1) rfl;have d0:wy.cell? ⟨gs,0,none⟩=some (iV s.UU):=by have h:=fF hst.so rfl 0 hsp 0 (iV s.UU) (by rw[←HS.out];rfl);simpa using h
   have d1:wy.cell? ⟨gs,1,none⟩=some (.string s.inn):=by have h:=fF hst.so rfl 0 hsp 1 (.string s.inn) (by rw[←HS.out];rfl);simpa using h
   have d2:wy.cell? ⟨gs,2,none⟩=some (iV s.UW):=by have h:=fF hst.so rfl 0 hsp 2 (iV s.UW) (by rw[←HS.out];rfl);simpa using h
   have d3:wy.cell? ⟨gs,3,none⟩=some (.string s.peer):=by have h:=fF hst.so rfl 0 hsp 3 (.string s.peer) (by rw[←HS.out];rfl);simpa using h
   have d4:wy.cell? ⟨gs,4,none⟩=some (iV s.UV):=by have h:=fF hst.so rfl 0 hsp 4 (iV s.UV) (by rw[←HS.out];rfl);simpa using h
   have d5:wy.cell? ⟨gs,5,none⟩=some (iV s.state):=by have h:=fF hst.so rfl 0 hsp 5 (iV s.state) (by rw[←HS.out];rfl);simpa using h
   have d6:wy.cell? ⟨gs,6,none⟩=some (iV s.untl):=by have h:=fF hst.so rfl 0 hsp 6 (iV s.untl) (by rw[←HS.out];rfl);simpa using h
   clear hst;go_simp;try go_bits
   exact kz _ rfl
  refine bC.rel (n:=6) (jA (fY s)) (gB _ (by simp[fY])) [_,_,_,_,_,_,jA (fY s)] rfl rfl ?_ ?_
  ·intro K' a wy ho hd hb hK;rw[wN rfl];have q5:=hd ⟨5,.data⟩ (by simp) rfl;simp[aS,aF,aD]at q5;clear hd ho;go_simp;exact hK _ _ ⟨wy.heap.size,rfl,aA.new wy (fY s) _⟩ (bR.alloc lR _)
  intro X wz hR hz;obtain⟨x0,x1,x2,x3,x4,x5,x6,-⟩:=hR;simp only[aF]at x0 x1 x2 x3 x4 x5;simp only[aE,x0,x1,x2,x3,x4,x5,aE];clear x0 x1 x2 x3 x4 x5;obtain⟨g7,e7,r7⟩:=x6;have SZ:=HCP.out wz hz;obtain⟨v6,w6,hrun,hO6,S6⟩:=SZ.appS s g7 r7 (by omega);have HRUN:Hid _:=hrun;have HS6:Hid _:=S6;have p1:=hO6.cell (j:=1) rfl;have p2:=hO6.free (j:=1) (by simp);obtain⟨a8,c8,e8,-,-⟩:=S6.shapes.2;have hv6:∃a n c,v6=.slice a n c:=⟨_,_,_,e8⟩;clear hrun S6 hO6 SZ r7 hz HCP e8;obtain⟨a8,n8,c8,rfl⟩:=hv6;simp only[e7];simp only[List.length_cons,List.length_nil,List.drop_succ_cons,List.drop_zero,TX,Nat.reduceAdd];intro K5 hK5;with_reducible refine dC (.tmp 66) (.tmp 71) _ rfl ?_ ?_ HRUN.out (hK5 _ _ ?_)
  ·simp[Act.eval,Act.put]
  ·simp[Act.eval,Act.put]
  intro K6 hK6;go_simp;refine hK6 _ _ ?_;intro K7 hK7;go_simp;refine hK7 _ _ ?_;simp only[fO];clear HRUN p1 p2;generalize (w6.setCell ⟨w.heap.size,1,none⟩ (.slice a8 n8 c8))=W8 at *;have HF:Hid (NU w B sa len cap size (w.heap.size+1) w.heap.size base W8):=HS6.out.fin ⟨by show x.VC.length≤100;omega,by simp;omega,HBD.out.2.2.1,uH HBD.out.2.2.2 HSD.out⟩;obtain⟨y,fa,fb,fc,fd,hy,hX,hR,hbi,hfa,hfb,hdr⟩:=HF.out;clear HF;obtain⟨x0,x1⟩:=hX.c2;obtain⟨z0,z1⟩:=hR.c2;obtain⟨zf0,zf1⟩:=hR.f2;obtain⟨HRR,DD,BI,HY⟩:=rS (fc:=fc) (fd:=fd) hy hR hbi (fun g o e=>by have:=hfa g o e;omega) (fun g o e=>by have:=hfb g o e;omega) hdr;clear hy hX hR hbi hfa hfb hdr;go_wp2_with fail
  exact UQ (aG Tryz.results90 _ _ _ _ _ rfl HRR.out Tryz.underlying31 rfl (show (Tryz.prog.info? 31).map (·.size)=some 2 by kernel_rfl)) rfl ⟨y,fa,fb,fc,fd,rfl,HY.out.1,BI.out,HY.out.2.1,HY.out.2.2,DD.out.src,DD.out.grown⟩
 have b4:(r6==4)=false:=by simp[d4]
 have HHx:aA W4 w.heap.size (bF (some ⟨gb,0,none⟩) cb1 (some ⟨gs,0,none⟩) cs1 x):=S4.out.box;obtain⟨x0,x1⟩:=HHx.c2;clear HHx;have c3:W4.cell? ⟨gb,k*5+3,none⟩=some (.string q.out):=oK S4.out.bo rfl k hk 3 _ (by rw[←HQ.out];rfl);have f3:W4.frozen? ⟨gb,k*5+3,none⟩=false:=mS S4.out.bo _;have S6:Hid _:=S4.out.setB rfl k hk 3 (by decide) (.string ⟨#[203,0,113,2]⟩) { q with out:=⟨#[203,0,113,2]⟩ } (by rw[←HQ.out];rfl);go_upto_region 17 with fail
 clear c3 f3 x0 x1 S4;generalize W4.setCell ⟨gb,k*5+3,none⟩ (.string ⟨#[203,0,113,2]⟩)=W8 at *;have HF:Hid (NU w B sa len cap size (w.heap.size+1) w.heap.size base W8):=S6.out.fin ⟨by simp;omega,by show x.UZ.length≤100;omega,rL HBD.out.2.2.1 ⟨HQD.out.1,by show (⟨#[203,0,113,2]⟩: BA).size≤1000;decide,HQD.out.2.2⟩,HBD.out.2.2.2⟩;obtain⟨y,fa,fb,fc,fd,hy,hX,hR,hbi,hfa,hfb,hdr⟩:=HF.out;clear HF;obtain⟨x0,x1⟩:=hX.c2;obtain⟨z0,z1⟩:=hR.c2;obtain⟨zf0,zf1⟩:=hR.f2;obtain⟨HRR,DD,BI,HY⟩:=rS (fc:=fc) (fd:=fd) hy hR hbi (fun g o e=>by have:=hfa g o e;omega) (fun g o e=>by have:=hfb g o e;omega) hdr;clear hy hX hR hbi hfa hfb hdr;go_wp2_with fail
 exact UQ (aG Tryz.results90 _ _ _ _ _ rfl HRR.out Tryz.underlying31 rfl (show (Tryz.prog.info? 31).map (·.size)=some 2 by kernel_rfl)) rfl ⟨y,fa,fb,fc,fd,rfl,HY.out.1,BI.out,HY.out.2.1,HY.out.2.2,DD.out.src,DD.out.grown⟩
end Go.Proofs.YtdkepkaflielhaaGreatDoor
