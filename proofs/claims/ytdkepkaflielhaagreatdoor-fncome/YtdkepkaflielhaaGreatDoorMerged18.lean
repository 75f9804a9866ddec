import Derived.Test.YtdkepkaflielhaaGreatDoorMerged17
set_option linter.unusedVariables false
set_option linter.unusedSimpArgs false
set_option maxRecDepth 100000
set_option maxHeartbeats 8000000
namespace Go.Proofs.YtdkepkaflielhaaGreatDoor
open Go.RowKit Go.PlainAid
structure SpS (w:World) (B:Nat) (sa:Option Addr) (len cap:Nat) (size:Int) (R X base:Nat) (bv sv:Value) (ys:List Bd) (zs:List Ss) (wx:World):Prop where
 dr:Dr w B sa len cap size wx
 out:HoldsL wx R [.slice none 0 0,.slice none 0 0]
 box:HoldsL wx X [bv,sv]
 bo:wx.ownsRow base 48 5 bv ys.length (flatS bdL ys)
 so:wx.ownsRow base 59 7 sv zs.length (flatS ssL zs)
 hX:w.heap.size≤X∧X < base
 hR:w.heap.size≤R∧R < base
 ne:X≠R
 wb:w.heap.size≤base
 hb:base≤wx.heap.size
def SpF (w:World) (B:Nat) (sa:Option Addr) (len cap:Nat) (size:Int) (R X base:Nat) (wx:World):Prop :=
 ∃ (y:Bb) (a b:Option Addr) (c d:Nat),BbDr y∧HoldsL wx X (BbV a c b d y)∧HoldsL wx R [.slice none 0 0,.slice none 0 0]∧BbIs wx a b y∧(∀ g o,a=some ⟨g,o,none⟩→base≤g)∧(∀ g o,b=some ⟨g,o,none⟩→base≤g)∧Dr w B sa len cap size wx
section
variable {w wx wy:World} {B:Nat} {sa:Option Addr} {len cap:Nat} {size:Int} {R X base:Nat} {bv sv:Value} {ys:List Bd} {zs:List Ss}
theorem SpS.draw (h:SpS w B sa len cap size R X base bv sv ys zs wx) (hs:Src wy B sa len cap size) (hg:wx.grownBy wy (some B)):SpS w B sa len cap size R X base bv sv ys zs wy:=by
 have hB:=h.dr.hB;have hX:=h.hX;have hR:=h.hR;have hw:=h.wb;exact ⟨h.dr.draw hs hg,h.out.grown (by simp) hg (by simp; omega),h.box.grown (by simp) hg (by simp; omega),own_EB h.bo hg (by omega),own_EB h.so hg (by omega),h.hX,h.hR,h.ne,h.wb,Nat.le_trans h.hb hg.size⟩
theorem SpS.below (h:SpS w B sa len cap size R X base bv sv ys zs wx) (hb:Below wx.heap.size wx wy):SpS w B sa len cap size R X base bv sv ys zs wy :=
 ⟨h.dr.below hb,h.out.kept (by simp) hb,h.box.kept (by simp) hb,own_stable h.bo hb,own_stable h.so hb,h.hX,h.hR,h.ne,h.wb,Nat.le_trans h.hb hb.size⟩
theorem dr_row {r:Option Nat} (h:Dr w B sa len cap size wx) (hg:wx.grownBy wy r) (hr:∀ k,r=some k→w.heap.size≤k):Dr w B sa len cap size wy:=by
 have hB:=h.hB;refine ⟨h.src.kept hg (fun k e=>by have:=hr k e; omega),?_,h.hB⟩;have h1:=h.grown;exact ⟨hg.os.trans h1.os,hg.tape.trans h1.tape,hg.output.trans h1.output,Nat.le_trans h1.size hg.size,fun k hk hne=>(hg.block k (Nat.lt_of_lt_of_le hk h1.size) (fun e=>by have:=hr k e.symm; omega)).trans (h1.block k hk hne)⟩
theorem SpS.appB (h:SpS w B sa len cap size R X base bv sv ys zs wx) (q:Bd) (g:Nat) (hg:HoldsL wx g (bdL q)) (hlen:ys.length≤1048576) :
  ∃ v6 w6,(Builtin.append_ #[28,28] 28 #[bv,.slice (some ⟨g,0,none⟩) 1 1]).run Tryz.prog wx=.ok v6 w6∧HoldsL w6 X [bv,sv]∧SpS w B sa len cap size R X base v6 sv (ys++[q]) zs (w6.setCell ⟨X,0,none⟩ v6):=by
 obtain ⟨i0,hi,hz0,hz1,hz2⟩:=info_parts Tryz.infoBd;have hX:=h.hX;have hR:=h.hR;have hw:=h.wb;have hbb:=h.hb;obtain ⟨v6,w6,hrun,h62,h63,h64,h65⟩:=run_append_own_at (P:=Tryz.prog) wx base 28 28 48 i0 _ 5 _ Tryz.underlying28 hi hz0 hz1 hz2 rfl (by decide) bv _ _ h.bo ⟨g,0,none⟩ 1 1 (bdL q) rfl (fun i u hu=>by rw [add_at]; exact hg.cell hu) (bdL_one q) (by unfold maxLen; omega) (by omega) h.hb;have hnr:∀ Y,Y < base→some Y≠bv.ownBlock:=fun Y hY e=>ownC_ne h.bo hY e.symm
 have n6:v6.ownBlock≠some X:=by
  rcases h65 with h7 | h7<;>rw [h7]
  ·exact ownC_ne h.bo (by omega)
  ·intro e; injection e with e; omega
 have hO:=h.box.grown (by simp) h63 (hnr _ (by omega));have hold:=World.ownsRow.kept h.so h63 (by
  by_cases e:sv.ownBlock=none
  ·exact .inl e
  ·refine .inr (fun e2=>?_);obtain ⟨k,hk⟩:=Option.ne_none_iff_exists'.1 e;exact ownT_ne h.bo h.so (by decide) k (e2 ▸ hk) hk)
 refine ⟨v6,w6,hrun,hO,⟨(dr_row h.dr h63 (fun k e=>by have:=(ownC_in h.bo e).1; omega)).set X 0 v6 hX.1,(h.out.grown (by simp) h63 (hnr _ (by omega))).setOther h.ne.symm v6,hO.set 0 v6,ownC_cell (by rw [flatS_snoc,List.length_append]; exact h62) n6,ownC_cell hold (ownC_ne h.so (by omega)),h.hX,h.hR,h.ne,h.wb,?_⟩⟩;simp; exact Nat.le_trans h.hb h63.size
theorem SpS.appS (h:SpS w B sa len cap size R X base bv sv ys zs wx) (q:Ss) (g:Nat) (hg:HoldsL wx g (ssL q)) (hlen:zs.length≤1048576) :
  ∃ v6 w6,(Builtin.append_ #[29,29] 29 #[sv,.slice (some ⟨g,0,none⟩) 1 1]).run Tryz.prog wx=.ok v6 w6∧HoldsL w6 X [bv,sv]∧SpS w B sa len cap size R X base bv v6 ys (zs++[q]) (w6.setCell ⟨X,1,none⟩ v6):=by
 obtain ⟨i0,hi,hz0,hz1,hz2⟩:=info_parts Tryz.infoSs;have hX:=h.hX;have hR:=h.hR;have hw:=h.wb;have hbb:=h.hb;obtain ⟨v6,w6,hrun,h62,h63,h64,h65⟩:=run_append_own_at (P:=Tryz.prog) wx base 29 29 59 i0 _ 7 _ Tryz.underlying29 hi hz0 hz1 hz2 rfl (by decide) sv _ _ h.so ⟨g,0,none⟩ 1 1 (ssL q) rfl (fun i u hu=>by rw [add_at]; exact hg.cell hu) (ssL_one q) (by unfold maxLen; omega) (by omega) h.hb;have hnr:∀ Y,Y < base→some Y≠sv.ownBlock:=fun Y hY e=>ownC_ne h.so hY e.symm
 have n6:v6.ownBlock≠some X:=by
  rcases h65 with h7 | h7<;>rw [h7]
  ·exact ownC_ne h.so (by omega)
  ·intro e; injection e with e; omega
 have hO:=h.box.grown (by simp) h63 (hnr _ (by omega));have hold:=World.ownsRow.kept h.bo h63 (by
  by_cases e:bv.ownBlock=none
  ·exact .inl e
  ·refine .inr (fun e2=>?_);obtain ⟨k,hk⟩:=Option.ne_none_iff_exists'.1 e;exact ownT_ne h.bo h.so (by decide) k hk (e2 ▸ hk))
 refine ⟨v6,w6,hrun,hO,⟨(dr_row h.dr h63 (fun k e=>by have:=(ownC_in h.so e).1; omega)).set X 1 v6 hX.1,(h.out.grown (by simp) h63 (hnr _ (by omega))).setOther h.ne.symm v6,hO.set 1 v6,ownC_cell hold (ownC_ne h.bo (by omega)),ownC_cell (by rw [flatS_snoc,List.length_append]; exact h62) n6,h.hX,h.hR,h.ne,h.wb,?_⟩⟩;simp; exact Nat.le_trans h.hb h63.size
theorem SpS.shapes (h:SpS w B sa len cap size R X base bv sv ys zs wx):(∃ a cap,bv=.slice a ys.length cap∧ys.length≤cap∧SlOwn bdL 5 base wx a ys)∧∃ a cap,sv=.slice a zs.length cap∧zs.length≤cap∧SlOwn ssL 7 base wx a zs :=
 ⟨Row.shape bdL_length (w0:=wx) ⟨h.bo,Below.refl _ _⟩,Row.shape ssL_length (w0:=wx) ⟨h.so,Below.refl _ _⟩⟩
theorem SpS.fin (h:SpS w B sa len cap size R X base bv sv ys zs wx) (hd:BbDr ⟨ys,zs⟩):SpF w B sa len cap size R X base wx:=by
 obtain ⟨⟨a,c,e1,-,h1⟩,b,d,e2,-,h2⟩:=h.shapes;have hb:=h.box;have hbo:=h.bo;have hso:=h.so;rw [e1,e2] at hb;rw [e1] at hbo;rw [e2] at hso;exact ⟨⟨ys,zs⟩,a,b,c,d,hd,hb,h.out,⟨h1.is,h2.is⟩,fun g o e=>by rw [e] at hbo; exact (ownC_in hbo (g:=g) rfl).1,fun g o e=>by rw [e] at hso; exact (ownC_in hso (g:=g) rfl).1,h.dr⟩
end
theorem own_atB {w:World} {base e n m g cap:Nat} {xs:List Bd} (h:w.ownsRow base e 5 (.slice (some ⟨g,0,none⟩) n cap) m (flatS bdL xs)) (hnm:n=m) (i:Nat) (hi:i < xs.length) (j:Nat) (v:Value) (hv:(bdL xs[i])[j]?=some v):w.cell? ⟨g,i*5+j,none⟩=some v:=by
 subst hnm;have hl:=flatS_length bdL_length xs;have hj:j < 5:=by have:=(List.getElem?_eq_some_iff.1 hv).1; rwa [bdL_length] at this
 have hn:=h.1;rw [hl] at hn;have hnl:n=xs.length:=by omega
 rw [World.ownsRow.cellAt h _ (by rw [hnl]; omega)];have hs:=flatS_set bdL_length j hj v xs i hi xs[i] (by rw [set_self hv]);rw [List.set_getElem_self] at hs;rw [hs,List.getElem?_set_self (by rw [hl]; omega)]
section
variable {w wx wy:World} {B:Nat} {sa:Option Addr} {len cap:Nat} {size:Int} {R X base:Nat} {bv sv:Value} {ys:List Bd} {zs:List Ss}
theorem SpS.setB {g c n:Nat} (h:SpS w B sa len cap size R X base (.slice (some ⟨g,0,none⟩) n c) sv ys zs wx) (hn:n=ys.length) (i:Nat) (hi:i < ys.length) (j:Nat) (hj:j < 5) (v:Value) (y:Bd) (hy:bdL y=(bdL ys[i]).set j v):SpS w B sa len cap size R X base (.slice (some ⟨g,0,none⟩) n c) sv (ys.set i y) zs (wx.setCell ⟨g,i*5+j,none⟩ v):=by
 subst hn;have hg:=(ownC_in h.bo (g:=g) rfl).1;have hX:=h.hX;have hR:=h.hR;have hw:=h.wb;have hsv:sv.ownBlock≠some g:=fun e=>ownT_ne h.bo h.so (by decide) g rfl e
 refine ⟨h.dr.set g _ v (by omega),h.out.setOther (by omega) _,h.box.setOther (by omega) _,?_,ownC_cell h.so hsv,h.hX,h.hR,h.ne,h.wb,by simpa using h.hb⟩;rw [List.length_set,flatS_set bdL_length j hj v ys i hi y hy];exact own_set h.bo _ (by rw [flatS_length bdL_length]; omega) v
theorem SpS.setS {g c n:Nat} (h:SpS w B sa len cap size R X base bv (.slice (some ⟨g,0,none⟩) n c) ys zs wx) (hn:n=zs.length) (i:Nat) (hi:i < zs.length) (j:Nat) (hj:j < 7) (v:Value) (y:Ss) (hy:ssL y=(ssL zs[i]).set j v):SpS w B sa len cap size R X base bv (.slice (some ⟨g,0,none⟩) n c) ys (zs.set i y) (wx.setCell ⟨g,i*7+j,none⟩ v):=by
 subst hn;have hg:=(ownC_in h.so (g:=g) rfl).1;have hX:=h.hX;have hR:=h.hR;have hw:=h.wb;have hbv:bv.ownBlock≠some g:=fun e=>ownT_ne h.bo h.so (by decide) g e rfl
 refine ⟨h.dr.set g _ v (by omega),h.out.setOther (by omega) _,h.box.setOther (by omega) _,ownC_cell h.bo hbv,?_,h.hX,h.hR,h.ne,h.wb,by simpa using h.hb⟩;rw [List.length_set,flatS_set ssL_length j hj v zs i hi y hy];exact own_set h.so _ (by rw [flatS_length ssL_length]; omega) v
end
theorem slis_far {α:Type} {en:α→List Value} {n:Nat} {w:World} {a:Option Addr} {xs:List α} (h:SlIs en n w a xs) (j:Nat) (R:Nat) (v:Value) (hf:∀ g o,a=some ⟨g,o,none⟩→R < g):SlIs en n (w.setCell ⟨R,j,none⟩ v) a xs:=h.grown (grown_cell w R j v) (.inr fun g o e=>by have:=hf g o e; omega)
theorem mem_set_dr {α:Type} {P:α→Prop} {xs:List α} {i:Nat} {y:α} (h:∀ x∈xs,P x) (hy:P y):∀ x∈xs.set i y,P x:=fun x hx=>by
 rcases List.mem_or_eq_of_mem_set hx with h1 | rfl
 ·exact h x h1
 ·exact hy
theorem mem_snoc_dr {α:Type} {P:α→Prop} {xs:List α} {y:α} (h:∀ x∈xs,P x) (hy:P y):∀ x∈xs++[y],P x:=fun x hx=>by
 rcases List.mem_append.1 hx with h1 | h1
 ·exact h x h1
 ·simp at h1; subst h1; exact hy
def SpRet (w:World) (B:Nat) (sa:Option Addr) (len cap:Nat) (size:Int) (e:Ending) (w':World):Prop:=∃ y a b c d,e=.returned (bbC a b c d y)∧BbDr y∧BbIs w' a b y∧(∀ g o,a=some ⟨g,o,none⟩→w.heap.size≤g)∧(∀ g o,b=some ⟨g,o,none⟩→w.heap.size≤g)∧Src w' B sa len cap size∧w.grownBy w' (some B)
theorem spoEnd {w W:World} {B:Nat} {sa:Option Addr} {len cap:Nat} {size:Int} {y:Bb} {fa fb:Option Addr} {fc fd:Nat} (hy:BbDr y) (hR:HoldsL W (w.heap.size+1) [.slice none 0 0,.slice none 0 0]) (hbi:BbIs W fa fb y) (hfa:∀ g o,fa=some ⟨g,o,none⟩→w.heap.size+1 < g) (hfb:∀ g o,fb=some ⟨g,o,none⟩→w.heap.size+1 < g) (hdr:Dr w B sa len cap size W) :
  Hid (HoldsL ((sW W (w.heap.size+1) 0 (.slice fa y.binds.length fc)).setCell ⟨w.heap.size+1,1,none⟩ (.slice fb y.sess.length fd)) (w.heap.size+1) (BbV fa fc fb fd y))∧Hid (Dr w B sa len cap size ((sW W (w.heap.size+1) 0 (.slice fa y.binds.length fc)).setCell ⟨w.heap.size+1,1,none⟩ (.slice fb y.sess.length fd)))∧Hid (BbIs ((sW W (w.heap.size+1) 0 (.slice fa y.binds.length fc)).setCell ⟨w.heap.size+1,1,none⟩ (.slice fb y.sess.length fd)) fa fb y)∧Hid (BbDr y∧(∀ g o,fa=some ⟨g,o,none⟩→w.heap.size≤g)∧∀ g o,fb=some ⟨g,o,none⟩→w.heap.size≤g) :=
 ⟨(hR.set 0 _).set 1 _,(hdr.set _ 0 _ (by omega)).set _ 1 _ (by omega),⟨slis_far (slis_far hbi.bd 0 _ _ (fun g o e=>by have:=hfa g o e; omega)) 1 _ _ (fun g o e=>by have:=hfa g o e; omega),slis_far (slis_far hbi.ss 0 _ _ (fun g o e=>by have:=hfb g o e; omega)) 1 _ _ (fun g o e=>by have:=hfb g o e; omega)⟩,⟨hy,fun g o e=>by have:=hfa g o e; omega,fun g o e=>by have:=hfb g o e; omega⟩⟩
theorem drawSpoil_any (B:Nat) (sa:Option Addr) (len cap:Nat) (size:Int) (ba bo:Option Addr) (ca cb:Nat) (x:Bb) (w:World) (hl:len≤1048576) (hbd:BbDr x) (hlen:x.binds.length≤50∧x.sess.length≤50) (hne:x.binds≠[]→x.sess≠[]) (hx:BbIs w ba bo x) (hs:Src w B sa len cap size) :
  Calls Tryz.prog 90 #[.pointer (some ⟨B,0,none⟩),bbC ba bo ca cb x] w (SpRet w B sa len cap size):=by
 have hBW:B < w.heap.size:=(Dr.start hs).hB;obtain ⟨hl1,hl2⟩:=hlen;have HBD:Hid (BbDr x):=hbd;have HNE:Hid (x.binds≠[]→x.sess≠[]):=hne;have HCY:Hid (∀ W,Below w.heap.size w W→Calls Tryz.prog 126 #[.agg (BbV ba ca bo cb x).toArray] W fun e w'=>CopyRet W.heap.size x e w'∧Below W.heap.size W w'):=fun W hW=>spCopy_any x ba bo ca cb W (by omega) (by omega) (hx.below hW)
 have D0:Hid (Dr w B sa len cap size ((aW w (BbV ba ca bo cb x) 31).alloc (.cells #[.slice none 0 0,.slice none 0 0] 31))):=((Dr.start hs).alloc _).alloc _;have BL:Hid (Below w.heap.size w ((aW w (BbV ba ca bo cb x) 31).alloc (.cells #[.slice none 0 0,.slice none 0 0] 31))):=(bR.alloc lR _).alloc (by simp) _;have HX:Hid (HoldsL ((aW w (BbV ba ca bo cb x) 31).alloc (.cells #[.slice none 0 0,.slice none 0 0] 31)) w.heap.size (BbV ba ca bo cb x)):=(HoldsL.new w (BbV ba ca bo cb x) 31).alloc _;have HR:Hid (HoldsL ((aW w (BbV ba ca bo cb x) 31).alloc (.cells #[.slice none 0 0,.slice none 0 0] 31)) (w.heap.size+1) [.slice none 0 0,.slice none 0 0]):=by
  have h:=HoldsL.new (w.alloc (.cells (BbV ba ca bo cb x).toArray 31)) [.slice none 0 0,.slice none 0 0] 31;rw [World.size_alloc] at h; exact h
 have hun:undef=Value.tuple #[]:=rfl;clear hs hx hbd hne;unfold bbC;go_enter Tryz.func90,Tryz.ntmps90
 go_upto_region 1 with fail
 generalize World.alloc _ _=W0 at *;obtain ⟨b0,b1⟩:=HX.out.c2;go_wp2_with fail
 refine (HCY.out _ BL.out).mono ?_;rintro e W1 ⟨⟨bv,sv,rfl,o1,o2⟩,q1⟩;obtain ⟨ab,cb1,hbv,-,-⟩:=(Row.shape bdL_length (w0:=W1) ⟨o1,Below.refl _ _⟩ : ∃ a' cap,bv=.slice a' x.binds.length cap∧x.binds.length≤cap∧SlOwn bdL 5 W0.heap.size W1 a' x.binds);obtain ⟨sb,cs1,hsv,-,-⟩:=(Row.shape ssL_length (w0:=W1) ⟨o2,Below.refl _ _⟩ : ∃ a' cap,sv=.slice a' x.sess.length cap∧x.sess.length≤cap∧SlOwn ssL 7 W0.heap.size W1 a' x.sess);subst hbv hsv;have hRl:w.heap.size+1 < W0.heap.size:=HR.out.lt (by simp);have hX1:=HX.out.kept (by simp) q1;have hR1:=HR.out.kept (by simp) q1;have hXR:w.heap.size≠w.heap.size+1:=by omega
 have S2:Hid (SpS w B sa len cap size (w.heap.size+1) w.heap.size W0.heap.size (.slice ab x.binds.length cb1) (.slice sb x.sess.length cs1) x.binds x.sess ((sW W1 w.heap.size 0 (.slice ab x.binds.length cb1)).setCell ⟨w.heap.size,1,none⟩ (.slice sb x.sess.length cs1))):=⟨((D0.out.below q1).set _ 0 _ lR).set _ 1 _ lR,(hR1.setOther hXR.symm _).setOther hXR.symm _,(hX1.set 0 _).set 1 _,ownC_cell (ownC_cell o1 (ownC_ne o1 (by omega))) (ownC_ne o1 (by omega)),ownC_cell (ownC_cell o2 (ownC_ne o2 (by omega))) (ownC_ne o2 (by omega)),⟨Nat.le_refl _,by omega⟩,⟨by omega,hRl⟩,hXR,by omega,by simp; exact q1.size⟩;obtain ⟨b0,b1⟩:=hX1.c2;obtain ⟨bf0,bf1⟩:=hX1.f2;clear hX1 hR1 o1 o2 HX HR D0 BL q1 HCY;go_upto_region 2 with fail
 generalize ((sW W1 w.heap.size 0 (.slice ab x.binds.length cb1)).setCell ⟨w.heap.size,1,none⟩ (.slice sb x.sess.length cs1))=W2 at *;clear b0 b1 bf0 bf1;generalize W0.heap.size=base at *;have HHx:HoldsL W2 w.heap.size (BbV ab cb1 sb cs1 x):=S2.out.box;obtain ⟨x0,x1⟩:=HHx.c2;clear HHx;by_cases hb0:x.binds=[]
 case pos =>
  have HB0:Hid (x.binds=[]):=hb0;have d0:((x.binds.length:Int)==0)=true:=by rw [hb0]; rfl
  clear hb0;go_upto_region 3 with fail
  clear d0 x0 x1;have HF:Hid (SpF w B sa len cap size (w.heap.size+1) w.heap.size base W2):=S2.out.fin ⟨by have:=HBD.out.1; exact this,HBD.out.2.1,HBD.out.2.2⟩;obtain ⟨y,fa,fb,fc,fd,hy,hX,hR,hbi,hfa,hfb,hdr⟩:=HF.out;clear HF;obtain ⟨x0,x1⟩:=hX.c2;obtain ⟨z0,z1⟩:=hR.c2;obtain ⟨zf0,zf1⟩:=hR.f2;obtain ⟨HRR,DD,BI,HY⟩:=spoEnd (fc:=fc) (fd:=fd) hy hR hbi (fun g o e=>by have:=hfa g o e; omega) (fun g o e=>by have:=hfb g o e; omega) hdr;clear hy hX hR hbi hfa hfb hdr;go_wp2_with fail
  exact bodyPost_ret (results_mid Tryz.results90 _ _ _ _ _ rfl HRR.out Tryz.underlying31 rfl (show (Tryz.prog.info? 31).map (·.size)=some 2 by kernel_rfl)) rfl ⟨y,fa,fb,fc,fd,rfl,HY.out.1,BI.out,HY.out.2.1,HY.out.2.2,DD.out.src,DD.out.grown⟩
 have hbp:0 < x.binds.length:=List.length_pos_iff.2 hb0;have hsp:0 < x.sess.length:=List.length_pos_iff.2 (HNE.out hb0);have d0:((x.binds.length:Int)==0)=false:=by simp; exact hb0
 clear hb0;obtain ⟨gb,hgb⟩ : ∃ g,ab=some ⟨g,0,none⟩:=by
  rcases S2.out.bo.2 with ⟨_,h0⟩ | ⟨g,c,cur,h3,_⟩
  ·omega
  ·injection h3 with h3; exact ⟨g,h3⟩
 obtain ⟨gs,hgs⟩ : ∃ g,sb=some ⟨g,0,none⟩:=by
  rcases S2.out.so.2 with ⟨_,h0⟩ | ⟨g,c,cur,h3,_⟩
  ·omega
  ·injection h3 with h3; exact ⟨g,h3⟩
 subst hgb hgs;go_upto_region 4 with fail
 clear d0;go_wp2_with fail
 refine (drawN_any (x.binds.length:Int) B sa len cap size _ (by omega) hl S2.out.dr.src).mono ?_;rintro e W3 ⟨r3,rfl,lo3,hi3,hs,hg⟩;obtain ⟨k,rfl⟩:=Int.eq_ofNat_of_zero_le lo3;have hk:k < x.binds.length:=by omega
 have S3:Hid (SpS w B sa len cap size (w.heap.size+1) w.heap.size base (.slice (some ⟨gb,0,none⟩) x.binds.length cb1) (.slice (some ⟨gs,0,none⟩) x.sess.length cs1) (x.binds) (x.sess) W3):=S2.out.draw hs hg;clear hs hg S2 lo3 hi3 x0 x1;go_wp2_with fail
 refine (drawN_more 6 B sa len cap size _ (by omega) (by omega) hl S3.out.dr.src).mono ?_;rintro e W4 ⟨r6,rfl,lo6,hi6,hs,hg⟩;have S4:Hid (SpS w B sa len cap size (w.heap.size+1) w.heap.size base (.slice (some ⟨gb,0,none⟩) x.binds.length cb1) (.slice (some ⟨gs,0,none⟩) x.sess.length cs1) (x.binds) (x.sess) W4):=S3.out.draw hs hg;clear hs hg S3;have hkI:(k:Int) < (x.binds.length:Int):=by omega
 have hsI:(0:Int) < (x.sess.length:Int):=by omega
 obtain ⟨q,hq⟩ : ∃ q,q=x.binds[k]:=⟨_,rfl⟩;have HQ:Hid (q=x.binds[k]):=hq;have HQD:Hid (BdDr q):=by unfold Hid; rw [hq]; exact HBD.out.2.2.1 _ (List.getElem_mem _)
 obtain ⟨s,hs⟩ : ∃ s,s=x.sess[0]:=⟨_,rfl⟩;have HS:Hid (s=x.sess[0]):=hs;have HSD:Hid (SsDr s):=by unfold Hid; rw [hs]; exact HBD.out.2.2.2 _ (List.getElem_mem _)
 clear hq hs;by_cases d0:r6=0
 case pos =>
  subst d0;clear lo6 hi6;go_upto_region 8 with fail
  have HCP:Hid (∀ wy,Below W4.drew.heap.size W4.drew wy→_):=fun wy hy=>S4.out.below (bR.drew.trans hy)
  clear hun;refine wp_region_growV [27,28,29,30,31,32,33,34] (by kernel_rfl) (by kernel_rfl) ?_;iterate 7 (apply GChV.u rfl;(·intro K' a wy ho hd hb hK;simp [rAt,IsV,slot,Region.binds] at ho hd;have hst:=HCP.out wy hb;have ko:=hst.box.cell (j:=0) rfl;have d0:wy.cell? ⟨gb,k*5,none⟩=some (iV q.proto):=own_atB hst.bo rfl k hk 0 _ (by rw [← HQ.out]; rfl);have d1:wy.cell? ⟨gb,k*5+1,none⟩=some (.string q.inn):=own_atB hst.bo rfl k hk 1 _ (by rw [← HQ.out]; rfl);have d2:wy.cell? ⟨gb,k*5+2,none⟩=some (iV q.inPort):=own_atB hst.bo rfl k hk 2 _ (by rw [← HQ.out]; rfl);have d3:wy.cell? ⟨gb,k*5+3,none⟩=some (.string q.out):=own_atB hst.bo rfl k hk 3 _ (by rw [← HQ.out]; rfl);have d4:wy.cell? ⟨gb,k*5+4,none⟩=some (iV q.outPort):=own_atB hst.bo rfl k hk 4 _ (by rw [← HQ.out]; rfl);clear hst;go_simp;(try go_bits);exact hK _ _ rfl bQ);dsimp only [nA,cA])
  refine GChV.rel (n:=7) (IsOneC (bdL q)) (stable_isOneC _ (by simp [bdL])) [_,_,_,_,_,_,_,IsOneC (bdL q)] rfl rfl ?_ ?_
  ·intro K' a wy ho hd hb hK;rw [wN rfl];have q6:=hd ⟨6,.data⟩ (by simp) rfl;simp [rAt,IsV,slot] at q6;clear hd ho;go_simp;exact hK _ _ ⟨wy.heap.size,rfl,HoldsL.new wy (bdL q) _⟩ (bR.alloc lR _)
  intro X wz hR hz;obtain ⟨x0,x1,x2,x3,x4,x5,x6,x7,-⟩:=hR;simp only [IsV] at x0 x1 x2 x3 x4 x5 x6;simp only [putsFrom,x0,x1,x2,x3,x4,x5,x6,putsFrom];clear x0 x1 x2 x3 x4 x5 x6;obtain ⟨g7,e7,r7⟩:=x7;have SZ:=HCP.out wz hz;obtain ⟨v6,w6,hrun,hO6,S6⟩:=SZ.appB q g7 r7 (by omega);have HRUN:Hid _:=hrun;have HS6:Hid _:=S6;have p1:=hO6.cell (j:=0) rfl;have p2:=hO6.free (j:=0) (by simp);obtain ⟨a8,c8,e8,-,-⟩:=S6.shapes.1;have hv6:∃ a n c,v6=.slice a n c:=⟨_,_,_,e8⟩;clear hrun S6 hO6 SZ r7 hz HCP e8;obtain ⟨a8,n8,c8,rfl⟩:=hv6;simp only [e7];simp only [List.length_cons,List.length_nil,List.drop_succ_cons,List.drop_zero,Nat.zero_add,Nat.reduceAdd];intro K5 hK5;with_reducible refine wp_append_run (.tmp 28) (.tmp 34) _ rfl ?_ ?_ HRUN.out (hK5 _ _ ?_)
  ·simp [Act.eval,Act.put]
  ·simp [Act.eval,Act.put]
  intro K6 hK6;go_simp;refine hK6 _ _ ?_;intro K7 hK7;go_simp;refine hK7 _ _ ?_;simp only [wpSeq];clear HRUN p1 p2;generalize (w6.setCell ⟨w.heap.size,0,none⟩ (.slice a8 n8 c8))=W8 at *;have HF:Hid (SpF w B sa len cap size (w.heap.size+1) w.heap.size base W8):=HS6.out.fin ⟨by simp; omega,by show x.sess.length≤100; omega,mem_snoc_dr HBD.out.2.2.1 HQD.out,HBD.out.2.2.2⟩;obtain ⟨y,fa,fb,fc,fd,hy,hX,hR,hbi,hfa,hfb,hdr⟩:=HF.out;clear HF;obtain ⟨x0,x1⟩:=hX.c2;obtain ⟨z0,z1⟩:=hR.c2;obtain ⟨zf0,zf1⟩:=hR.f2;obtain ⟨HRR,DD,BI,HY⟩:=spoEnd (fc:=fc) (fd:=fd) hy hR hbi (fun g o e=>by have:=hfa g o e; omega) (fun g o e=>by have:=hfb g o e; omega) hdr;clear hy hX hR hbi hfa hfb hdr;go_wp2_with fail
  exact bodyPost_ret (results_mid Tryz.results90 _ _ _ _ _ rfl HRR.out Tryz.underlying31 rfl (show (Tryz.prog.info? 31).map (·.size)=some 2 by kernel_rfl)) rfl ⟨y,fa,fb,fc,fd,rfl,HY.out.1,BI.out,HY.out.2.1,HY.out.2.2,DD.out.src,DD.out.grown⟩
 have b0:(r6==0)=false:=by simp [d0]
 by_cases d1:r6=1
 case pos =>
  subst d1;clear lo6 hi6;go_upto_region 10 with fail
  clear hun;refine wp_region_growXV (EB B) (fun wx=>SpS w B sa len cap size (w.heap.size+1) w.heap.size base (.slice (some ⟨gb,0,none⟩) x.binds.length cb1) (.slice (some ⟨gs,0,none⟩) x.sess.length cs1) (x.binds) (x.sess) wx∧W4.heap.size≤wx.heap.size) [39,40,41,42,43,44,45,46,47,48] (by kernel_rfl) (by kernel_rfl) (⟨S4.out.below bR.drew,Nat.le_refl _⟩) ?_;iterate 3 (apply XChV.u xQ rfl;(·intro K' a wy ho hd hI hK;simp [rAt,IsV,slot,Region.binds] at ho hd;have ko:=hI.1.box.cell (j:=0) rfl;go_simp;(try go_bits);exact hK _ rfl);dsimp only [nA,cA])
  refine XChV.rel (n:=3) (XInts B 4 0 70000) (st_XInts _ _ _ _) [_,_,_,XInts B 4 0 70000] rfl rfl ?_ ?_
  ·intro K' a wy ho hd hI hK;rw [wN rfl];clear hd ho;go_simp;exact hK _ _ ⟨wy.heap.size,rfl,by have:=hI.1.dr.le; omega,fun j hj=>by
    match j,hj with
    | 0,_=>exact ⟨_,cell_new rfl,by omega,by omega⟩
    | 1,_=>exact ⟨_,cell_new rfl,by omega,by omega⟩
    | 2,_=>exact ⟨_,cell_new rfl,by omega,by omega⟩
    | 3,_=>exact ⟨_,cell_new rfl,by omega,by omega⟩⟩ (EB.of (bR.alloc lR _)) ⟨hI.1.below (bR.alloc lR _),by simp; omega⟩
  (apply XChV.u xQ rfl;(·intro K' a wy ho hd hI hK;simp [rAt,IsV,slot,Region.binds] at ho hd;go_simp;(try go_bits);exact hK _ rfl);dsimp only [nA,cA])
  refine XChV.rel (n:=5) (XR 0 3) (st_XR _ _ _) [_,_,_,_,_,XR 0 3] rfl rfl ?_ ?_
  ·intro K' a wy ho hd hI hK;rw [wN rfl];have q4:=hd ⟨4,.data⟩ (by simp) rfl;simp [rAt,IsV,slot] at q4;clear hd ho;go_simp;refine (drawN_any 4 B sa len cap size wy (by omega) hl hI.1.dr.src).mono ?_;rintro e wz ⟨r,rfl,h0,h1,hsz,hgz⟩;exact hK _ _ ⟨r,rfl,by omega,by omega⟩ hgz ⟨hI.1.draw hsz hgz,Nat.le_trans hI.2 hgz.size⟩
  refine XChV.rel (n:=6) (XCell B 0 70000) (st_XCell _ _ _) [_,_,_,_,_,_,XCell B 0 70000] rfl rfl ?_ ?_
  ·intro K' a wy ho hd hI hK;rw [wN rfl];obtain ⟨b3,e3,nb3,g3⟩ : XInts B 4 0 70000 (slot a 42) wy:=hd ⟨3,.data⟩ (by simp) rfl;simp [slot] at e3;obtain ⟨r5,e5,l5,u5⟩ : XR 0 3 (slot a 44) wy:=hd ⟨5,.data⟩ (by simp) rfl;simp [slot] at e5;clear hd ho;obtain ⟨kk,hkk⟩:=Int.eq_ofNat_of_zero_le (a:=r5) (by omega);subst hkk;obtain ⟨yy,hyy,ly,uy⟩:=g3 kk (by omega);have i0:(kk:Int) < 4:=by omega
   go_simp;exact hK _ _ ⟨b3,kk,yy,rfl,nb3,hyy,ly,uy⟩ (EB.of bR) hI
  refine XChV.rel (n:=7) (XR 0 70000) (st_XR _ _ _) [_,_,_,_,_,_,_,XR 0 70000] rfl rfl ?_ ?_
  ·intro K' a wy ho hd hI hK;rw [wN rfl];obtain ⟨b6,k6,y6,e6,nb6,c6,l6,u6⟩ : XCell B 0 70000 (slot a 45) wy:=hd ⟨6,.data⟩ (by simp) rfl;simp [slot] at e6;clear hd ho;have ko:=hI.1.box.cell (j:=0) rfl;go_simp;exact hK _ _ ⟨y6,rfl,l6,u6⟩ (EB.of bR) hI
  iterate 2 (apply XChV.u xQ rfl;(·intro K' a wy ho hd hI hK;simp [rAt,IsV,slot,Region.binds] at ho hd;go_simp;(try go_bits);exact hK _ rfl);dsimp only [nA,cA])
  intro X wz hR hI;obtain ⟨x0,x1,x2,x3,x4,x5,x6,x7,x8,x9,-⟩:=hR;obtain ⟨r7,e7,l7,u7⟩:=x7;simp only [IsV] at x0 x1 x2 x4 x8 x9;simp only [putsFrom,x0,x1,x2,putsFrom,x4,putsFrom,putsFrom,e7,x8,x9];clear x0 x1 x2 x4 x8 x9;have c4:wz.cell? ⟨gb,k*5+4,none⟩=some (iV q.outPort):=own_atB hI.1.bo rfl k hk 4 _ (by rw [← HQ.out]; rfl);have f4:wz.frozen? ⟨gb,k*5+4,none⟩=false:=own_free hI.1.bo _;have S6:Hid _:=hI.1.setB rfl k hk 4 (by decide) (iV r7) { q with outPort:=r7 } (by rw [← HQ.out]; rfl);clear hI;intro K5 hK5;go_simp;refine hK5 _ _ ?_;simp only [wpSeq];clear c4 f4;generalize wz.setCell ⟨gb,k*5+4,none⟩ (iV r7)=W8 at *;have HF:Hid (SpF w B sa len cap size (w.heap.size+1) w.heap.size base W8):=S6.out.fin ⟨by simp; omega,by show x.sess.length≤100; omega,mem_set_dr HBD.out.2.2.1 ⟨HQD.out.1,HQD.out.2.1,HQD.out.2.2.1,HQD.out.2.2.2.1,by show inR r7; unfold inR; omega⟩,HBD.out.2.2.2⟩;obtain ⟨y,fa,fb,fc,fd,hy,hX,hR,hbi,hfa,hfb,hdr⟩:=HF.out;clear HF;obtain ⟨x0,x1⟩:=hX.c2;obtain ⟨z0,z1⟩:=hR.c2;obtain ⟨zf0,zf1⟩:=hR.f2;obtain ⟨HRR,DD,BI,HY⟩:=spoEnd (fc:=fc) (fd:=fd) hy hR hbi (fun g o e=>by have:=hfa g o e; omega) (fun g o e=>by have:=hfb g o e; omega) hdr;clear hy hX hR hbi hfa hfb hdr;go_wp2_with fail
  exact bodyPost_ret (results_mid Tryz.results90 _ _ _ _ _ rfl HRR.out Tryz.underlying31 rfl (show (Tryz.prog.info? 31).map (·.size)=some 2 by kernel_rfl)) rfl ⟨y,fa,fb,fc,fd,rfl,HY.out.1,BI.out,HY.out.2.1,HY.out.2.2,DD.out.src,DD.out.grown⟩
 have b1:(r6==1)=false:=by simp [d1]
 by_cases d2:r6=2
 case pos =>
  subst d2;clear lo6 hi6;have HHx:HoldsL W4 w.heap.size (BbV (some ⟨gb,0,none⟩) cb1 (some ⟨gs,0,none⟩) cs1 x):=S4.out.box;obtain ⟨x0,x1⟩:=HHx.c2;have xf1:=HHx.free (j:=1) (by simp);clear HHx;have hcs:x.sess.length≤cs1:=by
   obtain ⟨a9,c9,e9,h9,-⟩:=S4.out.shapes.2;injection e9 with _ _ e9
   omega
  have hcsI:(1:Int)≤(x.sess.length:Int):=by omega
  have hcsJ:(x.sess.length:Int)≤(cs1:Int):=by omega
  have HF0:Hid (SpF w B sa len cap size (w.heap.size+1) w.heap.size base (W4.setCell ⟨w.heap.size,1,none⟩ (.slice (if cs1=1 then some ⟨gs,0,none⟩ else some ⟨gs,7,none⟩) (x.sess.length-1) (cs1-1)))):=by
   have hX:=S4.out.hX;have hgb1:=(ownC_in S4.out.bo (g:=gb) rfl).1;have hgs1:=(ownC_in S4.out.so (g:=gs) rfl).1;obtain ⟨⟨a1,c1,e1,-,h1⟩,a2,c2,e2,-,h2⟩:=S4.out.shapes;injection e1 with i1 _ i3
   injection e2 with j1 _ j3
   subst i1 i3 j1 j3;have hfar:∀ g o,(if cs1=1 then some (⟨gs,0,none⟩ : Addr) else some ⟨gs,7,none⟩)=some ⟨g,o,none⟩→base≤g:=fun g o e=>by
    split at e<;>(injection e with e; injection e with e _; omega)
   refine ⟨⟨x.binds,x.sess.tail⟩,some ⟨gb,0,none⟩,(if cs1=1 then some ⟨gs,0,none⟩ else some ⟨gs,7,none⟩),cb1,cs1-1,⟨by show x.binds.length≤100; omega,by simp; omega,HBD.out.2.2.1,fun y hy=>HBD.out.2.2.2 y (List.mem_of_mem_tail hy)⟩,?_,S4.out.out.setOther S4.out.ne.symm _,⟨slis_far h1.is 1 _ _ (fun g o e=>by injection e with e; injection e with e _; omega),slis_far ?_ 1 _ _ (fun g o e=>by have:=hfar g o e; omega)⟩,fun g o e=>by injection e with e; injection e with e _; omega,hfar,S4.out.dr.set _ 1 _ hX.1⟩
   ·have h:=S4.out.box.set 1 (.slice (if cs1=1 then some ⟨gs,0,none⟩ else some ⟨gs,7,none⟩) (x.sess.length-1) (cs1-1));show HoldsL _ _ [_,_]; simpa using h
   ·by_cases hc9:cs1=1
    ·refine .inl ?_;have h9:x.sess.length=1:=by omega
     exact List.length_eq_zero_iff.1 (by show x.sess.tail.length=0; simp; omega)
    rw [if_neg hc9];refine .inr ⟨gs,7,rfl,(ownC_in S4.out.so (g:=gs) rfl).2,fun i hi j v hv=>?_⟩;simp at hi;have h:=own_at S4.out.so rfl (i+1) (by omega) j v (by simpa using hv);rw [show 7+i*7+j=(i+1)*7+j by omega];exact h
  go_upto_region 17 with fail
  clear x0 x1 xf1;generalize (if cs1=1 then some (⟨gs,0,none⟩ : Addr) else some ⟨gs,7,none⟩)=na at *;generalize (W4.setCell ⟨w.heap.size,1,none⟩ (.slice na (x.sess.length-1) (cs1-1)))=W8 at *;have HF:Hid (SpF w B sa len cap size (w.heap.size+1) w.heap.size base W8):=HF0.out;obtain ⟨y,fa,fb,fc,fd,hy,hX,hR,hbi,hfa,hfb,hdr⟩:=HF.out;clear HF;obtain ⟨x0,x1⟩:=hX.c2;obtain ⟨z0,z1⟩:=hR.c2;obtain ⟨zf0,zf1⟩:=hR.f2;obtain ⟨HRR,DD,BI,HY⟩:=spoEnd (fc:=fc) (fd:=fd) hy hR hbi (fun g o e=>by have:=hfa g o e; omega) (fun g o e=>by have:=hfb g o e; omega) hdr;clear hy hX hR hbi hfa hfb hdr;go_wp2_with fail
  exact bodyPost_ret (results_mid Tryz.results90 _ _ _ _ _ rfl HRR.out Tryz.underlying31 rfl (show (Tryz.prog.info? 31).map (·.size)=some 2 by kernel_rfl)) rfl ⟨y,fa,fb,fc,fd,rfl,HY.out.1,BI.out,HY.out.2.1,HY.out.2.2,DD.out.src,DD.out.grown⟩
 have b2:(r6==2)=false:=by simp [d2]
 by_cases d3:r6=3
 case pos =>
  subst d3;clear lo6 hi6;go_upto_region 14 with fail
  clear hun;refine wp_region_growXV (EB B) (fun wx=>SpS w B sa len cap size (w.heap.size+1) w.heap.size base (.slice (some ⟨gb,0,none⟩) x.binds.length cb1) (.slice (some ⟨gs,0,none⟩) x.sess.length cs1) (x.binds) (x.sess) wx∧W4.heap.size≤wx.heap.size) [57,58,59,60,61,62] (by kernel_rfl) (by kernel_rfl) (⟨S4.out.below bR.drew,Nat.le_refl _⟩) ?_;iterate 3 (apply XChV.u xQ rfl;(·intro K' a wy ho hd hI hK;simp [rAt,IsV,slot,Region.binds] at ho hd;have ko:=hI.1.box.cell (j:=1) rfl;go_simp;(try go_bits);exact hK _ rfl);dsimp only [nA,cA])
  refine XChV.rel (n:=3) (XR 0 8) (st_XR _ _ _) [_,_,_,XR 0 8] rfl rfl ?_ ?_
  ·intro K' a wy ho hd hI hK;rw [wN rfl];have q2:=hd ⟨2,.data⟩ (by simp) rfl;simp [rAt,IsV,slot] at q2;clear hd ho;go_simp;refine (drawN_any 9 B sa len cap size wy (by omega) hl hI.1.dr.src).mono ?_;rintro e wz ⟨r,rfl,h0,h1,hsz,hgz⟩;exact hK _ _ ⟨r,rfl,by omega,by omega⟩ hgz ⟨hI.1.draw hsz hgz,Nat.le_trans hI.2 hgz.size⟩
  iterate 2 (apply XChV.u xQ rfl;(·intro K' a wy ho hd hI hK;simp [rAt,IsV,slot,Region.binds] at ho hd;go_simp;(try go_bits);exact hK _ rfl);dsimp only [nA,cA])
  intro X wz hR hI;obtain ⟨x0,x1,x2,x3,x4,x5,-⟩:=hR;obtain ⟨r3,e3,l3,u3⟩:=x3;simp only [IsV] at x0 x1 x2 x4 x5;simp only [putsFrom,x0,x1,x2,e3,x4,x5];clear x0 x1 x2 x4 x5;have c5:wz.cell? ⟨gs,5,none⟩=some (iV s.state):=by have h:=own_at hI.1.so rfl 0 hsp 5 (iV s.state) (by rw [← HS.out]; rfl); simpa using h
  have f5:wz.frozen? ⟨gs,5,none⟩=false:=own_free hI.1.so _;have S6:Hid (SpS w B sa len cap size (w.heap.size+1) w.heap.size base (.slice (some ⟨gb,0,none⟩) x.binds.length cb1) (.slice (some ⟨gs,0,none⟩) x.sess.length cs1) (x.binds) (x.sess.set 0 { s with state:=r3 }) (wz.setCell ⟨gs,5,none⟩ (iV r3))):=by unfold Hid; have h:=hI.1.setS rfl 0 hsp 5 (by decide) (iV r3) { s with state:=r3 } (by rw [← HS.out]; rfl); simpa using h
  clear hI;intro K5 hK5;go_simp;refine hK5 _ _ ?_;simp only [wpSeq];clear c5 f5;generalize (wz.setCell ⟨gs,5,none⟩ (iV r3))=W8 at *;have HF:Hid (SpF w B sa len cap size (w.heap.size+1) w.heap.size base W8):=S6.out.fin ⟨by show x.binds.length≤100; omega,by simp; omega,HBD.out.2.2.1,mem_set_dr HBD.out.2.2.2 HSD.out⟩;obtain ⟨y,fa,fb,fc,fd,hy,hX,hR,hbi,hfa,hfb,hdr⟩:=HF.out;clear HF;obtain ⟨x0,x1⟩:=hX.c2;obtain ⟨z0,z1⟩:=hR.c2;obtain ⟨zf0,zf1⟩:=hR.f2;obtain ⟨HRR,DD,BI,HY⟩:=spoEnd (fc:=fc) (fd:=fd) hy hR hbi (fun g o e=>by have:=hfa g o e; omega) (fun g o e=>by have:=hfb g o e; omega) hdr;clear hy hX hR hbi hfa hfb hdr;go_wp2_with fail
  exact bodyPost_ret (results_mid Tryz.results90 _ _ _ _ _ rfl HRR.out Tryz.underlying31 rfl (show (Tryz.prog.info? 31).map (·.size)=some 2 by kernel_rfl)) rfl ⟨y,fa,fb,fc,fd,rfl,HY.out.1,BI.out,HY.out.2.1,HY.out.2.2,DD.out.src,DD.out.grown⟩
 have b3:(r6==3)=false:=by simp [d3]
 by_cases d4:r6=4
 case pos =>
  subst d4;clear lo6 hi6;go_upto_region 16 with fail
  have HCP:Hid (∀ wy,Below W4.drew.heap.size W4.drew wy→_):=fun wy hy=>S4.out.below (bR.drew.trans hy)
  clear hun;refine wp_region_growV [65,66,67,68,69,70,71] (by kernel_rfl) (by kernel_rfl) ?_;apply GChV.v0
  ·rfl
  ·intro K' a wy ho hd hb hK kz;have o3:=ho 3 (by decide);simp [slot] at o3;clear hd ho;go_simp;try go_bits
   exact kz _ rfl
  apply GChV.v1
  ·rfl
  ·intro K' a wy ho hd hb hK kz;have q0:=hd ⟨0,.data⟩ (by simp) rfl;simp [rAt,IsV,slot] at q0;clear hd ho;have hst:=HCP.out wy hb;have ko:=hst.box.cell (j:=1) rfl;have d0:wy.cell? ⟨gs,0,none⟩=some (iV s.proto):=by have h:=own_at hst.so rfl 0 hsp 0 (iV s.proto) (by rw [← HS.out]; rfl); simpa using h
   have d1:wy.cell? ⟨gs,1,none⟩=some (.string s.inn):=by have h:=own_at hst.so rfl 0 hsp 1 (.string s.inn) (by rw [← HS.out]; rfl); simpa using h
   have d2:wy.cell? ⟨gs,2,none⟩=some (iV s.inPort):=by have h:=own_at hst.so rfl 0 hsp 2 (iV s.inPort) (by rw [← HS.out]; rfl); simpa using h
   have d3:wy.cell? ⟨gs,3,none⟩=some (.string s.peer):=by have h:=own_at hst.so rfl 0 hsp 3 (.string s.peer) (by rw [← HS.out]; rfl); simpa using h
   have d4:wy.cell? ⟨gs,4,none⟩=some (iV s.peerPort):=by have h:=own_at hst.so rfl 0 hsp 4 (iV s.peerPort) (by rw [← HS.out]; rfl); simpa using h
   have d5:wy.cell? ⟨gs,5,none⟩=some (iV s.state):=by have h:=own_at hst.so rfl 0 hsp 5 (iV s.state) (by rw [← HS.out]; rfl); simpa using h
   have d6:wy.cell? ⟨gs,6,none⟩=some (iV s.untl):=by have h:=own_at hst.so rfl 0 hsp 6 (iV s.untl) (by rw [← HS.out]; rfl); simpa using h
   clear hst;go_simp;try go_bits
   exact kz _ rfl
  apply GChV.v2
  ·rfl
  ·intro K' a wy ho hd hb hK kz;have o3:=ho 3 (by decide);simp [slot] at o3;clear hd ho;go_simp;try go_bits
   exact kz _ rfl
  apply GChV.v3
  ·rfl
  ·intro K' a wy ho hd hb hK kz;have q2:=hd ⟨2,.data⟩ (by simp) rfl;simp [rAt,IsV,slot] at q2;clear hd ho;have hst:=HCP.out wy hb;have ko:=hst.box.cell (j:=1) rfl;have d0:wy.cell? ⟨gs,0,none⟩=some (iV s.proto):=by have h:=own_at hst.so rfl 0 hsp 0 (iV s.proto) (by rw [← HS.out]; rfl); simpa using h
   have d1:wy.cell? ⟨gs,1,none⟩=some (.string s.inn):=by have h:=own_at hst.so rfl 0 hsp 1 (.string s.inn) (by rw [← HS.out]; rfl); simpa using h
   have d2:wy.cell? ⟨gs,2,none⟩=some (iV s.inPort):=by have h:=own_at hst.so rfl 0 hsp 2 (iV s.inPort) (by rw [← HS.out]; rfl); simpa using h
   have d3:wy.cell? ⟨gs,3,none⟩=some (.string s.peer):=by have h:=own_at hst.so rfl 0 hsp 3 (.string s.peer) (by rw [← HS.out]; rfl); simpa using h
   have d4:wy.cell? ⟨gs,4,none⟩=some (iV s.peerPort):=by have h:=own_at hst.so rfl 0 hsp 4 (iV s.peerPort) (by rw [← HS.out]; rfl); simpa using h
   have d5:wy.cell? ⟨gs,5,none⟩=some (iV s.state):=by have h:=own_at hst.so rfl 0 hsp 5 (iV s.state) (by rw [← HS.out]; rfl); simpa using h
   have d6:wy.cell? ⟨gs,6,none⟩=some (iV s.untl):=by have h:=own_at hst.so rfl 0 hsp 6 (iV s.untl) (by rw [← HS.out]; rfl); simpa using h
   clear hst;go_simp;try go_bits
   exact kz _ rfl
  (apply GChV.u rfl;(·intro K' a wy ho hd hb hK;simp [rAt,IsV,slot,Region.binds] at ho hd;go_simp;(try go_bits);exact hK _ _ rfl bQ);dsimp only [nA,cA])
  apply GChV.v5
  ·rfl
  ·intro K' a wy ho hd hb hK kz;have q4:=hd ⟨4,.data⟩ (by simp) rfl;simp [rAt,IsV,slot] at q4;clear hd ho;have hst:=HCP.out wy hb;have ko:=hst.box.cell (j:=1) rfl;have d0:wy.cell? ⟨gs,0,none⟩=some (iV s.proto):=by have h:=own_at hst.so rfl 0 hsp 0 (iV s.proto) (by rw [← HS.out]; rfl); simpa using h
   have d1:wy.cell? ⟨gs,1,none⟩=some (.string s.inn):=by have h:=own_at hst.so rfl 0 hsp 1 (.string s.inn) (by rw [← HS.out]; rfl); simpa using h
   have d2:wy.cell? ⟨gs,2,none⟩=some (iV s.inPort):=by have h:=own_at hst.so rfl 0 hsp 2 (iV s.inPort) (by rw [← HS.out]; rfl); simpa using h
   have d3:wy.cell? ⟨gs,3,none⟩=some (.string s.peer):=by have h:=own_at hst.so rfl 0 hsp 3 (.string s.peer) (by rw [← HS.out]; rfl); simpa using h
   have d4:wy.cell? ⟨gs,4,none⟩=some (iV s.peerPort):=by have h:=own_at hst.so rfl 0 hsp 4 (iV s.peerPort) (by rw [← HS.out]; rfl); simpa using h
   have d5:wy.cell? ⟨gs,5,none⟩=some (iV s.state):=by have h:=own_at hst.so rfl 0 hsp 5 (iV s.state) (by rw [← HS.out]; rfl); simpa using h
   have d6:wy.cell? ⟨gs,6,none⟩=some (iV s.untl):=by have h:=own_at hst.so rfl 0 hsp 6 (iV s.untl) (by rw [← HS.out]; rfl); simpa using h
   clear hst;go_simp;try go_bits
   exact kz _ rfl
  refine GChV.rel (n:=6) (IsOneC (ssL s)) (stable_isOneC _ (by simp [ssL])) [_,_,_,_,_,_,IsOneC (ssL s)] rfl rfl ?_ ?_
  ·intro K' a wy ho hd hb hK;rw [wN rfl];have q5:=hd ⟨5,.data⟩ (by simp) rfl;simp [rAt,IsV,slot] at q5;clear hd ho;go_simp;exact hK _ _ ⟨wy.heap.size,rfl,HoldsL.new wy (ssL s) _⟩ (bR.alloc lR _)
  intro X wz hR hz;obtain ⟨x0,x1,x2,x3,x4,x5,x6,-⟩:=hR;simp only [IsV] at x0 x1 x2 x3 x4 x5;simp only [putsFrom,x0,x1,x2,x3,x4,x5,putsFrom];clear x0 x1 x2 x3 x4 x5;obtain ⟨g7,e7,r7⟩:=x6;have SZ:=HCP.out wz hz;obtain ⟨v6,w6,hrun,hO6,S6⟩:=SZ.appS s g7 r7 (by omega);have HRUN:Hid _:=hrun;have HS6:Hid _:=S6;have p1:=hO6.cell (j:=1) rfl;have p2:=hO6.free (j:=1) (by simp);obtain ⟨a8,c8,e8,-,-⟩:=S6.shapes.2;have hv6:∃ a n c,v6=.slice a n c:=⟨_,_,_,e8⟩;clear hrun S6 hO6 SZ r7 hz HCP e8;obtain ⟨a8,n8,c8,rfl⟩:=hv6;simp only [e7];simp only [List.length_cons,List.length_nil,List.drop_succ_cons,List.drop_zero,Nat.zero_add,Nat.reduceAdd];intro K5 hK5;with_reducible refine wp_append_run (.tmp 66) (.tmp 71) _ rfl ?_ ?_ HRUN.out (hK5 _ _ ?_)
  ·simp [Act.eval,Act.put]
  ·simp [Act.eval,Act.put]
  intro K6 hK6;go_simp;refine hK6 _ _ ?_;intro K7 hK7;go_simp;refine hK7 _ _ ?_;simp only [wpSeq];clear HRUN p1 p2;generalize (w6.setCell ⟨w.heap.size,1,none⟩ (.slice a8 n8 c8))=W8 at *;have HF:Hid (SpF w B sa len cap size (w.heap.size+1) w.heap.size base W8):=HS6.out.fin ⟨by show x.binds.length≤100; omega,by simp; omega,HBD.out.2.2.1,mem_snoc_dr HBD.out.2.2.2 HSD.out⟩;obtain ⟨y,fa,fb,fc,fd,hy,hX,hR,hbi,hfa,hfb,hdr⟩:=HF.out;clear HF;obtain ⟨x0,x1⟩:=hX.c2;obtain ⟨z0,z1⟩:=hR.c2;obtain ⟨zf0,zf1⟩:=hR.f2;obtain ⟨HRR,DD,BI,HY⟩:=spoEnd (fc:=fc) (fd:=fd) hy hR hbi (fun g o e=>by have:=hfa g o e; omega) (fun g o e=>by have:=hfb g o e; omega) hdr;clear hy hX hR hbi hfa hfb hdr;go_wp2_with fail
  exact bodyPost_ret (results_mid Tryz.results90 _ _ _ _ _ rfl HRR.out Tryz.underlying31 rfl (show (Tryz.prog.info? 31).map (·.size)=some 2 by kernel_rfl)) rfl ⟨y,fa,fb,fc,fd,rfl,HY.out.1,BI.out,HY.out.2.1,HY.out.2.2,DD.out.src,DD.out.grown⟩
 have b4:(r6==4)=false:=by simp [d4]
 have HHx:HoldsL W4 w.heap.size (BbV (some ⟨gb,0,none⟩) cb1 (some ⟨gs,0,none⟩) cs1 x):=S4.out.box;obtain ⟨x0,x1⟩:=HHx.c2;clear HHx;have c3:W4.cell? ⟨gb,k*5+3,none⟩=some (.string q.out):=own_atB S4.out.bo rfl k hk 3 _ (by rw [← HQ.out]; rfl);have f3:W4.frozen? ⟨gb,k*5+3,none⟩=false:=own_free S4.out.bo _;have S6:Hid _:=S4.out.setB rfl k hk 3 (by decide) (.string ⟨#[203,0,113,2]⟩) { q with out:=⟨#[203,0,113,2]⟩ } (by rw [← HQ.out]; rfl);go_upto_region 17 with fail
 clear c3 f3 x0 x1 S4;generalize W4.setCell ⟨gb,k*5+3,none⟩ (.string ⟨#[203,0,113,2]⟩)=W8 at *;have HF:Hid (SpF w B sa len cap size (w.heap.size+1) w.heap.size base W8):=S6.out.fin ⟨by simp; omega,by show x.sess.length≤100; omega,mem_set_dr HBD.out.2.2.1 ⟨HQD.out.1,by show (⟨#[203,0,113,2]⟩ : ByteArray).size≤1000; decide,HQD.out.2.2⟩,HBD.out.2.2.2⟩;obtain ⟨y,fa,fb,fc,fd,hy,hX,hR,hbi,hfa,hfb,hdr⟩:=HF.out;clear HF;obtain ⟨x0,x1⟩:=hX.c2;obtain ⟨z0,z1⟩:=hR.c2;obtain ⟨zf0,zf1⟩:=hR.f2;obtain ⟨HRR,DD,BI,HY⟩:=spoEnd (fc:=fc) (fd:=fd) hy hR hbi (fun g o e=>by have:=hfa g o e; omega) (fun g o e=>by have:=hfb g o e; omega) hdr;clear hy hX hR hbi hfa hfb hdr;go_wp2_with fail
 exact bodyPost_ret (results_mid Tryz.results90 _ _ _ _ _ rfl HRR.out Tryz.underlying31 rfl (show (Tryz.prog.info? 31).map (·.size)=some 2 by kernel_rfl)) rfl ⟨y,fa,fb,fc,fd,rfl,HY.out.1,BI.out,HY.out.2.1,HY.out.2.2,DD.out.src,DD.out.grown⟩
end Go.Proofs.YtdkepkaflielhaaGreatDoor
