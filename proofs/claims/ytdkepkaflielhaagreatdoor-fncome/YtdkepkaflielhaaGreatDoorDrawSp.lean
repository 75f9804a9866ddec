import Derived.Test.YtdkepkaflielhaaGreatDoorAb
import Derived.Test.YtdkepkaflielhaaGreatDoorDrawDb
import Derived.Test.YtdkepkaflielhaaGreatDoorRowSet
set_option linter.unusedVariables false
set_option linter.unusedSimpArgs false
set_option maxRecDepth 100000
set_option maxHeartbeats 8000000
namespace Go.Proofs.YtdkepkaflielhaaGreatDoor
open Go.RowKit Go.PlainAid
structure SpS (w:World) (B:Nat) (sa:Option Addr) (len cap:Nat) (size:Int) (R X base:Nat) (bv sv:Value) (ys:List Bd) (zs:List Ss) (wx:World):Prop where
 dr:Dr w B sa len cap size wx
 out:HoldsL wx R [.slice none 0 0,.slice none 0 0]
 box:HoldsL wx X [bv,sv]
 bo:wx.ownsRow base 48 5 bv ys.length (flatS bdL ys)
 so:wx.ownsRow base 59 7 sv zs.length (flatS ssL zs)
 hX:w.heap.size≤X∧X < base
 hR:w.heap.size≤R∧R < base
 ne:X≠R
 wb:w.heap.size≤base
 hb:base≤wx.heap.size
def SpF (w:World) (B:Nat) (sa:Option Addr) (len cap:Nat) (size:Int) (R X base:Nat) (wx:World):Prop :=
 ∃ (y:Bb) (a b:Option Addr) (c d:Nat),BbDr y∧HoldsL wx X (BbV a c b d y)∧HoldsL wx R [.slice none 0 0,.slice none 0 0]∧BbIs wx a b y∧(∀ g o,a=some ⟨g,o,none⟩→base≤g)∧(∀ g o,b=some ⟨g,o,none⟩→base≤g)∧Dr w B sa len cap size wx
section
variable {w wx wy:World} {B:Nat} {sa:Option Addr} {len cap:Nat} {size:Int} {R X base:Nat} {bv sv:Value} {ys:List Bd} {zs:List Ss}
theorem SpS.draw (h:SpS w B sa len cap size R X base bv sv ys zs wx) (hs:Src wy B sa len cap size) (hg:wx.grownBy wy (some B)):SpS w B sa len cap size R X base bv sv ys zs wy:=by
 have hB:=h.dr.hB;have hX:=h.hX;have hR:=h.hR;have hw:=h.wb;exact ⟨h.dr.draw hs hg,h.out.grown (by simp) hg (by simp; omega),h.box.grown (by simp) hg (by simp; omega),own_EB h.bo hg (by omega),own_EB h.so hg (by omega),h.hX,h.hR,h.ne,h.wb,Nat.le_trans h.hb hg.size⟩
theorem SpS.below (h:SpS w B sa len cap size R X base bv sv ys zs wx) (hb:Below wx.heap.size wx wy):SpS w B sa len cap size R X base bv sv ys zs wy :=
 ⟨h.dr.below hb,h.out.kept (by simp) hb,h.box.kept (by simp) hb,own_stable h.bo hb,own_stable h.so hb,h.hX,h.hR,h.ne,h.wb,Nat.le_trans h.hb hb.size⟩
theorem dr_row {r:Option Nat} (h:Dr w B sa len cap size wx) (hg:wx.grownBy wy r) (hr:∀ k,r=some k→w.heap.size≤k):Dr w B sa len cap size wy:=by
 have hB:=h.hB;refine ⟨h.src.kept hg (fun k e=>by have:=hr k e; omega),?_,h.hB⟩;have h1:=h.grown;exact ⟨hg.os.trans h1.os,hg.tape.trans h1.tape,hg.output.trans h1.output,Nat.le_trans h1.size hg.size,fun k hk hne=>(hg.block k (Nat.lt_of_lt_of_le hk h1.size) (fun e=>by have:=hr k e.symm; omega)).trans (h1.block k hk hne)⟩
theorem SpS.appB (h:SpS w B sa len cap size R X base bv sv ys zs wx) (q:Bd) (g:Nat) (hg:HoldsL wx g (bdL q)) (hlen:ys.length≤1048576) :
  ∃ v6 w6,(Builtin.append_ #[28,28] 28 #[bv,.slice (some ⟨g,0,none⟩) 1 1]).run Tryz.prog wx=.ok v6 w6∧HoldsL w6 X [bv,sv]∧SpS w B sa len cap size R X base v6 sv (ys++[q]) zs (w6.setCell ⟨X,0,none⟩ v6):=by
 obtain ⟨i0,hi,hz0,hz1,hz2⟩:=info_parts Tryz.infoBd;have hX:=h.hX;have hR:=h.hR;have hw:=h.wb;have hbb:=h.hb;obtain ⟨v6,w6,hrun,h62,h63,h64,h65⟩:=run_append_own_at (P:=Tryz.prog) wx base 28 28 48 i0 _ 5 _ Tryz.underlying28 hi hz0 hz1 hz2 rfl (by decide) bv _ _ h.bo ⟨g,0,none⟩ 1 1 (bdL q) rfl (fun i u hu=>by rw [add_at]; exact hg.cell hu) (bdL_one q) (by unfold maxLen; omega) (by omega) h.hb;have hnr:∀ Y,Y < base→some Y≠bv.ownBlock:=fun Y hY e=>ownC_ne h.bo hY e.symm
 have n6:v6.ownBlock≠some X:=by
  rcases h65 with h7 | h7<;>rw [h7]
  ·exact ownC_ne h.bo (by omega)
  ·intro e; injection e with e; omega
 have hO:=h.box.grown (by simp) h63 (hnr _ (by omega));have hold:=World.ownsRow.kept h.so h63 (by
  by_cases e:sv.ownBlock=none
  ·exact .inl e
  ·refine .inr (fun e2=>?_);obtain ⟨k,hk⟩:=Option.ne_none_iff_exists'.1 e;exact ownT_ne h.bo h.so (by decide) k (e2 ▸ hk) hk)
 refine ⟨v6,w6,hrun,hO,⟨(dr_row h.dr h63 (fun k e=>by have:=(ownC_in h.bo e).1; omega)).set X 0 v6 hX.1,(h.out.grown (by simp) h63 (hnr _ (by omega))).setOther h.ne.symm v6,hO.set 0 v6,ownC_cell (by rw [flatS_snoc,List.length_append]; exact h62) n6,ownC_cell hold (ownC_ne h.so (by omega)),h.hX,h.hR,h.ne,h.wb,?_⟩⟩;simp; exact Nat.le_trans h.hb h63.size
theorem SpS.appS (h:SpS w B sa len cap size R X base bv sv ys zs wx) (q:Ss) (g:Nat) (hg:HoldsL wx g (ssL q)) (hlen:zs.length≤1048576) :
  ∃ v6 w6,(Builtin.append_ #[29,29] 29 #[sv,.slice (some ⟨g,0,none⟩) 1 1]).run Tryz.prog wx=.ok v6 w6∧HoldsL w6 X [bv,sv]∧SpS w B sa len cap size R X base bv v6 ys (zs++[q]) (w6.setCell ⟨X,1,none⟩ v6):=by
 obtain ⟨i0,hi,hz0,hz1,hz2⟩:=info_parts Tryz.infoSs;have hX:=h.hX;have hR:=h.hR;have hw:=h.wb;have hbb:=h.hb;obtain ⟨v6,w6,hrun,h62,h63,h64,h65⟩:=run_append_own_at (P:=Tryz.prog) wx base 29 29 59 i0 _ 7 _ Tryz.underlying29 hi hz0 hz1 hz2 rfl (by decide) sv _ _ h.so ⟨g,0,none⟩ 1 1 (ssL q) rfl (fun i u hu=>by rw [add_at]; exact hg.cell hu) (ssL_one q) (by unfold maxLen; omega) (by omega) h.hb;have hnr:∀ Y,Y < base→some Y≠sv.ownBlock:=fun Y hY e=>ownC_ne h.so hY e.symm
 have n6:v6.ownBlock≠some X:=by
  rcases h65 with h7 | h7<;>rw [h7]
  ·exact ownC_ne h.so (by omega)
  ·intro e; injection e with e; omega
 have hO:=h.box.grown (by simp) h63 (hnr _ (by omega));have hold:=World.ownsRow.kept h.bo h63 (by
  by_cases e:bv.ownBlock=none
  ·exact .inl e
  ·refine .inr (fun e2=>?_);obtain ⟨k,hk⟩:=Option.ne_none_iff_exists'.1 e;exact ownT_ne h.bo h.so (by decide) k hk (e2 ▸ hk))
 refine ⟨v6,w6,hrun,hO,⟨(dr_row h.dr h63 (fun k e=>by have:=(ownC_in h.so e).1; omega)).set X 1 v6 hX.1,(h.out.grown (by simp) h63 (hnr _ (by omega))).setOther h.ne.symm v6,hO.set 1 v6,ownC_cell hold (ownC_ne h.bo (by omega)),ownC_cell (by rw [flatS_snoc,List.length_append]; exact h62) n6,h.hX,h.hR,h.ne,h.wb,?_⟩⟩;simp; exact Nat.le_trans h.hb h63.size
theorem SpS.shapes (h:SpS w B sa len cap size R X base bv sv ys zs wx):(∃ a cap,bv=.slice a ys.length cap∧ys.length≤cap∧SlOwn bdL 5 base wx a ys)∧∃ a cap,sv=.slice a zs.length cap∧zs.length≤cap∧SlOwn ssL 7 base wx a zs :=
 ⟨Row.shape bdL_length (w0:=wx) ⟨h.bo,Below.refl _ _⟩,Row.shape ssL_length (w0:=wx) ⟨h.so,Below.refl _ _⟩⟩
theorem SpS.fin (h:SpS w B sa len cap size R X base bv sv ys zs wx) (hd:BbDr ⟨ys,zs⟩):SpF w B sa len cap size R X base wx:=by
 obtain ⟨⟨a,c,e1,-,h1⟩,b,d,e2,-,h2⟩:=h.shapes;have hb:=h.box;have hbo:=h.bo;have hso:=h.so;rw [e1,e2] at hb;rw [e1] at hbo;rw [e2] at hso;exact ⟨⟨ys,zs⟩,a,b,c,d,hd,hb,h.out,⟨h1.is,h2.is⟩,fun g o e=>by rw [e] at hbo; exact (ownC_in hbo (g:=g) rfl).1,fun g o e=>by rw [e] at hso; exact (ownC_in hso (g:=g) rfl).1,h.dr⟩
end
theorem own_atB {w:World} {base e n m g cap:Nat} {xs:List Bd} (h:w.ownsRow base e 5 (.slice (some ⟨g,0,none⟩) n cap) m (flatS bdL xs)) (hnm:n=m) (i:Nat) (hi:i < xs.length) (j:Nat) (v:Value) (hv:(bdL xs[i])[j]?=some v):w.cell? ⟨g,i*5+j,none⟩=some v:=by
 subst hnm;have hl:=flatS_length bdL_length xs;have hj:j < 5:=by have:=(List.getElem?_eq_some_iff.1 hv).1; rwa [bdL_length] at this
 have hn:=h.1;rw [hl] at hn;have hnl:n=xs.length:=by omega
 rw [World.ownsRow.cellAt h _ (by rw [hnl]; omega)];have hs:=flatS_set bdL_length j hj v xs i hi xs[i] (by rw [set_self hv]);rw [List.set_getElem_self] at hs;rw [hs,List.getElem?_set_self (by rw [hl]; omega)]
section
variable {w wx wy:World} {B:Nat} {sa:Option Addr} {len cap:Nat} {size:Int} {R X base:Nat} {bv sv:Value} {ys:List Bd} {zs:List Ss}
theorem SpS.setB {g c n:Nat} (h:SpS w B sa len cap size R X base (.slice (some ⟨g,0,none⟩) n c) sv ys zs wx) (hn:n=ys.length) (i:Nat) (hi:i < ys.length) (j:Nat) (hj:j < 5) (v:Value) (y:Bd) (hy:bdL y=(bdL ys[i]).set j v):SpS w B sa len cap size R X base (.slice (some ⟨g,0,none⟩) n c) sv (ys.set i y) zs (wx.setCell ⟨g,i*5+j,none⟩ v):=by
 subst hn;have hg:=(ownC_in h.bo (g:=g) rfl).1;have hX:=h.hX;have hR:=h.hR;have hw:=h.wb;have hsv:sv.ownBlock≠some g:=fun e=>ownT_ne h.bo h.so (by decide) g rfl e
 refine ⟨h.dr.set g _ v (by omega),h.out.setOther (by omega) _,h.box.setOther (by omega) _,?_,ownC_cell h.so hsv,h.hX,h.hR,h.ne,h.wb,by simpa using h.hb⟩;rw [List.length_set,flatS_set bdL_length j hj v ys i hi y hy];exact own_set h.bo _ (by rw [flatS_length bdL_length]; omega) v
theorem SpS.setS {g c n:Nat} (h:SpS w B sa len cap size R X base bv (.slice (some ⟨g,0,none⟩) n c) ys zs wx) (hn:n=zs.length) (i:Nat) (hi:i < zs.length) (j:Nat) (hj:j < 7) (v:Value) (y:Ss) (hy:ssL y=(ssL zs[i]).set j v):SpS w B sa len cap size R X base bv (.slice (some ⟨g,0,none⟩) n c) ys (zs.set i y) (wx.setCell ⟨g,i*7+j,none⟩ v):=by
 subst hn;have hg:=(ownC_in h.so (g:=g) rfl).1;have hX:=h.hX;have hR:=h.hR;have hw:=h.wb;have hbv:bv.ownBlock≠some g:=fun e=>ownT_ne h.bo h.so (by decide) g e rfl
 refine ⟨h.dr.set g _ v (by omega),h.out.setOther (by omega) _,h.box.setOther (by omega) _,ownC_cell h.bo hbv,?_,h.hX,h.hR,h.ne,h.wb,by simpa using h.hb⟩;rw [List.length_set,flatS_set ssL_length j hj v zs i hi y hy];exact own_set h.so _ (by rw [flatS_length ssL_length]; omega) v
end
end Go.Proofs.YtdkepkaflielhaaGreatDoor
