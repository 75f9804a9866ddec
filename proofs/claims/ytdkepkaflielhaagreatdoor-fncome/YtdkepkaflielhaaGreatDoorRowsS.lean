import Derived.Test.YtdkepkaflielhaaGreatDoorAb
import Derived.Test.YtdkepkaflielhaaGreatDoorTickS
import Derived.Test.YtdkepkaflielhaaGreatDoorSTick9
set_option linter.unusedVariables false
set_option linter.unusedSimpArgs false
set_option maxRecDepth 100000
set_option maxHeartbeats 8000000
namespace Go.Proofs.YtdkepkaflielhaaGreatDoor
open Go.RowKit Go.PlainAid
structure RowsSt (w:World) (base O:Nat) (ks:List (Nat × List Value)) (bv sv:Value) (ys:List Bd) (zs:List Ss) (wx:World):Prop where
 o:HoldsL wx O [bv,sv]
 bo:wx.ownsRow base 48 5 bv ys.length (flatS bdL ys)
 so:wx.ownsRow base 59 7 sv zs.length (flatS ssL zs)
 ne:∀ g,bv.ownBlock=some g→sv.ownBlock=some g→False
 b:Below w.heap.size w wx
 k:∀ e∈ks,HoldsL wx e.1 e.2
 lo:w.heap.size≤O
 hi:O < base
 hb:base≤wx.heap.size
 kb:∀ e∈ks,e.1 < base∧e.1≠O∧0 < e.2.length
section
variable {w:World} {base O:Nat} {ks:List (Nat × List Value)} {bv sv:Value} {ys:List Bd} {zs:List Ss} {wx wy:World}
theorem RowsSt.kept (h:RowsSt w base O ks bv sv ys zs wx) (hB:Below wx.heap.size wx wy):RowsSt w base O ks bv sv ys zs wy :=
 ⟨h.o.kept (by simp) hB,own_stable h.bo hB,own_stable h.so hB,h.ne,h.b.trans (hB.mono h.b.size),fun e he=>(h.k e he).kept (h.kb e he).2.2 hB,h.lo,h.hi,Nat.le_trans h.hb hB.size,h.kb⟩
theorem RowsSt.start {w:World} {O:Nat} {wx:World} (ks:List (Nat × List Value)) (ho:HoldsL wx O [.slice none 0 0,.slice none 0 0]) (hb:Below w.heap.size w wx) (hk:∀ e∈ks,HoldsL wx e.1 e.2) (hl:w.heap.size≤O) (hkb:∀ e∈ks,e.1 < wx.heap.size∧e.1≠O∧0 < e.2.length):RowsSt w wx.heap.size O ks (.slice none 0 0) (.slice none 0 0) [] [] wx :=
 ⟨ho,⟨by simp [flatS],.inl ⟨rfl,rfl⟩⟩,⟨by simp [flatS],.inl ⟨rfl,rfl⟩⟩,fun g e=>by simp [Value.ownBlock] at e,hb,hk,hl,ho.lt (by simp),Nat.le_refl _,hkb⟩
theorem RowsSt.appS (h:RowsSt w base O ks bv sv ys zs wx) (q:Ss) (g:Nat) (hg:HoldsL wx g (ssL q)) (hlen:zs.length≤1048576) :
  ∃ v6 w6,(Builtin.append_ #[29,29] 29 #[sv,.slice (some ⟨g,0,none⟩) 1 1]).run Tryz.prog wx=.ok v6 w6∧(∃ gg l c,v6=.slice (some ⟨gg,0,none⟩) l c)∧HoldsL w6 O [bv,sv]∧RowsSt w base O ks bv v6 ys (zs++[q]) (w6.setCell ⟨O,1,none⟩ v6):=by
 obtain ⟨i0,hi,hz0,hz1,hz2⟩:=info_parts Tryz.infoSs;have hOb:=h.hi;have hlo:=h.lo;have hbb:=h.hb;obtain ⟨v6,w6,hrun,h62,h63,h64,h65⟩:=run_append_own_at (P:=Tryz.prog) wx base 29 29 59 i0 _ 7 _ Tryz.underlying29 hi hz0 hz1 hz2 rfl (by decide) sv _ _ h.so ⟨g,0,none⟩ 1 1 (ssL q) rfl (fun i u hu=>by rw [add_at]; exact hg.cell hu) (ssL_one q) (by unfold maxLen; omega) (by omega) h.hb;have hnr:∀ X,X < base→some X≠sv.ownBlock:=fun X hX e=>ownC_ne h.so hX e.symm
 have n6:v6.ownBlock≠some O:=by
  rcases h65 with h7 | h7<;>rw [h7]
  ·exact ownC_ne h.so (by omega)
  ·intro e; injection e with e; omega
 have hO:=h.o.grown (by simp) h63 (hnr _ (by omega));have hne:∀ g,bv.ownBlock=some g→v6.ownBlock=some g→False:=by
  intro g e1 e2;rcases h65 with h7 | h7
  ·exact h.ne g e1 (h7 ▸ e2)
  ·rw [h7] at e2;injection e2 with e3
   have:=(ownC_in h.bo e1).2;omega
 have hold:=World.ownsRow.kept h.bo h63 (by
  by_cases e:bv.ownBlock=none
  ·exact .inl e
  ·refine .inr (fun e2=>?_);obtain ⟨k,hk⟩:=Option.ne_none_iff_exists'.1 e;exact h.ne k hk (e2 ▸ hk))
 have hsz:base≤(w6.setCell ⟨O,1,none⟩ v6).heap.size:=by simp; exact Nat.le_trans h.hb h63.size
 refine ⟨v6,w6,hrun,?_,hO,hO.set 1 v6,ownC_cell hold (ownC_ne h.bo (by omega)),ownC_cell (by rw [flatS_snoc,List.length_append]; exact h62) n6,hne,(below_grow h.b h63 (fun k e=>by have:=(ownC_in h.so e).1; omega)).setCell (p:=⟨O,1,none⟩) hlo v6,fun e he=>((h.k e he).grown (h.kb e he).2.2 h63 (hnr _ (h.kb e he).1)).setOther (h.kb e he).2.1 v6,h.lo,h.hi,hsz,h.kb⟩;rcases h62.2 with ⟨_,h0⟩ | ⟨gg,c6,_,h6,_⟩
 ·simp at h0
 ·exact ⟨gg,_,c6,h6⟩
theorem RowsSt.appB (h:RowsSt w base O ks bv sv ys zs wx) (q:Bd) (g:Nat) (hg:HoldsL wx g (bdL q)) (hlen:ys.length≤1048576) :
  ∃ v6 w6,(Builtin.append_ #[28,28] 28 #[bv,.slice (some ⟨g,0,none⟩) 1 1]).run Tryz.prog wx=.ok v6 w6∧(∃ gg l c,v6=.slice (some ⟨gg,0,none⟩) l c)∧HoldsL w6 O [bv,sv]∧RowsSt w base O ks v6 sv (ys++[q]) zs (w6.setCell ⟨O,0,none⟩ v6):=by
 obtain ⟨i0,hi,hz0,hz1,hz2⟩:=info_parts Tryz.infoBd;have hOb:=h.hi;have hlo:=h.lo;have hbb:=h.hb;obtain ⟨v6,w6,hrun,h62,h63,h64,h65⟩:=run_append_own_at (P:=Tryz.prog) wx base 28 28 48 i0 _ 5 _ Tryz.underlying28 hi hz0 hz1 hz2 rfl (by decide) bv _ _ h.bo ⟨g,0,none⟩ 1 1 (bdL q) rfl (fun i u hu=>by rw [add_at]; exact hg.cell hu) (bdL_one q) (by unfold maxLen; omega) (by omega) h.hb;have hnr:∀ X,X < base→some X≠bv.ownBlock:=fun X hX e=>ownC_ne h.bo hX e.symm
 have n6:v6.ownBlock≠some O:=by
  rcases h65 with h7 | h7<;>rw [h7]
  ·exact ownC_ne h.bo (by omega)
  ·intro e; injection e with e; omega
 have hO:=h.o.grown (by simp) h63 (hnr _ (by omega));have hne:∀ g,v6.ownBlock=some g→sv.ownBlock=some g→False:=by
  intro g e1 e2;rcases h65 with h7 | h7
  ·exact h.ne g (h7 ▸ e1) e2
  ·rw [h7] at e1;injection e1 with e3
   have:=(ownC_in h.so e2).2;omega
 have hold:=World.ownsRow.kept h.so h63 (by
  by_cases e:sv.ownBlock=none
  ·exact .inl e
  ·refine .inr (fun e2=>?_);obtain ⟨k,hk⟩:=Option.ne_none_iff_exists'.1 e;exact h.ne k (e2 ▸ hk) hk)
 have hsz:base≤(w6.setCell ⟨O,0,none⟩ v6).heap.size:=by simp; exact Nat.le_trans h.hb h63.size
 refine ⟨v6,w6,hrun,?_,hO,hO.set 0 v6,ownC_cell (by rw [flatS_snoc,List.length_append]; exact h62) n6,ownC_cell hold (ownC_ne h.so (by omega)),hne,(below_grow h.b h63 (fun k e=>by have:=(ownC_in h.bo e).1; omega)).setCell (p:=⟨O,0,none⟩) hlo v6,fun e he=>((h.k e he).grown (h.kb e he).2.2 h63 (hnr _ (h.kb e he).1)).setOther (h.kb e he).2.1 v6,h.lo,h.hi,hsz,h.kb⟩;rcases h62.2 with ⟨_,h0⟩ | ⟨gg,c6,_,h6,_⟩
 ·simp at h0
 ·exact ⟨gg,_,c6,h6⟩
theorem RowsSt.shapes (h:RowsSt w base O ks bv sv ys zs wx):(∃ a cap,bv=.slice a ys.length cap∧ys.length≤cap∧SlOwn bdL 5 base wx a ys)∧∃ a cap,sv=.slice a zs.length cap∧zs.length≤cap∧SlOwn ssL 7 base wx a zs :=
 ⟨Row.shape bdL_length (w0:=wx) ⟨h.bo,Below.refl _ _⟩,Row.shape ssL_length (w0:=wx) ⟨h.so,Below.refl _ _⟩⟩
end
end Go.Proofs.YtdkepkaflielhaaGreatDoor
