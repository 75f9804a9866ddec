import Derived.Test.YthagnjokdnnmpaaGreatIFits
import Derived.Test.YthagnjokdnnmpaaGreatMerged2
import Derived.Test.YthagnjokdnnmpaaGreatMerged17
import Derived.Test.YthagnjokdnnmpaaGreatMerged1
import Derived.Maps.AppendAt
import Derived.OwnWalk
import Derived.Test.YthagnjokdnnmpaaGreatMerged5
import Derived.Test.YthagnjokdnnmpaaGreatSBibR
import Derived.Test.YthagnjokdnnmpaaGreatMerged11
import Derived.ArgAppend
import Derived.Test.YthagnjokdnnmpaaGreatMerged8
import Derived.Test.YthagnjokdnnmpaaGreatMerged6
import Derived.Test.YthagnjokdnnmpaaGreatMerged15
import Derived.Deep.MidRow
import Derived.WalkKit
set_option linter.unusedVariables false
set_option linter.unusedSimpArgs false
set_option maxRecDepth 100000
set_option maxHeartbeats 8000000
namespace Go.Proofs.YthagnjokdnnmpaaGreat
open Go.RowKit
theorem wp_append_run {P:Program} {o:Oper} {a:Act} {w w':World} {v1 v2 v':Value} {K:Act→World→Prop} {Q:Exit→Act→World→Prop} (s x:Operand) (t:TypeId) (hop:o.op=Op.call { callee:=Callee.builtin Builtin.append,args:=#[s,x],argTypes:=#[t,t] })
  (hs:a.eval s=v1) (hx:a.eval x=v2) (hrun:(Builtin.append_ #[t,t] o.type #[v1,v2]).run P w=.ok v' w') (hK:K (a.put o.dst v') w'):Oper.wp P o a w K Q:=by
 unfold Oper.wp;simp [execOp,hop,resolve,invoke,builtin,hs,hx,hrun,Result.andThen];exact hK
theorem wpList_append_run {P:Program} {ops:Array Oper} {rest:List Oper} {o:Oper} {a:Act} {w w':World} {v1 v2 v':Value} {Q:Exit→Act→World→Prop} (hg:o.guard=none) (s x:Operand) (t:TypeId) (hop:o.op=Op.call { callee:=Callee.builtin Builtin.append,args:=#[s,x],argTypes:=#[t,t] })
  (hs:a.eval s=v1) (hx:a.eval x=v2) (hrun:(Builtin.append_ #[t,t] o.type #[v1,v2]).run P w=.ok v' w') (hK:wpList P ops Q rest (a.put o.dst v') w'):wpList P ops Q (o::rest) a w :=
 wpList_plain hg fun K hK'=>wp_append_run s x t hop hs hx hrun (hK' _ _ hK)
theorem own_stable {base n z:Nat} {e:TypeId} {v:Value} {xs:List Value} {w w':World} (h:w.ownsRow base e z v n xs) (hb:Below w.heap.size w w'):w'.ownsRow base e z v n xs:=h.kept (grown_of_below (r:=none) hb) (by cases v.ownBlock<;>simp)
open Go.PlainAid
theorem ownC_cell {w:World} {base n s X j:Nat} {e:TypeId} {v u:Value} {xs:List Value} (h:w.ownsRow base e s v n xs) (hne:v.ownBlock≠some X):(w.setCell ⟨X,j,none⟩ u).ownsRow base e s v n xs:=by
 obtain ⟨h1,h2⟩:=h;refine ⟨h1,?_⟩;rcases h2 with h2 | ⟨g,cap,cur,rfl,hg,hh,h3⟩
 ·exact .inl h2
 ·exact .inr ⟨g,cap,cur,rfl,hg,(Below.heap_setCell w _ u g (fun e=>hne (by simpa [Value.ownBlock] using e))).trans hh,h3⟩
theorem ownC_in {w:World} {base n s g:Nat} {e:TypeId} {v:Value} {xs:List Value} (h:w.ownsRow base e s v n xs) (hg:v.ownBlock=some g):base≤g∧g < w.heap.size:=by
 rcases h.2 with ⟨rfl,_⟩ | ⟨g',cap,cur,rfl,hb,hh,_⟩
 ·simp [Value.ownBlock] at hg
 ·simp [Value.ownBlock] at hg; subst hg; exact ⟨hb,(Array.getElem?_eq_some_iff.1 hh).1⟩
theorem ownC_ne {w:World} {base n s:Nat} {e:TypeId} {v:Value} {xs:List Value} (h:w.ownsRow base e s v n xs) {X:Nat} (hX:X < base):v.ownBlock≠some X:=fun e=>by have:=(ownC_in h e).1; omega
theorem bdL_one (q:Bd):∀ u∈bdL q,u.oneCell'=true:=fun u hu=>by simp [bdL] at hu; rcases hu with rfl | rfl | rfl | rfl | rfl<;>rfl
theorem ssL_one (q:Ss):∀ u∈ssL q,u.oneCell'=true:=fun u hu=>by simp [ssL] at hu; rcases hu with rfl | rfl | rfl | rfl | rfl | rfl | rfl<;>rfl
theorem add_at (g i:Nat):(⟨g,0,none⟩ : Addr).add i=⟨g,i,none⟩:=by cases i<;>simp [Addr.add]
structure TickSt (w:World) (cs:List Value) (bv sv:Value) (ys:List Bd) (zs:List Ss) (wx:World):Prop where
 x:HoldsL wx w.heap.size cs
 r:HoldsL wx (w.heap.size+1) [.slice none 0 0,.slice none 0 0]
 o:HoldsL wx (w.heap.size+1+1) [bv,sv]
 bo:wx.ownsRow (w.heap.size+1+1+1) 153 5 bv ys.length (flatS bdL ys)
 so:wx.ownsRow (w.heap.size+1+1+1) 150 7 sv zs.length (flatS ssL zs)
 b:Below w.heap.size w wx
 ne:∀ g,bv.ownBlock=some g→sv.ownBlock=some g→False
section
variable {w:World} {cs:List Value} {bv sv:Value} {ys:List Bd} {zs:List Ss} {wx wy:World}
theorem TickSt.kept (h:TickSt w cs bv sv ys zs wx) (hc:0 < cs.length) (hB:Below wx.heap.size wx wy):TickSt w cs bv sv ys zs wy :=
 ⟨h.x.kept hc hB,h.r.kept (by simp) hB,h.o.kept (by simp) hB,own_stable h.bo hB,own_stable h.so hB,h.b.trans (hB.mono h.b.size),h.ne⟩
theorem TickSt.drew (h:TickSt w cs bv sv ys zs wx):TickSt w cs bv sv ys zs wx.drew:=⟨h.x.drew,h.r.drew,h.o.drew,h.bo,h.so,h.b.drew,h.ne⟩
theorem below_grow {row:Option Nat} (hb:Below w.heap.size w wx) (hg:wx.grownBy wy row) (hr:∀ g,row=some g→w.heap.size≤g):Below w.heap.size w wy :=
 ⟨hg.os.trans hb.os,hg.tape.trans hb.tape,hg.output.trans hb.output,Nat.le_trans hb.size hg.size,fun k hk=>by
  rw [hg.block k (Nat.lt_of_lt_of_le hk hb.size) (fun e=>by have:=hr k e.symm; omega)]; exact hb.block k hk⟩
theorem TickSt.appS (h:TickSt w cs bv sv ys zs wx) (hc:0 < cs.length) (q:Ss) (g:Nat) (hg:HoldsL wx g (ssL q)) (hlen:zs.length≤1048576) :
  ∃ v6 w6,(Builtin.append_ #[34,34] 34 #[sv,.slice (some ⟨g,0,none⟩) 1 1]).run Tryz.prog wx=.ok v6 w6∧(∃ gg l c,v6=.slice (some ⟨gg,0,none⟩) l c)∧HoldsL w6 (w.heap.size+1+1) [bv,sv]∧TickSt w cs bv v6 ys (zs++[q]) (w6.setCell ⟨w.heap.size+1+1,1,none⟩ v6):=by
 obtain ⟨i0,hi,hz0,hz1,hz2⟩:=info_parts Tryz.infoSs;have hos:=h.o.lt (by simp);obtain ⟨v6,w6,hrun,h62,h63,h64,h65⟩:=run_append_own_at (P:=Tryz.prog) wx (w.heap.size+1+1+1) 34 34 150 i0 _ 7 _ Tryz.underlying34 hi hz0 hz1 hz2 rfl (by decide) sv _ _ h.so ⟨g,0,none⟩ 1 1 (ssL q) rfl (fun i u hu=>by rw [add_at]; exact hg.cell hu) (ssL_one q) (by unfold maxLen; omega) (by omega) (by omega);have hnr:∀ X,X < w.heap.size+1+1+1→some X≠sv.ownBlock:=fun X hX e=>ownC_ne h.so hX e.symm
 have n6:v6.ownBlock≠some (w.heap.size+1+1):=by
  rcases h65 with h7 | h7<;>rw [h7]
  ·exact ownC_ne h.so (by omega)
  ·intro e; injection e with e; omega
 have hO:=h.o.grown (by simp) h63 (hnr _ (by omega));have hne:∀ g,bv.ownBlock=some g→v6.ownBlock=some g→False:=by
  intro g e1 e2;rcases h65 with h7 | h7
  ·exact h.ne g e1 (h7 ▸ e2)
  ·rw [h7] at e2;injection e2 with e3
   have:=(ownC_in h.bo e1).2;omega
 have hold:=World.ownsRow.kept h.bo h63 (by
  by_cases e:bv.ownBlock=none
  ·exact .inl e
  ·refine .inr (fun e2=>?_);obtain ⟨k,hk⟩:=Option.ne_none_iff_exists'.1 e;exact h.ne k hk (e2 ▸ hk))
 refine ⟨v6,w6,hrun,?_,hO,(h.x.grown hc h63 (hnr _ (by omega))).setOther (by omega) v6,(h.r.grown (by simp) h63 (hnr _ (by omega))).setOther (by omega) v6,hO.set 1 v6,ownC_cell hold (ownC_ne h.bo (by omega)),ownC_cell (by rw [flatS_snoc,List.length_append]; exact h62) n6,(below_grow h.b h63 (fun k e=>by have:=(ownC_in h.so e).1; omega)).setCell (p:=⟨w.heap.size+1+1,1,none⟩) (by show w.heap.size≤w.heap.size+1+1; omega) v6,hne⟩;rcases h62.2 with ⟨_,h0⟩ | ⟨gg,c6,_,h6,_⟩
 ·simp at h0
 ·exact ⟨gg,_,c6,h6⟩
theorem TickSt.appB (h:TickSt w cs bv sv ys zs wx) (hc:0 < cs.length) (q:Bd) (g:Nat) (hg:HoldsL wx g (bdL q)) (hlen:ys.length≤1048576) :
  ∃ v6 w6,(Builtin.append_ #[33,33] 33 #[bv,.slice (some ⟨g,0,none⟩) 1 1]).run Tryz.prog wx=.ok v6 w6∧(∃ gg l c,v6=.slice (some ⟨gg,0,none⟩) l c)∧HoldsL w6 (w.heap.size+1+1) [bv,sv]∧TickSt w cs v6 sv (ys++[q]) zs (w6.setCell ⟨w.heap.size+1+1,0,none⟩ v6):=by
 obtain ⟨i0,hi,hz0,hz1,hz2⟩:=info_parts Tryz.infoBd;have hos:=h.o.lt (by simp);obtain ⟨v6,w6,hrun,h62,h63,h64,h65⟩:=run_append_own_at (P:=Tryz.prog) wx (w.heap.size+1+1+1) 33 33 153 i0 _ 5 _ Tryz.underlying33 hi hz0 hz1 hz2 rfl (by decide) bv _ _ h.bo ⟨g,0,none⟩ 1 1 (bdL q) rfl (fun i u hu=>by rw [add_at]; exact hg.cell hu) (bdL_one q) (by unfold maxLen; omega) (by omega) (by omega);have hnr:∀ X,X < w.heap.size+1+1+1→some X≠bv.ownBlock:=fun X hX e=>ownC_ne h.bo hX e.symm
 have n6:v6.ownBlock≠some (w.heap.size+1+1):=by
  rcases h65 with h7 | h7<;>rw [h7]
  ·exact ownC_ne h.bo (by omega)
  ·intro e; injection e with e; omega
 have hO:=h.o.grown (by simp) h63 (hnr _ (by omega));have hne:∀ g,v6.ownBlock=some g→sv.ownBlock=some g→False:=by
  intro g e1 e2;rcases h65 with h7 | h7
  ·exact h.ne g (h7 ▸ e1) e2
  ·rw [h7] at e1;injection e1 with e3
   have:=(ownC_in h.so e2).2;omega
 have hold:=World.ownsRow.kept h.so h63 (by
  by_cases e:sv.ownBlock=none
  ·exact .inl e
  ·refine .inr (fun e2=>?_);obtain ⟨k,hk⟩:=Option.ne_none_iff_exists'.1 e;exact h.ne k (e2 ▸ hk) hk)
 refine ⟨v6,w6,hrun,?_,hO,(h.x.grown hc h63 (hnr _ (by omega))).setOther (by omega) v6,(h.r.grown (by simp) h63 (hnr _ (by omega))).setOther (by omega) v6,hO.set 0 v6,ownC_cell (by rw [flatS_snoc,List.length_append]; exact h62) n6,ownC_cell hold (ownC_ne h.so (by omega)),(below_grow h.b h63 (fun k e=>by have:=(ownC_in h.bo e).1; omega)).setCell (p:=⟨w.heap.size+1+1,0,none⟩) (by show w.heap.size≤w.heap.size+1+1; omega) v6,hne⟩;rcases h62.2 with ⟨_,h0⟩ | ⟨gg,c6,_,h6,_⟩
 ·simp at h0
 ·exact ⟨gg,_,c6,h6⟩
end
def IsOneC (cs:List Value):Value→World→Prop:=fun v w=>∃ g,v=.slice (some ⟨g,0,none⟩) 1 1∧HoldsL w g cs
theorem stable_isOneC (cs:List Value) (hl:0 < cs.length):Stable (IsOneC cs):=fun v w w' ⟨g,h1,h2⟩ hb=>⟨g,h1,h2.kept hl hb⟩
structure RowsSt (w:World) (base O:Nat) (ks:List (Nat × List Value)) (bv sv:Value) (ys:List Bd) (zs:List Ss) (wx:World):Prop where
 o:HoldsL wx O [bv,sv]
 bo:wx.ownsRow base 153 5 bv ys.length (flatS bdL ys)
 so:wx.ownsRow base 150 7 sv zs.length (flatS ssL zs)
 ne:∀ g,bv.ownBlock=some g→sv.ownBlock=some g→False
 b:Below w.heap.size w wx
 k:∀ e∈ks,HoldsL wx e.1 e.2
 lo:w.heap.size≤O
 hi:O < base
 hb:base≤wx.heap.size
 kb:∀ e∈ks,e.1 < base∧e.1≠O∧0 < e.2.length
section
variable {w:World} {base O:Nat} {ks:List (Nat × List Value)} {bv sv:Value} {ys:List Bd} {zs:List Ss} {wx wy:World}
theorem RowsSt.at {a:Nat} {l:List Value} (h:RowsSt w base O ks bv sv ys zs wx) (hm:(a,l)∈ks):HoldsL wx a l:=h.k _ hm
theorem RowsSt.kept (h:RowsSt w base O ks bv sv ys zs wx) (hB:Below wx.heap.size wx wy):RowsSt w base O ks bv sv ys zs wy :=
 ⟨h.o.kept (by simp) hB,own_stable h.bo hB,own_stable h.so hB,h.ne,h.b.trans (hB.mono h.b.size),fun e he=>(h.k e he).kept (h.kb e he).2.2 hB,h.lo,h.hi,Nat.le_trans h.hb hB.size,h.kb⟩
theorem RowsSt.start {w:World} {O:Nat} {wx:World} (ks:List (Nat × List Value)) (ho:HoldsL wx O [.slice none 0 0,.slice none 0 0]) (hb:Below w.heap.size w wx) (hk:∀ e∈ks,HoldsL wx e.1 e.2) (hl:w.heap.size≤O) (hkb:∀ e∈ks,e.1 < wx.heap.size∧e.1≠O∧0 < e.2.length):RowsSt w wx.heap.size O ks (.slice none 0 0) (.slice none 0 0) [] [] wx :=
 ⟨ho,⟨by simp [flatS],.inl ⟨rfl,rfl⟩⟩,⟨by simp [flatS],.inl ⟨rfl,rfl⟩⟩,fun g e=>by simp [Value.ownBlock] at e,hb,hk,hl,ho.lt (by simp),Nat.le_refl _,hkb⟩
theorem RowsSt.appS (h:RowsSt w base O ks bv sv ys zs wx) (q:Ss) (g:Nat) (hg:HoldsL wx g (ssL q)) (hlen:zs.length≤1048576) :
  ∃ v6 w6,(Builtin.append_ #[34,34] 34 #[sv,.slice (some ⟨g,0,none⟩) 1 1]).run Tryz.prog wx=.ok v6 w6∧(∃ gg l c,v6=.slice (some ⟨gg,0,none⟩) l c)∧HoldsL w6 O [bv,sv]∧RowsSt w base O ks bv v6 ys (zs++[q]) (w6.setCell ⟨O,1,none⟩ v6):=by
 obtain ⟨i0,hi,hz0,hz1,hz2⟩:=info_parts Tryz.infoSs;have hOb:=h.hi;have hlo:=h.lo;have hbb:=h.hb;obtain ⟨v6,w6,hrun,h62,h63,h64,h65⟩:=run_append_own_at (P:=Tryz.prog) wx base 34 34 150 i0 _ 7 _ Tryz.underlying34 hi hz0 hz1 hz2 rfl (by decide) sv _ _ h.so ⟨g,0,none⟩ 1 1 (ssL q) rfl (fun i u hu=>by rw [add_at]; exact hg.cell hu) (ssL_one q) (by unfold maxLen; omega) (by omega) h.hb;have hnr:∀ X,X < base→some X≠sv.ownBlock:=fun X hX e=>ownC_ne h.so hX e.symm
 have n6:v6.ownBlock≠some O:=by
  rcases h65 with h7 | h7<;>rw [h7]
  ·exact ownC_ne h.so (by omega)
  ·intro e; injection e with e; omega
 have hO:=h.o.grown (by simp) h63 (hnr _ (by omega));have hne:∀ g,bv.ownBlock=some g→v6.ownBlock=some g→False:=by
  intro g e1 e2;rcases h65 with h7 | h7
  ·exact h.ne g e1 (h7 ▸ e2)
  ·rw [h7] at e2;injection e2 with e3
   have:=(ownC_in h.bo e1).2;omega
 have hold:=World.ownsRow.kept h.bo h63 (by
  by_cases e:bv.ownBlock=none
  ·exact .inl e
  ·refine .inr (fun e2=>?_);obtain ⟨k,hk⟩:=Option.ne_none_iff_exists'.1 e;exact h.ne k hk (e2 ▸ hk))
 have hsz:base≤(w6.setCell ⟨O,1,none⟩ v6).heap.size:=by simp; exact Nat.le_trans h.hb h63.size
 refine ⟨v6,w6,hrun,?_,hO,hO.set 1 v6,ownC_cell hold (ownC_ne h.bo (by omega)),ownC_cell (by rw [flatS_snoc,List.length_append]; exact h62) n6,hne,(below_grow h.b h63 (fun k e=>by have:=(ownC_in h.so e).1; omega)).setCell (p:=⟨O,1,none⟩) hlo v6,fun e he=>((h.k e he).grown (h.kb e he).2.2 h63 (hnr _ (h.kb e he).1)).setOther (h.kb e he).2.1 v6,h.lo,h.hi,hsz,h.kb⟩;rcases h62.2 with ⟨_,h0⟩ | ⟨gg,c6,_,h6,_⟩
 ·simp at h0
 ·exact ⟨gg,_,c6,h6⟩
theorem RowsSt.appB (h:RowsSt w base O ks bv sv ys zs wx) (q:Bd) (g:Nat) (hg:HoldsL wx g (bdL q)) (hlen:ys.length≤1048576) :
  ∃ v6 w6,(Builtin.append_ #[33,33] 33 #[bv,.slice (some ⟨g,0,none⟩) 1 1]).run Tryz.prog wx=.ok v6 w6∧(∃ gg l c,v6=.slice (some ⟨gg,0,none⟩) l c)∧HoldsL w6 O [bv,sv]∧RowsSt w base O ks v6 sv (ys++[q]) zs (w6.setCell ⟨O,0,none⟩ v6):=by
 obtain ⟨i0,hi,hz0,hz1,hz2⟩:=info_parts Tryz.infoBd;have hOb:=h.hi;have hlo:=h.lo;have hbb:=h.hb;obtain ⟨v6,w6,hrun,h62,h63,h64,h65⟩:=run_append_own_at (P:=Tryz.prog) wx base 33 33 153 i0 _ 5 _ Tryz.underlying33 hi hz0 hz1 hz2 rfl (by decide) bv _ _ h.bo ⟨g,0,none⟩ 1 1 (bdL q) rfl (fun i u hu=>by rw [add_at]; exact hg.cell hu) (bdL_one q) (by unfold maxLen; omega) (by omega) h.hb;have hnr:∀ X,X < base→some X≠bv.ownBlock:=fun X hX e=>ownC_ne h.bo hX e.symm
 have n6:v6.ownBlock≠some O:=by
  rcases h65 with h7 | h7<;>rw [h7]
  ·exact ownC_ne h.bo (by omega)
  ·intro e; injection e with e; omega
 have hO:=h.o.grown (by simp) h63 (hnr _ (by omega));have hne:∀ g,v6.ownBlock=some g→sv.ownBlock=some g→False:=by
  intro g e1 e2;rcases h65 with h7 | h7
  ·exact h.ne g (h7 ▸ e1) e2
  ·rw [h7] at e1;injection e1 with e3
   have:=(ownC_in h.so e2).2;omega
 have hold:=World.ownsRow.kept h.so h63 (by
  by_cases e:sv.ownBlock=none
  ·exact .inl e
  ·refine .inr (fun e2=>?_);obtain ⟨k,hk⟩:=Option.ne_none_iff_exists'.1 e;exact h.ne k (e2 ▸ hk) hk)
 have hsz:base≤(w6.setCell ⟨O,0,none⟩ v6).heap.size:=by simp; exact Nat.le_trans h.hb h63.size
 refine ⟨v6,w6,hrun,?_,hO,hO.set 0 v6,ownC_cell (by rw [flatS_snoc,List.length_append]; exact h62) n6,ownC_cell hold (ownC_ne h.so (by omega)),hne,(below_grow h.b h63 (fun k e=>by have:=(ownC_in h.bo e).1; omega)).setCell (p:=⟨O,0,none⟩) hlo v6,fun e he=>((h.k e he).grown (h.kb e he).2.2 h63 (hnr _ (h.kb e he).1)).setOther (h.kb e he).2.1 v6,h.lo,h.hi,hsz,h.kb⟩;rcases h62.2 with ⟨_,h0⟩ | ⟨gg,c6,_,h6,_⟩
 ·simp at h0
 ·exact ⟨gg,_,c6,h6⟩
theorem RowsSt.shapes (h:RowsSt w base O ks bv sv ys zs wx):(∃ a cap,bv=.slice a ys.length cap∧ys.length≤cap∧SlOwn bdL 5 base wx a ys)∧∃ a cap,sv=.slice a zs.length cap∧zs.length≤cap∧SlOwn ssL 7 base wx a zs :=
 ⟨Row.shape bdL_length (w0:=wx) ⟨h.bo,Below.refl _ _⟩,Row.shape ssL_length (w0:=wx) ⟨h.so,Below.refl _ _⟩⟩
end
theorem ownT_ne {w:World} {base e1 e2 n m s1 s2:Nat} {v v2:Value} {xs ys:List Value} (h1:w.ownsRow base e1 s1 v n xs) (h2:w.ownsRow base e2 s2 v2 m ys) (hne:e1≠e2):∀ g,v.ownBlock=some g→v2.ownBlock=some g→False:=by
 intro g g1 g2;rcases h1.2 with ⟨rfl,_⟩ | ⟨g',cap,cur,rfl,_,hh,_⟩
 ·simp [Value.ownBlock] at g1
 ·rcases h2.2 with ⟨rfl,_⟩ | ⟨g'',cap2,cur2,rfl,_,hh2,_⟩
  ·simp [Value.ownBlock] at g2
  ·simp [Value.ownBlock] at g1 g2;subst g1 g2;rw [hh] at hh2;simp at hh2;exact hne hh2.2
def IsRw {α:Type} (en:α→List Value) (n base:Nat) (e:TypeId) (xs:List α):Value→World→Prop:=fun v w=>w.ownsRow base e n v xs.length (flatS en xs)
theorem stable_isRw {α:Type} (en:α→List Value) (n base:Nat) (e:TypeId) (xs:List α):Stable (IsRw en n base e xs):=fun v w w' h hb=>own_stable h hb
def IsNo (n base:Nat) (e:TypeId):Value→World→Prop:=fun v w=>∃ g,v=.slice (some ⟨g,0,none⟩) 0 0∧w.ownsRow base e n v 0 []
theorem stable_isNo (n base:Nat) (e:TypeId):Stable (IsNo n base e):=fun v w w' ⟨g,h1,h2⟩ hb=>⟨g,h1,own_stable h2 hb⟩
def CopyRet (base:Nat) (x:Bb) (e:Ending) (w:World):Prop:=∃ bv sv,e=.returned (.agg #[bv,sv])∧w.ownsRow base 153 5 bv x.binds.length (flatS bdL x.binds)∧w.ownsRow base 150 7 sv x.sess.length (flatS ssL x.sess)
def IsCp (base:Nat) (x:Bb):Value→World→Prop:=fun v w=>∃ a b c d,v=.agg #[.slice a x.binds.length c,.slice b x.sess.length d]∧w.ownsRow base 153 5 (.slice a x.binds.length c) x.binds.length (flatS bdL x.binds)∧w.ownsRow base 150 7 (.slice b x.sess.length d) x.sess.length (flatS ssL x.sess)
theorem stable_isCp (base:Nat) (x:Bb):Stable (IsCp base x):=fun v w w' ⟨a,b,c,d,h1,h2,h3⟩ hb=>⟨a,b,c,d,h1,own_stable h2 hb,own_stable h3 hb⟩
theorem copyBind_all {base g0 cap:Nat} {a:Option Addr} {ty:TypeId} {xs:List Bd} {w:World} (h0:w.ownsRow base 153 5 (.slice (some ⟨g0,0,none⟩) 0 0) 0 []) (hx:SlIs bdL 5 w a xs) (hl:xs.length≤1048576) (hb:base≤w.heap.size) :
  ∃ v' w',(Builtin.append_ #[33,33] ty #[.slice (some ⟨g0,0,none⟩) 0 0,.slice a xs.length cap]).run Tryz.prog w=.ok v' w'∧w'.ownsRow base 153 5 v' xs.length (flatS bdL xs)∧Below w.heap.size w w':=by
 obtain ⟨i0,hi,hz0,hz1,hz2⟩:=info_parts Tryz.infoBd;by_cases hn:xs=[]
 ·subst hn;have hr:(Builtin.append_ #[33,33] ty #[.slice (some ⟨g0,0,none⟩) 0 0,.slice a 0 cap]).run Tryz.prog w=.ok (.slice (some ⟨g0,0,none⟩) 0 0) w:=by
   cases a with
   | none=>simp [Builtin.append_,run_underlying Tryz.underlying33,sizeOf,typeInfo,hi,Builtin.lenOf,Builtin.firstCells,storeCells]
   | some v =>
    have hr:=run_append_room_cells (P:=Tryz.prog) w 33 ty 153 i0 Tryz.underlying33 hi g0 0 0 0 v 0 cap [] (by simp) (fun j u hu=>by simp at hu) (fun u hu=>by simp at hu) (by omega) (fun j hj=>by simp at hj) (fun j hj=>by simp at hj);simpa [World.setCells] using hr
  exact ⟨_,_,hr,by simpa [flatS] using h0,Below.refl _ _⟩
 ·rcases hx with e | ⟨b,off,rfl,hbl,hx⟩
  ·exact absurd e hn
  have hpos:0 < xs.length:=List.length_pos_iff.2 hn;obtain ⟨v',w',hr,h1,h2⟩:=run_append_arg_grows (P:=Tryz.prog) w 33 ty 153 i0 _ 5 _ Tryz.underlying33 hi hz0 hz1 hz2 rfl (by decide) ⟨g0,0,none⟩ 0 0 [] (by simp) (fun j u hu=>by simp at hu) ⟨b,off,none⟩ xs.length cap (flatS bdL xs) (flatS_length bdL_length xs) (fun j u hu=>by
   rw [Addr.add_lit]; exact flatS_cells bdL_length (by omega) hx j u hu) (by omega) (by unfold maxLen; omega) (by omega)
  refine ⟨v',w',hr,?_,⟨h2.os,h2.tape,h2.output,h2.size,fun k hk=>h2.block k hk (by simp)⟩⟩;rw [Nat.zero_add,List.nil_append] at h1;refine ⟨h1.1,?_⟩;rcases h1.2 with h3 | ⟨g,c,cur,h3,h4,h5⟩
  ·exact .inl h3
  ·exact .inr ⟨g,c,cur,h3,Nat.le_trans hb h4,h5⟩
theorem copySession_all {base g0 cap:Nat} {a:Option Addr} {ty:TypeId} {xs:List Ss} {w:World} (h0:w.ownsRow base 150 7 (.slice (some ⟨g0,0,none⟩) 0 0) 0 []) (hx:SlIs ssL 7 w a xs) (hl:xs.length≤1048576) (hb:base≤w.heap.size) :
  ∃ v' w',(Builtin.append_ #[34,34] ty #[.slice (some ⟨g0,0,none⟩) 0 0,.slice a xs.length cap]).run Tryz.prog w=.ok v' w'∧w'.ownsRow base 150 7 v' xs.length (flatS ssL xs)∧Below w.heap.size w w':=by
 obtain ⟨i0,hi,hz0,hz1,hz2⟩:=info_parts Tryz.infoSs;by_cases hn:xs=[]
 ·subst hn;have hr:(Builtin.append_ #[34,34] ty #[.slice (some ⟨g0,0,none⟩) 0 0,.slice a 0 cap]).run Tryz.prog w=.ok (.slice (some ⟨g0,0,none⟩) 0 0) w:=by
   cases a with
   | none=>simp [Builtin.append_,run_underlying Tryz.underlying34,sizeOf,typeInfo,hi,Builtin.lenOf,Builtin.firstCells,storeCells]
   | some v =>
    have hr:=run_append_room_cells (P:=Tryz.prog) w 34 ty 150 i0 Tryz.underlying34 hi g0 0 0 0 v 0 cap [] (by simp) (fun j u hu=>by simp at hu) (fun u hu=>by simp at hu) (by omega) (fun j hj=>by simp at hj) (fun j hj=>by simp at hj);simpa [World.setCells] using hr
  exact ⟨_,_,hr,by simpa [flatS] using h0,Below.refl _ _⟩
 ·rcases hx with e | ⟨b,off,rfl,hbl,hx⟩
  ·exact absurd e hn
  have hpos:0 < xs.length:=List.length_pos_iff.2 hn;obtain ⟨v',w',hr,h1,h2⟩:=run_append_arg_grows (P:=Tryz.prog) w 34 ty 150 i0 _ 7 _ Tryz.underlying34 hi hz0 hz1 hz2 rfl (by decide) ⟨g0,0,none⟩ 0 0 [] (by simp) (fun j u hu=>by simp at hu) ⟨b,off,none⟩ xs.length cap (flatS ssL xs) (flatS_length ssL_length xs) (fun j u hu=>by
   rw [Addr.add_lit]; exact flatS_cells ssL_length (by omega) hx j u hu) (by omega) (by unfold maxLen; omega) (by omega)
  refine ⟨v',w',hr,?_,⟨h2.os,h2.tape,h2.output,h2.size,fun k hk=>h2.block k hk (by simp)⟩⟩;rw [Nat.zero_add,List.nil_append] at h1;refine ⟨h1.1,?_⟩;rcases h1.2 with h3 | ⟨g,c,cur,h3,h4,h5⟩
  ·exact .inl h3
  ·exact .inr ⟨g,c,cur,h3,Nat.le_trans hb h4,h5⟩
theorem rowDown {w:World} {base b0 n s:Nat} {e:TypeId} {v:Value} {xs:List Value} (h:w.ownsRow base e s v n xs) (hb:b0≤base):w.ownsRow b0 e s v n xs:=by
 refine ⟨h.1,?_⟩;rcases h.2 with h2 | ⟨g,cap,cur,h3,h4,h5⟩
 ·exact .inl h2
 ·exact .inr ⟨g,cap,cur,h3,Nat.le_trans hb h4,h5⟩
theorem spCopy_any (x:Bb) (ba bo:Option Addr) (ca cb:Nat) (w:World) (hbl1:x.binds.length≤1048576) (hbl2:x.sess.length≤1048576) (hx:BbIs w ba bo x) :
  Calls Tryz.prog 87 #[bbC ba bo ca cb x] w fun e w'=>CopyRet w.heap.size x e w'∧Below w.heap.size w w':=by
 have HZ:Hid (Below w.heap.size w ((w.alloc (.cells #[.slice ba x.binds.length ca,.slice bo x.sess.length cb] 36)).alloc (.cells #[.slice none 0 0,.slice none 0 0] 36))):=((Below.refl _ _).alloc (Nat.le_refl _) _).alloc (by simp) _;have HB:Hid (HoldsL ((w.alloc (.cells #[.slice ba x.binds.length ca,.slice bo x.sess.length cb] 36)).alloc (.cells #[.slice none 0 0,.slice none 0 0] 36)) w.heap.size [.slice ba x.binds.length ca,.slice bo x.sess.length cb]):=(HoldsL.new w [.slice ba x.binds.length ca,.slice bo x.sess.length cb] 36).alloc _;have HR:Hid (HoldsL ((w.alloc (.cells #[.slice ba x.binds.length ca,.slice bo x.sess.length cb] 36)).alloc (.cells #[.slice none 0 0,.slice none 0 0] 36)) (w.heap.size+1) [.slice none 0 0,.slice none 0 0]):=by
  have h:=HoldsL.new (w.alloc (.cells #[.slice ba x.binds.length ca,.slice bo x.sess.length cb] 36)) [.slice none 0 0,.slice none 0 0] 36;rw [World.size_alloc] at h; exact h
 have HSX:Hid (BbIs w ba bo x):=hx;clear hx;unfold bbC;go_enter Tryz.func87,Tryz.ntmps87
 go_upto_region 1 with fail
 have hB0':w.heap.size+1 < ((w.alloc (.cells #[.slice ba x.binds.length ca,.slice bo x.sess.length cb] 36)).alloc (.cells #[.slice none 0 0,.slice none 0 0] 36)).heap.size:=HR.out.lt (by simp);generalize (w.alloc (.cells #[.slice ba x.binds.length ca,.slice bo x.sess.length cb] 36)).alloc (.cells #[.slice none 0 0,.slice none 0 0] 36)=W0 at *;have hB0:w.heap.size+1 < W0.drew.heap.size:=by simpa using hB0'
 have hB1:w.heap.size≤W0.drew.heap.size:=by omega
 have HCP:Hid (∀ wy,Below W0.drew.heap.size W0.drew wy→HoldsL wy w.heap.size [.slice ba x.binds.length ca,.slice bo x.sess.length cb]∧HoldsL wy (w.heap.size+1) [.slice none 0 0,.slice none 0 0]∧Below w.heap.size w wy):=fun wy hy=>⟨HB.out.drew.kept (by simp) hy,HR.out.drew.kept (by simp) hy,HZ.out.drew.trans (hy.mono HZ.out.size)⟩
 refine wp_region_growV [3,4,5,6,7,8,9,10,11] (by kernel_rfl) (by kernel_rfl) ?_;refine GChV.rel (n:=0) (IsNo 5 W0.drew.heap.size 153) (stable_isNo _ _ _) [IsNo 5 W0.drew.heap.size 153] rfl rfl ?_ ?_
 ·intro K' a wy ho hd hb hK;rw [if_pos (wanted_none rfl)];clear hd ho;go_simp;exact hK _ _ ⟨wy.heap.size,rfl,World.ownsRow_made wy #[] 0 hb.size (by unfold maxLen; omega) rfl⟩ ((Below.refl _ _).alloc (Nat.le_refl _) _)
 apply GChV.v1
 ·rfl
 ·intro K' a wy ho hd hb hK kz;have o1:=ho 1 (by decide);simp [slot] at o1;clear hd ho;go_simp;try go_bits
  exact kz _ rfl
 apply GChV.v2
 ·rfl
 ·intro K' a wy ho hd hb hK kz;have q1:=hd ⟨1,.data⟩ (by simp) rfl;simp [rAt,IsV,slot] at q1;clear hd ho;have hld:=(HCP.out wy hb).1;obtain ⟨k0,k1⟩:=hld.c2;go_simp;try go_bits
  exact kz _ rfl
 refine GChV.rel (n:=3) (IsRw bdL 5 W0.drew.heap.size 153 x.binds) (stable_isRw _ _ _ _ _) [_,_,_,IsRw bdL 5 W0.drew.heap.size 153 x.binds] rfl rfl ?_ ?_
 ·intro K' a wy ho hd hb hK;rw [if_pos (wanted_none rfl)];obtain ⟨g0,e0,r0⟩ : IsNo 5 W0.drew.heap.size 153 (slot a 3) wy:=hd ⟨0,.data⟩ (by simp) rfl;rw [e0] at r0;simp [slot] at e0;have q2:=hd ⟨2,.data⟩ (by simp) rfl;simp [rAt,IsV,slot] at q2;clear hd ho;obtain ⟨v2,w2,hrun,h22,h23⟩:=copyBind_all (ty:=33) (cap:=ca) r0 ((HSX.out.bd.below (HCP.out wy hb).2.2)) hbl1 hb.size;refine wp_append_run (.tmp 3) (.tmp 5) _ rfl ?_ ?_ hrun (hK _ _ h22 h23)
  ·simpa [Act.eval] using e0
  ·simpa [Act.eval] using q2
 refine GChV.rel (n:=4) (IsNo 7 W0.drew.heap.size 150) (stable_isNo _ _ _) [_,_,_,_,IsNo 7 W0.drew.heap.size 150] rfl rfl ?_ ?_
 ·intro K' a wy ho hd hb hK;rw [if_pos (wanted_none rfl)];clear hd ho;go_simp;exact hK _ _ ⟨wy.heap.size,rfl,World.ownsRow_made wy #[] 0 hb.size (by unfold maxLen; omega) rfl⟩ ((Below.refl _ _).alloc (Nat.le_refl _) _)
 apply GChV.v5
 ·rfl
 ·intro K' a wy ho hd hb hK kz;have o1:=ho 1 (by decide);simp [slot] at o1;clear hd ho;go_simp;try go_bits
  exact kz _ rfl
 apply GChV.v6
 ·rfl
 ·intro K' a wy ho hd hb hK kz;have q5:=hd ⟨5,.data⟩ (by simp) rfl;simp [rAt,IsV,slot] at q5;clear hd ho;have hld:=(HCP.out wy hb).1;obtain ⟨k0,k1⟩:=hld.c2;go_simp;try go_bits
  exact kz _ rfl
 refine GChV.rel (n:=7) (IsRw ssL 7 W0.drew.heap.size 150 x.sess) (stable_isRw _ _ _ _ _) [_,_,_,_,_,_,_,IsRw ssL 7 W0.drew.heap.size 150 x.sess] rfl rfl ?_ ?_
 ·intro K' a wy ho hd hb hK;rw [if_pos (wanted_none rfl)];obtain ⟨g4,e4,r4⟩ : IsNo 7 W0.drew.heap.size 150 (slot a 7) wy:=hd ⟨4,.data⟩ (by simp) rfl;rw [e4] at r4;simp [slot] at e4;have q6:=hd ⟨6,.data⟩ (by simp) rfl;simp [rAt,IsV,slot] at q6;clear hd ho;obtain ⟨v2,w2,hrun,h22,h23⟩:=copySession_all (ty:=34) (cap:=cb) r4 ((HSX.out.ss.below (HCP.out wy hb).2.2)) hbl2 hb.size;refine wp_append_run (.tmp 7) (.tmp 9) _ rfl ?_ ?_ hrun (hK _ _ h22 h23)
  ·simpa [Act.eval] using e4
  ·simpa [Act.eval] using q6
 refine GChV.rel (n:=8) (IsCp W0.drew.heap.size x) (stable_isCp _ _) [_,_,_,_,_,_,_,_,IsCp W0.drew.heap.size x] rfl rfl ?_ ?_
 ·intro K' a wy ho hd hb hK;rw [if_pos (wanted_none rfl)];have r3:IsRw bdL 5 W0.drew.heap.size 153 x.binds (slot a 6) wy:=hd ⟨3,.data⟩ (by simp) rfl;obtain ⟨a3,c3,e3,-,-⟩:=(Row.shape bdL_length (w0:=wy) ⟨r3,Below.refl _ _⟩ : ∃ a' cap,slot a 6=.slice a' x.binds.length cap∧x.binds.length≤cap∧SlOwn bdL 5 W0.drew.heap.size wy a' x.binds);unfold IsRw at r3;rw [e3] at r3;simp [slot] at e3;have r7:IsRw ssL 7 W0.drew.heap.size 150 x.sess (slot a 10) wy:=hd ⟨7,.data⟩ (by simp) rfl;obtain ⟨a7,c7,e7,-,-⟩:=(Row.shape ssL_length (w0:=wy) ⟨r7,Below.refl _ _⟩ : ∃ a' cap,slot a 10=.slice a' x.sess.length cap∧x.sess.length≤cap∧SlOwn ssL 7 W0.drew.heap.size wy a' x.sess);unfold IsRw at r7;rw [e7] at r7;simp [slot] at e7;clear hd ho;go_simp;exact hK _ _ ⟨a3,a7,c3,c7,rfl,r3,r7⟩ (Below.refl _ _)
 intro X wz hR hz;obtain ⟨x0,x1,x2,x3,x4,x5,x6,x7,x8,-⟩:=hR;obtain ⟨g0,e0,-⟩:=x0;have hk3:=x3;clear hk3;obtain ⟨g4,e4,-⟩:=x4;have hk7:=x7;clear hk7;obtain ⟨oa,ob,oc,od,e8,o8,o9⟩:=x8;simp only [IsV] at x1 x2 x5 x6;simp only [putsFrom,e0,x1,x2,putsFrom,e4,x5,x6,putsFrom,e8];clear x1 x2 x5 x6;have hz0:=(HCP.out wz hz).2.1;have HBW:=(HCP.out wz hz).2.2;obtain ⟨z0,z1⟩:=hz0.c2;obtain ⟨f0,f1⟩:=hz0.f2;have HH6:Hid (HoldsL ((wz.setCell ⟨w.heap.size+1,0,none⟩ (.slice oa x.binds.length oc)).setCell ⟨w.heap.size+1,1,none⟩ (.slice ob x.sess.length od)) (w.heap.size+1) [.slice oa x.binds.length oc,.slice ob x.sess.length od]):=(hz0.set 0 _).set 1 _;have HO1:Hid (((wz.setCell ⟨w.heap.size+1,0,none⟩ (.slice oa x.binds.length oc)).setCell ⟨w.heap.size+1,1,none⟩ (.slice ob x.sess.length od)).ownsRow w.heap.size 153 5 (.slice oa x.binds.length oc) x.binds.length (flatS bdL x.binds)):=rowDown (ownC_cell (ownC_cell o8 (ownC_ne o8 hB0)) (ownC_ne o8 hB0)) hB1;have HO2:Hid (((wz.setCell ⟨w.heap.size+1,0,none⟩ (.slice oa x.binds.length oc)).setCell ⟨w.heap.size+1,1,none⟩ (.slice ob x.sess.length od)).ownsRow w.heap.size 150 7 (.slice ob x.sess.length od) x.sess.length (flatS ssL x.sess)):=rowDown (ownC_cell (ownC_cell o9 (ownC_ne o9 hB0)) (ownC_ne o9 hB0)) hB1;have HB6:Hid (Below w.heap.size w ((wz.setCell ⟨w.heap.size+1,0,none⟩ (.slice oa x.binds.length oc)).setCell ⟨w.heap.size+1,1,none⟩ (.slice ob x.sess.length od))):=(HBW.setCell (p:=⟨w.heap.size+1,0,none⟩) (Nat.le_succ _) _).setCell (p:=⟨w.heap.size+1,1,none⟩) (Nat.le_succ _) _;clear hz0 HBW o8 o9 hz;intro K5 hK5;go_simp;refine hK5 _ _ ?_;simp only [wpSeq];go_wp2_with fail
 exact bodyPost_ret (results_mid Tryz.results87 _ _ (w.heap.size+1) [.slice oa x.binds.length oc,.slice ob x.sess.length od] _ rfl HH6.out Tryz.underlying36 rfl (show (Tryz.prog.info? 36).map (·.size)=some 2 by kernel_rfl)) rfl ⟨⟨_,_,rfl,HO1.out,HO2.out⟩,HB6.out⟩
structure RowsO (w:World) (base O:Nat) (ks:List (Nat × List Value)) (bv sv:Value) (ys:List Bd) (zs:List Ss) (wx:World):Prop where
 o:HoldsL wx O [bv,sv]
 bo:wx.ownsRow base 153 5 bv ys.length (flatS bdL ys)
 so:wx.ownsRow base 150 7 sv zs.length (flatS ssL zs)
 ne:∀ g,bv.ownBlock=some g→sv.ownBlock=some g→False
 b:Below w.heap.size w wx
 k:∀ e∈ks,HoldsL wx e.1 e.2
 lo:w.heap.size≤O
 hi:bv.ownBlock≠some O∧sv.ownBlock≠some O
 wb:w.heap.size≤base
 hb:base≤wx.heap.size
 kb:∀ e∈ks,e.1 < base∧e.1≠O∧0 < e.2.length
section
variable {w:World} {base O:Nat} {ks:List (Nat × List Value)} {bv sv:Value} {ys:List Bd} {zs:List Ss} {wx wy:World}
theorem RowsO.at {a:Nat} {l:List Value} (h:RowsO w base O ks bv sv ys zs wx) (hm:(a,l)∈ks):HoldsL wx a l:=h.k _ hm
theorem RowsO.kept (h:RowsO w base O ks bv sv ys zs wx) (hB:Below wx.heap.size wx wy):RowsO w base O ks bv sv ys zs wy :=
 ⟨h.o.kept (by simp) hB,own_stable h.bo hB,own_stable h.so hB,h.ne,h.b.trans (hB.mono h.b.size),fun e he=>(h.k e he).kept (h.kb e he).2.2 hB,h.lo,h.hi,h.wb,Nat.le_trans h.hb hB.size,h.kb⟩
theorem RowsO.appS (h:RowsO w base O ks bv sv ys zs wx) (q:Ss) (g:Nat) (hg:HoldsL wx g (ssL q)) (hlen:zs.length≤1048576) :
  ∃ v6 w6,(Builtin.append_ #[34,34] 34 #[sv,.slice (some ⟨g,0,none⟩) 1 1]).run Tryz.prog wx=.ok v6 w6∧(∃ gg l c,v6=.slice (some ⟨gg,0,none⟩) l c)∧HoldsL w6 O [bv,sv]∧RowsO w base O ks bv v6 ys (zs++[q]) (w6.setCell ⟨O,1,none⟩ v6):=by
 obtain ⟨i0,hi,hz0,hz1,hz2⟩:=info_parts Tryz.infoSs;have hOl:O < wx.heap.size:=h.o.lt (by simp);have hwb:=h.wb;have hlo:=h.lo;have hbb:=h.hb;obtain ⟨v6,w6,hrun,h62,h63,h64,h65⟩:=run_append_own_at (P:=Tryz.prog) wx base 34 34 150 i0 _ 7 _ Tryz.underlying34 hi hz0 hz1 hz2 rfl (by decide) sv _ _ h.so ⟨g,0,none⟩ 1 1 (ssL q) rfl (fun i u hu=>by rw [add_at]; exact hg.cell hu) (ssL_one q) (by unfold maxLen; omega) (by omega) h.hb;have hnr:∀ X,X < base→some X≠sv.ownBlock:=fun X hX e=>ownC_ne h.so hX e.symm
 have n6:v6.ownBlock≠some O:=by
  rcases h65 with h7 | h7<;>rw [h7]
  ·exact h.hi.2
  ·intro e; injection e with e; omega
 have hO:=h.o.grown (by simp) h63 (fun e=>h.hi.2 e.symm);have hne:∀ g,bv.ownBlock=some g→v6.ownBlock=some g→False:=by
  intro g e1 e2;rcases h65 with h7 | h7
  ·exact h.ne g e1 (h7 ▸ e2)
  ·rw [h7] at e2;injection e2 with e3
   have:=(ownC_in h.bo e1).2;omega
 have hold:=World.ownsRow.kept h.bo h63 (by
  by_cases e:bv.ownBlock=none
  ·exact .inl e
  ·refine .inr (fun e2=>?_);obtain ⟨k,hk⟩:=Option.ne_none_iff_exists'.1 e;exact h.ne k hk (e2 ▸ hk))
 have hsz:base≤(w6.setCell ⟨O,1,none⟩ v6).heap.size:=by simp; exact Nat.le_trans h.hb h63.size
 refine ⟨v6,w6,hrun,?_,hO,hO.set 1 v6,ownC_cell hold h.hi.1,ownC_cell (by rw [flatS_snoc,List.length_append]; exact h62) n6,hne,(below_grow h.b h63 (fun k e=>by have:=(ownC_in h.so e).1; omega)).setCell (p:=⟨O,1,none⟩) hlo v6,fun e he=>((h.k e he).grown (h.kb e he).2.2 h63 (hnr _ (h.kb e he).1)).setOther (h.kb e he).2.1 v6,h.lo,⟨h.hi.1,n6⟩,h.wb,hsz,h.kb⟩;rcases h62.2 with ⟨_,h0⟩ | ⟨gg,c6,_,h6,_⟩
 ·simp at h0
 ·exact ⟨gg,_,c6,h6⟩
theorem RowsO.appB (h:RowsO w base O ks bv sv ys zs wx) (q:Bd) (g:Nat) (hg:HoldsL wx g (bdL q)) (hlen:ys.length≤1048576) :
  ∃ v6 w6,(Builtin.append_ #[33,33] 33 #[bv,.slice (some ⟨g,0,none⟩) 1 1]).run Tryz.prog wx=.ok v6 w6∧(∃ gg l c,v6=.slice (some ⟨gg,0,none⟩) l c)∧HoldsL w6 O [bv,sv]∧RowsO w base O ks v6 sv (ys++[q]) zs (w6.setCell ⟨O,0,none⟩ v6):=by
 obtain ⟨i0,hi,hz0,hz1,hz2⟩:=info_parts Tryz.infoBd;have hOl:O < wx.heap.size:=h.o.lt (by simp);have hwb:=h.wb;have hlo:=h.lo;have hbb:=h.hb;obtain ⟨v6,w6,hrun,h62,h63,h64,h65⟩:=run_append_own_at (P:=Tryz.prog) wx base 33 33 153 i0 _ 5 _ Tryz.underlying33 hi hz0 hz1 hz2 rfl (by decide) bv _ _ h.bo ⟨g,0,none⟩ 1 1 (bdL q) rfl (fun i u hu=>by rw [add_at]; exact hg.cell hu) (bdL_one q) (by unfold maxLen; omega) (by omega) h.hb;have hnr:∀ X,X < base→some X≠bv.ownBlock:=fun X hX e=>ownC_ne h.bo hX e.symm
 have n6:v6.ownBlock≠some O:=by
  rcases h65 with h7 | h7<;>rw [h7]
  ·exact h.hi.1
  ·intro e; injection e with e; omega
 have hO:=h.o.grown (by simp) h63 (fun e=>h.hi.1 e.symm);have hne:∀ g,v6.ownBlock=some g→sv.ownBlock=some g→False:=by
  intro g e1 e2;rcases h65 with h7 | h7
  ·exact h.ne g (h7 ▸ e1) e2
  ·rw [h7] at e1;injection e1 with e3
   have:=(ownC_in h.so e2).2;omega
 have hold:=World.ownsRow.kept h.so h63 (by
  by_cases e:sv.ownBlock=none
  ·exact .inl e
  ·refine .inr (fun e2=>?_);obtain ⟨k,hk⟩:=Option.ne_none_iff_exists'.1 e;exact h.ne k (e2 ▸ hk) hk)
 have hsz:base≤(w6.setCell ⟨O,0,none⟩ v6).heap.size:=by simp; exact Nat.le_trans h.hb h63.size
 refine ⟨v6,w6,hrun,?_,hO,hO.set 0 v6,ownC_cell (by rw [flatS_snoc,List.length_append]; exact h62) n6,ownC_cell hold h.hi.2,hne,(below_grow h.b h63 (fun k e=>by have:=(ownC_in h.bo e).1; omega)).setCell (p:=⟨O,0,none⟩) hlo v6,fun e he=>((h.k e he).grown (h.kb e he).2.2 h63 (hnr _ (h.kb e he).1)).setOther (h.kb e he).2.1 v6,h.lo,⟨n6,h.hi.2⟩,h.wb,hsz,h.kb⟩;rcases h62.2 with ⟨_,h0⟩ | ⟨gg,c6,_,h6,_⟩
 ·simp at h0
 ·exact ⟨gg,_,c6,h6⟩
theorem RowsO.shapes (h:RowsO w base O ks bv sv ys zs wx):(∃ a cap,bv=.slice a ys.length cap∧ys.length≤cap∧SlOwn bdL 5 base wx a ys)∧∃ a cap,sv=.slice a zs.length cap∧zs.length≤cap∧SlOwn ssL 7 base wx a zs :=
 ⟨Row.shape bdL_length (w0:=wx) ⟨h.bo,Below.refl _ _⟩,Row.shape ssL_length (w0:=wx) ⟨h.so,Below.refl _ _⟩⟩
end
end Go.Proofs.YthagnjokdnnmpaaGreat
namespace Go.Proofs.YthagnjokdnnmpaaGreat
open Go.RowKit
def key5 (s:Ss):Int × List UInt8 × Int × List UInt8 × Int:=(s.proto,s.inn.toList,s.inPort,s.peer.toList,s.peerPort)
def sessV (s:Ss):Bool:=decide (s.peer.size=4)&&isW s.peerPort&&isIn s.state 1 7&&(decide (s.proto=6)||decide (s.state=3))&&isIn s.untl 0 2000000000
structure BibR (p:Pl) (x:Bb):Prop where
 pool:poolOk p=true
 most:(x.sess.length:Int)≤p.most
 len:x.binds.length≤60
 bind:∀ i (h:i < x.binds.length),bindOne p (x.binds.take i) x.binds[i]=true
 sess:∀ s∈x.sess,sessV s=true
 has:∀ s∈x.sess,x.binds.any (ofIn s.proto s.inn s.inPort)=true
 nodup:(x.sess.map key5).Nodup
 all:∀ c∈x.binds,keyB c∈x.sess.map keyS
open Go.PlainAid
theorem slIn_clip {α:Type} {en:α→List Value} {n lo hi:Nat} {w:World} {a:Option Addr} {xs:List α} (h:SlIn en n lo hi w a xs):SlIn en n (min lo w.heap.size) (min hi w.heap.size) w a xs:=by
 rcases h with h | ⟨g,h1,h2,h3,h4⟩
 ·exact .inl h
 ·exact .inr ⟨g,h1,Nat.le_trans (Nat.min_le_left _ _) h2,Nat.lt_min.2 ⟨h3,h4.blk⟩,h4⟩
theorem GwO.clip {lo:Nat} {w:World} {A:Ga} {g:Gw} (h:GwO lo w A g) (hl:lo≤w.heap.size):∃ n1 n2 b0 b1 p0 p1,GwIn lo n1 n2 b0 b1 p0 p1 w A g∧b1≤w.heap.size∧p1≤w.heap.size:=by
 obtain ⟨n1,n2,b0,b1,p0,p1,h⟩:=h;have:=h.l1; have:=h.l2; have:=h.lb; have:=h.lp; have:=h.bl; have:=h.pl2; have:=h.d;have e:min lo w.heap.size=lo:=Nat.min_eq_left hl;have h1:=slIn_clip h.rt;rw [e] at h1;exact ⟨min n1 w.heap.size,min n2 w.heap.size,min b0 w.heap.size,min b1 w.heap.size,min p0 w.heap.size,min p1 w.heap.size,⟨h1,slIn_clip h.pl,⟨slIn_clip h.bb.bd,slIn_clip h.bb.ss,h.bb.ne⟩,slIn_clip h.ps,by omega,by omega,by omega,by omega,by omega,by omega,by omega,h.rc,h.pc⟩,Nat.min_le_right _ _,Nat.min_le_right _ _⟩
end Go.Proofs.YthagnjokdnnmpaaGreat
namespace Go.Proofs.YthagnjokdnnmpaaGreat
open Go.RowKit
theorem wpList_load_g {P:Program} {ops:Array Oper} {rest:List Oper} {op:Oper} {a:Act} {w:World} {Q:Exit→Act→World→Prop} (hw:Region.wanted op (yielded ops a.tmps)=true) (ty:TypeId) (x:Operand) (ho:op.op=.load ty x)
  (b o:Nat) (hx:a.eval x=.pointer (some ⟨b,o,none⟩)) (cs:List Value) (d:TypeDesc) (hc:w.rangeAt b o cs)
  (hu:P.underlying ty=some d) (hd:d.isRow=true) (hi:(P.info? ty).map (·.size)=some cs.length)
  (h:wpList P ops Q rest (a.put op.dst (.agg cs.toArray)) w):wpList P ops Q (op::rest) a w :=
 wpList_step fun K hK=>by rw [if_pos hw]; exact wp_load_mid ty x ho b o hx cs d hc hu hd hi (hK _ _ h)
end Go.Proofs.YthagnjokdnnmpaaGreat
