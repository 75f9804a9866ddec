import Derived.Test.YtjpdljkjalnmhaaHoldL
import Derived.Test.YtjpdljkjalnmhaaMerged4
import Derived.Test.YtjpdljkjalnmhaaSCopy9
set_option linter.unusedVariables false
set_option linter.unusedSimpArgs false
set_option maxRecDepth 100000
set_option maxHeartbeats 8000000
namespace Go.Proofs.Ytjpdljkjalnmhaa
open Go.RowKit
structure Bxs (w:World) (ks:List (Nat × List Value)) (wx:World):Prop where
 k:∀ e∈ks,HoldsL wx e.1 e.2
 b:Below w.heap.size w wx
 z:∀ e∈ks,0 < e.2.length
theorem Bxs.at {w wx:World} {ks:List (Nat × List Value)} {a:Nat} {l:List Value} (h:Bxs w ks wx) (hm:(a,l)∈ks):HoldsL wx a l:=h.k _ hm
theorem Bxs.kept {w wx wy:World} {ks:List (Nat × List Value)} (h:Bxs w ks wx) (hB:Below wx.heap.size wx wy):Bxs w ks wy:=⟨fun e he=>(h.k e he).kept (h.z e he) hB,h.b.trans (hB.mono h.b.size),h.z⟩
theorem Bxs.lts {w wx:World} {ks:List (Nat × List Value)} (h:Bxs w ks wx):∀ e∈ks,e.1 < wx.heap.size∧0 < e.2.length:=fun e he=>⟨(h.k e he).lt (h.z e he),h.z e he⟩
theorem Bxs.push {w wx:World} {ks:List (Nat × List Value)} (h:Bxs w ks wx) (vs:List Value) (hv:0 < vs.length) (T:TypeId):Bxs w ((wx.heap.size,vs)::ks) (wx.alloc (.cells vs.toArray T)):=by
 have hal:Below wx.heap.size wx (wx.alloc (.cells vs.toArray T)):=(Below.refl _ _).alloc (Nat.le_refl _) _;refine ⟨fun e he=>?_,h.b.trans (hal.mono h.b.size),fun e he=>?_⟩
 ·rcases List.mem_cons.1 he with rfl | he
  ·exact HoldsL.new wx vs T
  ·exact (h.k e he).kept (h.z e he) hal
 ·rcases List.mem_cons.1 he with rfl | he
  ·exact hv
  ·exact h.z e he
theorem Bxs.cons {w wx:World} {ks:List (Nat × List Value)} {g:Nat} {vs:List Value} (h:Bxs w ks wx) (hg:HoldsL wx g vs) (hv:0 < vs.length):Bxs w ((g,vs)::ks) wx:=⟨fun e he=>by
 rcases List.mem_cons.1 he with rfl | he
 ·exact hg
 ·exact h.k e he,h.b,fun e he=>by
 rcases List.mem_cons.1 he with rfl | he
 ·exact hv
 ·exact h.z e he⟩
open Go.PlainAid
structure RowsO (w:World) (base O:Nat) (ks:List (Nat × List Value)) (bv sv:Value) (ys:List Bd) (zs:List Ss) (wx:World):Prop where
 o:HoldsL wx O [bv,sv]
 bo:wx.ownsRow base 35 5 bv ys.length (flatS bdL ys)
 so:wx.ownsRow base 76 7 sv zs.length (flatS ssL zs)
 ne:∀ g,bv.ownBlock=some g→sv.ownBlock=some g→False
 b:Below w.heap.size w wx
 k:∀ e∈ks,HoldsL wx e.1 e.2
 lo:w.heap.size≤O
 hi:bv.ownBlock≠some O∧sv.ownBlock≠some O
 wb:w.heap.size≤base
 hb:base≤wx.heap.size
 kb:∀ e∈ks,e.1 < base∧e.1≠O∧0 < e.2.length
section
variable {w:World} {base O:Nat} {ks:List (Nat × List Value)} {bv sv:Value} {ys:List Bd} {zs:List Ss} {wx wy:World}
theorem RowsO.at {a:Nat} {l:List Value} (h:RowsO w base O ks bv sv ys zs wx) (hm:(a,l)∈ks):HoldsL wx a l:=h.k _ hm
theorem RowsO.kept (h:RowsO w base O ks bv sv ys zs wx) (hB:Below wx.heap.size wx wy):RowsO w base O ks bv sv ys zs wy :=
 ⟨h.o.kept (by simp) hB,own_stable h.bo hB,own_stable h.so hB,h.ne,h.b.trans (hB.mono h.b.size),fun e he=>(h.k e he).kept (h.kb e he).2.2 hB,h.lo,h.hi,h.wb,Nat.le_trans h.hb hB.size,h.kb⟩
theorem RowsO.make {w w5:World} {base:Nat} {ks:List (Nat × List Value)} {bv sv:Value} {x:Bb} (hwb:w.heap.size≤base) (hb:Below w.heap.size w w5) (h1:w5.ownsRow base 35 5 bv x.binds.length (flatS bdL x.binds)) (h2:w5.ownsRow base 76 7 sv x.sess.length (flatS ssL x.sess)) (hk:∀ e∈ks,HoldsL w5 e.1 e.2) (hkb:∀ e∈ks,e.1 < base∧0 < e.2.length) (hbs:base≤w5.heap.size) :
  RowsO w base w5.heap.size ks bv sv x.binds x.sess (w5.alloc (.cells #[bv,sv] 31)):=by
 have n1:bv.ownBlock≠some w5.heap.size:=fun e=>by have:=(ownC_in h1 e).2; omega
 have n2:sv.ownBlock≠some w5.heap.size:=fun e=>by have:=(ownC_in h2 e).2; omega
 have hal:Below w5.heap.size w5 (w5.alloc (.cells #[bv,sv] 31)):=(Below.refl _ _).alloc (Nat.le_refl _) _;have hlo:=Nat.le_trans hwb hbs;refine ⟨HoldsL.new w5 [bv,sv] 31,own_stable h1 hal,own_stable h2 hal,ownT_ne h1 h2 (by decide),hb.trans (hal.mono hlo),fun e he=>(hk e he).kept (hkb e he).2 hal,hlo,⟨n1,n2⟩,hwb,?_,fun e he=>⟨(hkb e he).1,?_,(hkb e he).2⟩⟩
 ·simp; omega
 ·have:=(hkb e he).1;omega
theorem RowsO.appS (h:RowsO w base O ks bv sv ys zs wx) (q:Ss) (g:Nat) (hg:HoldsL wx g (ssL q)) (hlen:zs.length≤1048576) :
  ∃ v6 w6,(Builtin.append_ #[29,29] 29 #[sv,.slice (some ⟨g,0,none⟩) 1 1]).run Try.prog wx=.ok v6 w6∧(∃ gg l c,v6=.slice (some ⟨gg,0,none⟩) l c)∧HoldsL w6 O [bv,sv]∧RowsO w base O ks bv v6 ys (zs++[q]) (w6.setCell ⟨O,1,none⟩ v6):=by
 obtain ⟨i0,hi,hz0,hz1,hz2⟩:=info_parts Try.infoSs;have hOl:O < wx.heap.size:=h.o.lt (by simp);have hwb:=h.wb;have hlo:=h.lo;have hbb:=h.hb;obtain ⟨v6,w6,hrun,h62,h63,h64,h65⟩:=run_append_own_at (P:=Try.prog) wx base 29 29 76 i0 _ 7 _ Try.underlying29 hi hz0 hz1 hz2 rfl (by decide) sv _ _ h.so ⟨g,0,none⟩ 1 1 (ssL q) rfl (fun i u hu=>by rw [add_at]; exact hg.cell hu) (ssL_one q) (by unfold maxLen; omega) (by omega) h.hb;have hnr:∀ X,X < base→some X≠sv.ownBlock:=fun X hX e=>ownC_ne h.so hX e.symm
 have n6:v6.ownBlock≠some O:=by
  rcases h65 with h7 | h7<;>rw [h7]
  ·exact h.hi.2
  ·intro e; injection e with e; omega
 have hO:=h.o.grown (by simp) h63 (fun e=>h.hi.2 e.symm);have hne:∀ g,bv.ownBlock=some g→v6.ownBlock=some g→False:=by
  intro g e1 e2;rcases h65 with h7 | h7
  ·exact h.ne g e1 (h7 ▸ e2)
  ·rw [h7] at e2;injection e2 with e3
   have:=(ownC_in h.bo e1).2;omega
 have hold:=World.ownsRow.kept h.bo h63 (by
  by_cases e:bv.ownBlock=none
  ·exact .inl e
  ·refine .inr (fun e2=>?_);obtain ⟨k,hk⟩:=Option.ne_none_iff_exists'.1 e;exact h.ne k hk (e2 ▸ hk))
 have hsz:base≤(w6.setCell ⟨O,1,none⟩ v6).heap.size:=by simp; exact Nat.le_trans h.hb h63.size
 refine ⟨v6,w6,hrun,?_,hO,hO.set 1 v6,ownC_cell hold h.hi.1,ownC_cell (by rw [flatS_snoc,List.length_append]; exact h62) n6,hne,(below_grow h.b h63 (fun k e=>by have:=(ownC_in h.so e).1; omega)).setCell (p:=⟨O,1,none⟩) hlo v6,fun e he=>((h.k e he).grown (h.kb e he).2.2 h63 (hnr _ (h.kb e he).1)).setOther (h.kb e he).2.1 v6,h.lo,⟨h.hi.1,n6⟩,h.wb,hsz,h.kb⟩;rcases h62.2 with ⟨_,h0⟩ | ⟨gg,c6,_,h6,_⟩
 ·simp at h0
 ·exact ⟨gg,_,c6,h6⟩
theorem RowsO.appB (h:RowsO w base O ks bv sv ys zs wx) (q:Bd) (g:Nat) (hg:HoldsL wx g (bdL q)) (hlen:ys.length≤1048576) :
  ∃ v6 w6,(Builtin.append_ #[28,28] 28 #[bv,.slice (some ⟨g,0,none⟩) 1 1]).run Try.prog wx=.ok v6 w6∧(∃ gg l c,v6=.slice (some ⟨gg,0,none⟩) l c)∧HoldsL w6 O [bv,sv]∧RowsO w base O ks v6 sv (ys++[q]) zs (w6.setCell ⟨O,0,none⟩ v6):=by
 obtain ⟨i0,hi,hz0,hz1,hz2⟩:=info_parts Try.infoBd;have hOl:O < wx.heap.size:=h.o.lt (by simp);have hwb:=h.wb;have hlo:=h.lo;have hbb:=h.hb;obtain ⟨v6,w6,hrun,h62,h63,h64,h65⟩:=run_append_own_at (P:=Try.prog) wx base 28 28 35 i0 _ 5 _ Try.underlying28 hi hz0 hz1 hz2 rfl (by decide) bv _ _ h.bo ⟨g,0,none⟩ 1 1 (bdL q) rfl (fun i u hu=>by rw [add_at]; exact hg.cell hu) (bdL_one q) (by unfold maxLen; omega) (by omega) h.hb;have hnr:∀ X,X < base→some X≠bv.ownBlock:=fun X hX e=>ownC_ne h.bo hX e.symm
 have n6:v6.ownBlock≠some O:=by
  rcases h65 with h7 | h7<;>rw [h7]
  ·exact h.hi.1
  ·intro e; injection e with e; omega
 have hO:=h.o.grown (by simp) h63 (fun e=>h.hi.1 e.symm);have hne:∀ g,v6.ownBlock=some g→sv.ownBlock=some g→False:=by
  intro g e1 e2;rcases h65 with h7 | h7
  ·exact h.ne g (h7 ▸ e1) e2
  ·rw [h7] at e1;injection e1 with e3
   have:=(ownC_in h.so e2).2;omega
 have hold:=World.ownsRow.kept h.so h63 (by
  by_cases e:sv.ownBlock=none
  ·exact .inl e
  ·refine .inr (fun e2=>?_);obtain ⟨k,hk⟩:=Option.ne_none_iff_exists'.1 e;exact h.ne k (e2 ▸ hk) hk)
 have hsz:base≤(w6.setCell ⟨O,0,none⟩ v6).heap.size:=by simp; exact Nat.le_trans h.hb h63.size
 refine ⟨v6,w6,hrun,?_,hO,hO.set 0 v6,ownC_cell (by rw [flatS_snoc,List.length_append]; exact h62) n6,ownC_cell hold h.hi.2,hne,(below_grow h.b h63 (fun k e=>by have:=(ownC_in h.bo e).1; omega)).setCell (p:=⟨O,0,none⟩) hlo v6,fun e he=>((h.k e he).grown (h.kb e he).2.2 h63 (hnr _ (h.kb e he).1)).setOther (h.kb e he).2.1 v6,h.lo,⟨n6,h.hi.2⟩,h.wb,hsz,h.kb⟩;rcases h62.2 with ⟨_,h0⟩ | ⟨gg,c6,_,h6,_⟩
 ·simp at h0
 ·exact ⟨gg,_,c6,h6⟩
theorem RowsO.shapes (h:RowsO w base O ks bv sv ys zs wx):(∃ a cap,bv=.slice a ys.length cap∧ys.length≤cap∧SlOwn bdL 5 base wx a ys)∧∃ a cap,sv=.slice a zs.length cap∧zs.length≤cap∧SlOwn ssL 7 base wx a zs :=
 ⟨Row.shape bdL_length (w0:=wx) ⟨h.bo,Below.refl _ _⟩,Row.shape ssL_length (w0:=wx) ⟨h.so,Below.refl _ _⟩⟩
end
theorem trackLife_in (l:Lv) (proto st:Int):0≤trackLifeV l proto st∧trackLifeV l proto st≤10000:=by
 unfold trackLifeV
 cases h:livesOk l with
 | false=>simp
 | true =>
  unfold livesOk isIn at h;simp only [Bool.and_eq_true,decide_eq_true_iff] at h;simp only [Bool.true_eq_false,if_false];(repeat' split)<;>omega
theorem flatS_set {α:Type} {en:α→List Value} {n:Nat} (hn:∀ x,(en x).length=n) (j:Nat) (hj:j < n) (v:Value):∀ (xs:List α) (i:Nat) (hi:i < xs.length) (y:α),en y=(en xs[i]).set j v→flatS en (xs.set i y)=(flatS en xs).set (i*n+j) v
 | [],i,hi,y,_=>by simp at hi
 | x::xs,0,hi,y,hy=>by
  simp only [List.getElem_cons_zero] at hy;simp only [List.set_cons_zero,flatS,Nat.zero_mul,Nat.zero_add,List.flatMap_cons];rw [hy,List.set_append_left _ _ (by rw [hn]; exact hj)]
 | x::xs,i+1,hi,y,hy=>by
  simp only [List.getElem_cons_succ] at hy;have ih:=flatS_set hn j hj v xs i (by simpa using hi) y hy;unfold flatS at ih ⊢;simp only [List.set_cons_succ,List.flatMap_cons];have hm:(i+1)*n=n+i*n:=by rw [Nat.succ_mul]; omega
  rw [ih,List.set_append_right _ _ (by rw [hn]; omega),hn];congr 2
  omega
theorem own_set {w:World} {base e s n g cap:Nat} {xs:List Value} (h:w.ownsRow base e s (.slice (some ⟨g,0,none⟩) n cap) n xs) (j:Nat) (hj:j < xs.length) (u:Value):(w.setCell ⟨g,j,none⟩ u).ownsRow base e s (.slice (some ⟨g,0,none⟩) n cap) n (xs.set j u):=by
 obtain ⟨h1,h2⟩:=h;refine ⟨by rw [List.length_set]; exact h1,?_⟩;rcases h2 with ⟨e1,_⟩ | ⟨g',cap',cur,e1,hb,hh,hnc,hcm,hcs,hcur⟩
 ·cases e1
 ·injection e1 with i1 i2 i3
  injection i1 with i1
  injection i1 with i1
  subst i1 i3;refine .inr ⟨g,cap,cur.setIfInBounds j u,rfl,hb,?_,hnc,hcm,by rw [Array.size_setIfInBounds]; exact hcs,?_⟩
  ·show (w.heap.modify g _)[g]?=_;rw [Array.getElem?_modify,if_pos rfl,hh];rfl
  ·rw [Array.toList_setIfInBounds,List.take_set,hcur]
theorem set_self {xs:List Value} {j:Nat} {v:Value} (h:xs[j]?=some v):xs.set j v=xs:=by
 obtain ⟨hj,rfl⟩:=List.getElem?_eq_some_iff.1 h;exact List.set_getElem_self hj
theorem own_free {w:World} {base e s n m g cap:Nat} {xs:List Value} (h:w.ownsRow base e s (.slice (some ⟨g,0,none⟩) n cap) m xs) (j:Nat):w.frozen? ⟨g,j,none⟩=false:=by
 rcases h.2 with ⟨e1,_⟩ | ⟨g',cap',cur,e1,hb,hh,_⟩
 ·cases e1
 ·injection e1 with i1 i2 i3
  injection i1 with i1
  injection i1 with i1
  subst i1;unfold World.frozen?;simp [hh]
theorem own_at {w:World} {base e n m g cap:Nat} {xs:List Ss} (h:w.ownsRow base e 7 (.slice (some ⟨g,0,none⟩) n cap) m (flatS ssL xs)) (hnm:n=m) (i:Nat) (hi:i < xs.length) (j:Nat) (v:Value) (hv:(ssL xs[i])[j]?=some v):w.cell? ⟨g,i*7+j,none⟩=some v:=by
 subst hnm;have hl:=flatS_length ssL_length xs;have hj:j < 7:=by have:=(List.getElem?_eq_some_iff.1 hv).1; rwa [ssL_length] at this
 have hn:=h.1;rw [hl] at hn;have hnl:n=xs.length:=by omega
 rw [World.ownsRow.cellAt h _ (by rw [hnl]; omega)];have hs:=flatS_set ssL_length j hj v xs i hi xs[i] (by rw [set_self hv]);rw [List.set_getElem_self] at hs;rw [hs,List.getElem?_set_self (by rw [hl]; omega)]
theorem RowsO.setS {w:World} {base O g cs n:Nat} {ks:List (Nat × List Value)} {bv:Value} {ys:List Bd} {zs:List Ss} {wx:World} (h:RowsO w base O ks bv (.slice (some ⟨g,0,none⟩) n cs) ys zs wx) (hnz:n=zs.length) (i:Nat) (hi:i < zs.length) (j:Nat) (hj:j < 7) (v:Value) (y:Ss) (hy:ssL y=(ssL zs[i]).set j v):RowsO w base O ks bv (.slice (some ⟨g,0,none⟩) n cs) ys (zs.set i y) (wx.setCell ⟨g,i*7+j,none⟩ v):=by
 subst hnz;have hO:O≠g:=fun e=>h.hi.2 (by rw [e]; rfl)
 have hg:=(ownC_in h.so (g:=g) rfl).1;have hbv:bv.ownBlock≠some g:=fun e=>h.ne g e rfl
 have hwb:=h.wb;refine ⟨h.o.setOther hO _,ownC_cell h.bo hbv,?_,h.ne,h.b.setCell (p:=⟨g,i*7+j,none⟩) (by show w.heap.size≤g; omega) v,fun e he=>(h.k e he).setOther (by have:=(h.kb e he).1; omega) _,h.lo,h.hi,h.wb,by simpa using h.hb,h.kb⟩;rw [List.length_set,flatS_set ssL_length j hj v zs i hi y hy];exact own_set h.so _ (by rw [flatS_length ssL_length]; omega) v
theorem idx_some {α:Type} {f:α→Bool} {xs:List α} {i:Nat} (h:xs.findIdx? f=some i):∃ hi:i < xs.length,xs.find? f=some xs[i]:=by
 obtain ⟨hi,hf,hn⟩:=List.findIdx?_eq_some_iff_getElem.1 h;refine ⟨hi,find_at hi ?_ hf⟩;rw [List.find?_eq_none];intro y hy;obtain ⟨k,hk,rfl⟩:=List.getElem_of_mem hy;rw [List.length_take] at hk;rw [List.getElem_take];exact hn k (by omega)
theorem idx_none {α:Type} {f:α→Bool} {xs:List α} (h:xs.findIdx? f=none):xs.find? f=none:=by
 rw [List.find?_eq_none];intro y hy;have:=List.findIdx?_eq_none_iff.1 h y hy;simp [this]
end Go.Proofs.Ytjpdljkjalnmhaa
