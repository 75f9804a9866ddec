import Derived.Test.YtdkepkaflielhaaGreatDoorSz
import Derived.Test.YtdkepkaflielhaaGreatDoorAb
import Derived.Test.YtdkepkaflielhaaGreatDoorRowsO
set_option linter.unusedVariables false
set_option linter.unusedSimpArgs false
set_option maxRecDepth 100000
set_option maxHeartbeats 8000000
namespace Go.Proofs.YtdkepkaflielhaaGreatDoor
open Go.RowKit Go.PlainAid
theorem flatS_set {α:Type} {en:α→List Value} {n:Nat} (hn:∀ x,(en x).length=n) (j:Nat) (hj:j < n) (v:Value):∀ (xs:List α) (i:Nat) (hi:i < xs.length) (y:α),en y=(en xs[i]).set j v→flatS en (xs.set i y)=(flatS en xs).set (i*n+j) v
 | [],i,hi,y,_=>by simp at hi
 | x::xs,0,hi,y,hy=>by
  simp only [List.getElem_cons_zero] at hy;simp only [List.set_cons_zero,flatS,Nat.zero_mul,Nat.zero_add,List.flatMap_cons];rw [hy,List.set_append_left _ _ (by rw [hn]; exact hj)]
 | x::xs,i+1,hi,y,hy=>by
  simp only [List.getElem_cons_succ] at hy;have ih:=flatS_set hn j hj v xs i (by simpa using hi) y hy;unfold flatS at ih ⊢;simp only [List.set_cons_succ,List.flatMap_cons];have hm:(i+1)*n=n+i*n:=by rw [Nat.succ_mul]; omega
  rw [ih,List.set_append_right _ _ (by rw [hn]; omega),hn];congr 2
  omega
theorem own_set {w:World} {base e s n g cap:Nat} {xs:List Value} (h:w.ownsRow base e s (.slice (some ⟨g,0,none⟩) n cap) n xs) (j:Nat) (hj:j < xs.length) (u:Value):(w.setCell ⟨g,j,none⟩ u).ownsRow base e s (.slice (some ⟨g,0,none⟩) n cap) n (xs.set j u):=by
 obtain ⟨h1,h2⟩:=h;refine ⟨by rw [List.length_set]; exact h1,?_⟩;rcases h2 with ⟨e1,_⟩ | ⟨g',cap',cur,e1,hb,hh,hnc,hcm,hcs,hcur⟩
 ·cases e1
 ·injection e1 with i1 i2 i3
  injection i1 with i1
  injection i1 with i1
  subst i1 i3;refine .inr ⟨g,cap,cur.setIfInBounds j u,rfl,hb,?_,hnc,hcm,by rw [Array.size_setIfInBounds]; exact hcs,?_⟩
  ·show (w.heap.modify g _)[g]?=_;rw [Array.getElem?_modify,if_pos rfl,hh];rfl
  ·rw [Array.toList_setIfInBounds,List.take_set,hcur]
theorem set_self {xs:List Value} {j:Nat} {v:Value} (h:xs[j]?=some v):xs.set j v=xs:=by
 obtain ⟨hj,rfl⟩:=List.getElem?_eq_some_iff.1 h;exact List.set_getElem_self hj
theorem own_free {w:World} {base e s n m g cap:Nat} {xs:List Value} (h:w.ownsRow base e s (.slice (some ⟨g,0,none⟩) n cap) m xs) (j:Nat):w.frozen? ⟨g,j,none⟩=false:=by
 rcases h.2 with ⟨e1,_⟩ | ⟨g',cap',cur,e1,hb,hh,_⟩
 ·cases e1
 ·injection e1 with i1 i2 i3
  injection i1 with i1
  injection i1 with i1
  subst i1;unfold World.frozen?;simp [hh]
theorem own_at {w:World} {base e n m g cap:Nat} {xs:List Ss} (h:w.ownsRow base e 7 (.slice (some ⟨g,0,none⟩) n cap) m (flatS ssL xs)) (hnm:n=m) (i:Nat) (hi:i < xs.length) (j:Nat) (v:Value) (hv:(ssL xs[i])[j]?=some v):w.cell? ⟨g,i*7+j,none⟩=some v:=by
 subst hnm;have hl:=flatS_length ssL_length xs;have hj:j < 7:=by have:=(List.getElem?_eq_some_iff.1 hv).1; rwa [ssL_length] at this
 have hn:=h.1;rw [hl] at hn;have hnl:n=xs.length:=by omega
 rw [World.ownsRow.cellAt h _ (by rw [hnl]; omega)];have hs:=flatS_set ssL_length j hj v xs i hi xs[i] (by rw [set_self hv]);rw [List.set_getElem_self] at hs;rw [hs,List.getElem?_set_self (by rw [hl]; omega)]
theorem RowsO.setS {w:World} {base O g cs n:Nat} {ks:List (Nat × List Value)} {bv:Value} {ys:List Bd} {zs:List Ss} {wx:World} (h:RowsO w base O ks bv (.slice (some ⟨g,0,none⟩) n cs) ys zs wx) (hnz:n=zs.length) (i:Nat) (hi:i < zs.length) (j:Nat) (hj:j < 7) (v:Value) (y:Ss) (hy:ssL y=(ssL zs[i]).set j v):RowsO w base O ks bv (.slice (some ⟨g,0,none⟩) n cs) ys (zs.set i y) (wx.setCell ⟨g,i*7+j,none⟩ v):=by
 subst hnz;have hO:O≠g:=fun e=>h.hi.2 (by rw [e]; rfl)
 have hg:=(ownC_in h.so (g:=g) rfl).1;have hbv:bv.ownBlock≠some g:=fun e=>h.ne g e rfl
 have hwb:=h.wb;refine ⟨h.o.setOther hO _,ownC_cell h.bo hbv,?_,h.ne,h.b.setCell (p:=⟨g,i*7+j,none⟩) (by show w.z≤g; omega) v,fun e he=>(h.k e he).setOther (by have:=(h.kb e he).1; omega) _,h.lo,h.hi,h.wb,by simpa using h.hb,h.kb⟩;rw [List.length_set,flatS_set ssL_length j hj v zs i hi y hy];exact own_set h.so _ (by rw [flatS_length ssL_length]; omega) v
theorem idx_some {α:Type} {f:α→Bool} {xs:List α} {i:Nat} (h:xs.findIdx? f=some i):∃ hi:i < xs.length,xs.find? f=some xs[i]:=by
 obtain ⟨hi,hf,hn⟩:=List.findIdx?_eq_some_iff_getElem.1 h;refine ⟨hi,find_at hi ?_ hf⟩;rw [List.find?_eq_none];intro y hy;obtain ⟨k,hk,rfl⟩:=List.getElem_of_mem hy;rw [List.length_take] at hk;rw [List.getElem_take];exact hn k (by omega)
theorem idx_none {α:Type} {f:α→Bool} {xs:List α} (h:xs.findIdx? f=none):xs.find? f=none:=by
 rw [List.find?_eq_none];intro y hy;have:=List.findIdx?_eq_none_iff.1 h y hy;simp [this]
end Go.Proofs.YtdkepkaflielhaaGreatDoor
