import Derived.Test.YthagnjokdnnmpaaGreatMerged24
import Derived.Test.YthagnjokdnnmpaaGreatMerged11
import Derived.Maps.OwnOps
import Derived.Deep.DeepCutAuto
import Derived.Test.YthagnjokdnnmpaaGreatMerged7
set_option linter.unusedVariables false
set_option linter.unusedSimpArgs false
set_option maxRecDepth 100000
set_option maxHeartbeats 8000000
namespace Go.Proofs.YthagnjokdnnmpaaGreat
open Go.RowKit Go.PlainAid
theorem wp_lookup_run {P:Program} {o:Oper} {a:Act} {w:World} {v1 v2 v':Value} {K:Act→World→Prop} {Q:Exit→Act→World→Prop} (t:TypeId) (x ix:Operand) (ok:Bool) (hop:o.op=Op.lookup t x ix ok)
  (hs:a.eval x=v1) (hx:a.eval ix=v2) (hrun:(Instr.lookup t v1 v2 ok).run P w=.ok v' w) (hK:K (a.put o.dst v') w):Oper.wp P o a w K Q:=by
 unfold Oper.wp;simp [execOp,hop,hs,hx,hrun,Result.andThen];exact hK
theorem wpList_lookup_run {P:Program} {ops:Array Oper} {rest:List Oper} {o:Oper} {a:Act} {w:World} {v1 v2 v':Value} {Q:Exit→Act→World→Prop} (hg:o.guard=none) (t:TypeId) (x ix:Operand) (ok:Bool) (hop:o.op=Op.lookup t x ix ok)
  (hs:a.eval x=v1) (hx:a.eval ix=v2) (hrun:(Instr.lookup t v1 v2 ok).run P w=.ok v' w) (hK:wpList P ops Q rest (a.put o.dst v') w):wpList P ops Q (o::rest) a w :=
 wpList_plain hg fun K hK'=>wp_lookup_run t x ix ok hop hs hx hrun (hK' _ _ hK)
theorem wp_update_run {P:Program} {o:Oper} {a:Act} {w w':World} {v1 v2 v3:Value} {K:Act→World→Prop} {Q:Exit→Act→World→Prop} (t:TypeId) (m x y:Operand) (hop:o.op=Op.mapUpdate t m x y)
  (hm:a.eval m=v1) (hx:a.eval x=v2) (hy:a.eval y=v3) (hrun:(Instr.mapUpdate t v1 v2 v3).run P w=.ok () w') (hK:K (a.put o.dst undef) w'):Oper.wp P o a w K Q:=by
 unfold Oper.wp;simp [execOp,hop,hm,hx,hy,hrun,Result.andThen];exact hK
structure Frm (b base:Nat) (e:TypeId) (w w':World):Prop where
 os:w'.os=w.os
 tape:w'.tape=w.tape
 output:w'.output=w.output
 size:w.heap.size≤w'.heap.size
 block:∀ k,k < w.heap.size→k≠b→(base≤k→∀ cs,w.heap[k]?≠some (.cells cs e (0,0)))→w'.heap[k]?=w.heap[k]?
section
variable {b base:Nat} {e:TypeId} {w w1 w2:World}
theorem Frm.refl (b base:Nat) (e:TypeId) (w:World):Frm b base e w w:=⟨rfl,rfl,rfl,Nat.le_refl _,fun _ _ _ _=>rfl⟩
theorem Frm.of_below (h:Below w.heap.size w w1):Frm b base e w w1:=⟨h.os,h.tape,h.output,h.size,fun k hk _ _=>h.block k hk⟩
theorem Frm.trans (h:Frm b base e w w1) (h2:Frm b base e w1 w2):Frm b base e w w2 :=
 ⟨h2.os.trans h.os,h2.tape.trans h.tape,h2.output.trans h.output,Nat.le_trans h.size h2.size,fun k hk hb hc=>by
  have h1:=h.block k hk hb hc;rw [h2.block k (Nat.lt_of_lt_of_le hk h.size) hb (fun hk2 cs=>by rw [h1]; exact hc hk2 cs),h1]⟩
theorem Frm.below (h:Frm b base e w w1) (hb:b < base) {m:Nat} (hm:m≤b) (hs:m≤w.heap.size):Below m w w1 :=
 ⟨h.os,h.tape,h.output,h.size,fun k hk=>h.block k (by omega) (by omega) (fun hk2=>by omega)⟩
end
structure GrpOf (base:Nat) (w:World) (b:Nat) (xs:List Pc) (M:Value→Option Value) (V:Pc→Value):Prop where
 map:MapAt Tryz.prog 199 w b M
 lo:b < base
 there:∀ q,grpPc xs q≠[]→M (keyC q)=some (.agg #[V q])∧w.ownsRow base 128 8 (V q) (grpPc xs q).length (flatS pcL (grpPc xs q))
 no:∀ q,grpPc xs q=[]→M (keyC q)=none
 apart:∀ q q',grpPc xs q≠[]→grpPc xs q'≠[]→onePk q q'=false→(V q).ownBlock≠(V q').ownBlock
def GrpAt (base:Nat) (w:World) (b:Nat) (xs:List Pc):Prop:=∃ M V,GrpOf base w b xs M V
def thereV (xs:List Pc) (V:Pc→Value) (p:Pc):Value:=if grpPc xs p=[] then .slice none 0 0 else V p
section
variable {base b:Nat} {w W:World} {xs:List Pc} {M:Value→Option Value} {V:Pc→Value} {p:Pc}
theorem GrpOf.own (h:GrpOf base w b xs M V) (p:Pc):w.ownsRow base 128 8 (thereV xs V p) (grpPc xs p).length (flatS pcL (grpPc xs p)):=by
 unfold thereV;by_cases hg:grpPc xs p=[]
 ·rw [if_pos hg,hg]; exact World.ownsRow_nil _ _ _ _
 ·rw [if_neg hg]; exact (h.there p hg).2
theorem GrpOf.kept (h:GrpOf base w b xs M V) (hB:Below w.heap.size w W):GrpOf base W b xs M V :=
 ⟨h.map.below hB,h.lo,fun q hq=>⟨(h.there q hq).1,own_stable (h.there q hq).2 hB⟩,h.no,h.apart⟩
theorem GrpAt.kept (h:GrpAt base w b xs) (hB:Below w.heap.size w W):GrpAt base W b xs:=by
 obtain ⟨M,V,h⟩:=h;exact ⟨M,V,h.kept hB⟩
theorem GrpAt.made (w:World) {base:Nat} (h:w.heap.size < base):GrpAt base (w.alloc (.map #[] 0)) w.heap.size [] :=
 ⟨fun _=>none,fun _=>.slice none 0 0,MapAt.made w,h,fun q hq=>by simp [grpPc] at hq,fun q _=>rfl,fun q q' hq=>by simp [grpPc] at hq⟩
theorem zero_pps (w:World):(zeroValue 202).run Tryz.prog w=.ok (.agg #[.slice none 0 0]) w:=by kernel_rfl
theorem GrpOf.look (h:GrpOf base w b xs M V) (hk:KeyIn p):(Instr.lookup 137 (.map (some b)) (keyC p) false).run Tryz.prog w=.ok (.agg #[thereV xs V p]) w∧(Instr.lookup 137 (.map (some b)) (keyC p) true).run Tryz.prog w=.ok (.tuple #[.agg #[thereV xs V p],.bool (!decide (grpPc xs p=[]))]) w:=by
 obtain ⟨l,hl⟩:=keyOf_pk p hk;have h1:=h.map.look (t:=137) keyed_pk Tryz.underlying137 hl (zero_pps w);unfold thereV;by_cases hg:grpPc xs p=[]
 ·rw [h.no p hg] at h1;rw [if_pos hg,decide_eq_true hg]; exact h1
 ·rw [(h.there p hg).1] at h1;rw [if_neg hg,decide_eq_false hg]; exact h1
theorem own_some {w:World} {base:Nat} {e:TypeId} {v:Value} {ys:List Pc} (h:w.ownsRow base e 8 v ys.length (flatS pcL ys)) (hy:ys≠[]):∃ g,v.ownBlock=some g:=by
 rcases h.2 with ⟨_,h2⟩ | ⟨g,cap,cur,h1,_⟩
 ·exact absurd (List.length_eq_zero_iff.1 h2) hy
 ·exact ⟨g,by rw [h1]; rfl⟩
structure GrpMid (base:Nat) (w0:World) (b:Nat) (xs:List Pc) (M:Value→Option Value) (V:Pc→Value) (p:Pc) (v5:Value) (w:World):Prop where
 map:MapAt Tryz.prog 199 w b M
 lo:b < base
 new:w.ownsRow base 128 8 v5 ((grpPc xs p).length+1) (flatS pcL (grpPc xs p)++pcL p)
 there:∀ q,grpPc xs q≠[]→onePk p q=false→M (keyC q)=some (.agg #[V q])∧w.ownsRow base 128 8 (V q) (grpPc xs q).length (flatS pcL (grpPc xs q))∧v5.ownBlock≠(V q).ownBlock
 no:∀ q,grpPc xs q=[]→M (keyC q)=none
 apart:∀ q q',grpPc xs q≠[]→grpPc xs q'≠[]→onePk q q'=false→(V q).ownBlock≠(V q').ownBlock
 frm:Frm b base 128 w0 w
theorem GrpMid.kept {w0:World} {v5:Value} (h:GrpMid base w0 b xs M V p v5 w) (hB:Below w.heap.size w W):GrpMid base w0 b xs M V p v5 W :=
 ⟨h.map.below hB,h.lo,own_stable h.new hB,fun q hq ho=>⟨(h.there q hq ho).1,own_stable (h.there q hq ho).2.1 hB,(h.there q hq ho).2.2⟩,h.no,h.apart,h.frm.trans (Frm.of_below hB)⟩
theorem there_row (h:GrpOf base w b xs M V) (p:Pc):∀ g,(thereV xs V p).ownBlock=some g→base≤g∧g < w.heap.size:=fun g hg=>(h.own p).lt g hg
theorem GrpOf.app {w0:World} (h:GrpOf base w b xs M V) (hf:Frm b base 128 w0 w) (hl:xs.length≤1048576) (hbase:base≤w.heap.size) (g4:Nat) (hnews:∀ j u,(pcL p)[j]?=some u→w.cell? ((⟨g4,0,none⟩ : Addr).add j)=some u) (ty:TypeId) (hold:∀ g,(thereV xs V p).ownBlock=some g→g < w0.heap.size) :
  ∃ v5 w5,(Builtin.append_ #[37,37] ty #[thereV xs V p,.slice (some ⟨g4,0,none⟩) 1 1]).run Tryz.prog w=.ok v5 w5∧GrpMid base w0 b xs M V p v5 w5∧w.grownBy w5 (thereV xs V p).ownBlock:=by
 obtain ⟨i0,hi,hz0,hz1,hz2⟩:=info_parts Tryz.infoPt;have hown:=h.own p;have hgl:=grp_len xs p;obtain ⟨v5,w5,hrun,h52,h53,h54,h55⟩:=run_append_own_at (P:=Tryz.prog) w base 37 ty 128 i0 _ 8 88 Tryz.underlying37 hi hz0 hz1 hz2 rfl (by decide) (thereV xs V p) (grpPc xs p).length (flatS pcL (grpPc xs p)) hown ⟨g4,0,none⟩ 1 1 (pcL p) rfl hnews (pcL_one p) (by unfold maxLen; omega) (by omega) hbase;have hrow:some b≠(thereV xs V p).ownBlock:=fun e=>by have:=(hown.lt b e.symm).1; have:=h.lo; omega
 have h5b:(thereV xs V p).ownBlock=none∨(thereV xs V p).ownBlock=(V p).ownBlock∧grpPc xs p≠[]:=by
  unfold thereV;by_cases hg:grpPc xs p=[]
  ·rw [if_pos hg]; exact .inl rfl
  ·rw [if_neg hg]; exact .inr ⟨rfl,hg⟩
 have hne:∀ q,grpPc xs q≠[]→onePk p q=false→(V q).ownBlock≠(thereV xs V p).ownBlock:=fun q hq ho=>by
  obtain ⟨g,hg⟩:=own_some (h.there q hq).2 hq;rcases h5b with h0 | ⟨h0,h1⟩
  ·rw [h0,hg]; simp
  ·rw [h0]; exact fun e=>h.apart p q h1 hq ho e.symm
 refine ⟨v5,w5,hrun,⟨h.map.grown h53 hrow,h.lo,h52,fun q hq ho=>⟨(h.there q hq).1,(h.there q hq).2.kept h53 (.inr (hne q hq ho)),?_⟩,h.no,h.apart,?_⟩,h53⟩
 ·rcases h55 with h0 | h0
  ·rw [h0]; exact fun e=>hne q hq ho e.symm
  ·rw [h0]; exact fun e=>by have:=((h.there q hq).2.lt _ e.symm).2; omega
 ·refine hf.trans ⟨h53.os,h53.tape,h53.output,h53.size,fun k hk hkb hc=>h53.block k hk (fun e=>?_)⟩;rcases hown.2 with ⟨h1,_⟩ | ⟨g,cap,cur,h1,h2,h3,_⟩
  ·rw [h1] at e; simp [Value.ownBlock] at e
  ·rw [h1] at e;simp [Value.ownBlock] at e;subst e;exact hc h2 cur h3
theorem GrpMid.put {w0:World} {v5:Value} (h:GrpMid base w0 b xs M V p v5 w) (hk:KeyIn p) :
  ∃ w6,(Instr.mapUpdate 137 (.map (some b)) (keyC p) (.agg #[v5])).run Tryz.prog w=.ok () w6∧GrpAt base w6 b (xs++[p])∧Frm b base 128 w0 w6:=by
 obtain ⟨l,hkl⟩:=keyOf_pk p hk;obtain ⟨w6,M',hup,hM',hx,hoth,hg6,hs6⟩:=h.map.put (v:=.agg #[v5]) keyed_pk Tryz.underlying137 hkl;have hb5:∀ q,grpPc xs q≠[]→onePk p q=false→(V q).ownBlock≠some b:=fun q hq ho e=>by have:=((h.there q hq ho).2.1.lt b e).1; have:=h.lo; omega
 have h5r:v5.ownBlock≠some b:=fun e=>by have:=(h.new.lt b e).1; have:=h.lo; omega
 refine ⟨w6,hup,⟨M',fun q=>if onePk p q=true then v5 else V q,hM',h.lo,fun q hq=>?_,fun q hq=>?_,fun q q' hq hq' ho=>?_⟩,?_⟩
 ·rw [grp_snoc] at hq ⊢;by_cases ho:onePk p q=true
  ·rw [if_pos ho,if_pos ho,← keyC_eq.2 ho,← grp_same ho];refine ⟨hx,?_⟩;rw [flatS_snoc,List.length_append];exact h.new.kept hg6 (.inr h5r)
  ·rw [if_neg ho] at hq;rw [if_neg ho,if_neg ho];have ho':onePk p q=false:=by simpa using ho
   rw [hoth (keyC q) (fun e=>ho (keyC_eq.1 e.symm))];exact ⟨(h.there q hq ho').1,(h.there q hq ho').2.1.kept hg6 (.inr (hb5 q hq ho'))⟩
 ·rw [grp_snoc] at hq;by_cases ho:onePk p q=true
  ·rw [if_pos ho] at hq; simp at hq
  ·rw [if_neg ho] at hq;rw [hoth (keyC q) (fun e=>ho (keyC_eq.1 e.symm))];exact h.no q hq
 ·rw [grp_snoc] at hq hq';by_cases h1:onePk p q=true
  ·have h2:¬ onePk p q'=true:=fun h2=>by
    have:=onePk_trans ((onePk_comm q p).trans h1) h2;rw [ho] at this; simp at this
   rw [if_neg h2] at hq';rw [if_pos h1,if_neg h2];exact (h.there q' hq' (by simpa using h2)).2.2
  ·rw [if_neg h1] at hq;rw [if_neg h1];by_cases h2:onePk p q'=true
   ·rw [if_pos h2];exact fun e=>(h.there q hq (by simpa using h1)).2.2 e.symm
   ·rw [if_neg h2] at hq';rw [if_neg h2];exact h.apart q q' hq hq' ho
 ·exact h.frm.trans ⟨hg6.os,hg6.tape,hg6.output,hg6.size,fun k hk hkb hc=>hg6.block k hk (by simpa using hkb)⟩
end
end Go.Proofs.YthagnjokdnnmpaaGreat
namespace Go.Proofs.YthagnjokdnnmpaaGreat
open Go.RowKit
section
variable {P:Program} {ops:Array Oper} {Q:Exit→Act→World→Prop} {ds:List Tmp} {R:Nat→Value→World→Prop} {a0:Act} {w0:World} {last:Oper} {E:Nat→World→World→Prop} {I:Bool→World→Prop} {c:Nat}
structure YInv (E:Nat→World→World→Prop) (I:Bool→World→Prop) (c:Nat) (ops:Array Oper) (ds:List Tmp) (R:Nat→Value→World→Prop) (a0:Act) (w0:World) (listed:Array Bool) (a:Act) (w:World):Prop where
 size:listed.size=ops.size
 tsize:a.tmps.size=a0.tmps.size
 defers:a.defers=a0.defers
 outer:∀ t,t ∉ ds→slot a t=slot a0 t
 inner:∀ i,listed.getD i false=true→R i (slot a (ds.getD i 0)) w
 inv:I (listed.getD c false) w
def YStep (E:Nat→World→World→Prop) (I:Bool→World→Prop) (c:Nat) (P:Program) (Q:Exit→Act→World→Prop) (ds:List Tmp) (R:Nat→Value→World→Prop) (a0:Act) (i:Nat) (o:Oper):Prop :=
 ∀ (K':Act→World→Prop) (a:Act) (w:World),(∀ t,t ∉ ds→slot a t=slot a0 t)→(∀ e∈o.after,Region.binds .any e=true→R e.on (slot a (ds.getD e.on 0)) w) →
  ∀ bb,(i=c→bb=false)→I bb w→(∀ v w',R i v w'→E i w w'→I (bb||i==c) w'→K' (a.put o.dst v) w')→Oper.wp P o a w K' Q
theorem wpAny_growYU (hc:c < ds.length) (hF:GFormU ops ds a0.tmps.size last) (hst:∀ i j v w w',i≠j→(∀ o,ops[j]?=some o→∀ e∈o.after,Region.binds .any e=true→e.on≠i)→R j v w→E i w w'→R j v w')
  (hstep:∀ i o,i < ds.length→ops[i]?=some o→YStep E I c P Q ds R a0 i o)
  (hlast:∀ (K':Act→World→Prop) a w,a.tmps.size=a0.tmps.size→a.defers=a0.defers→(∀ t,t ∉ ds→slot a t=slot a0 t)→(∀ i,i < ds.length→R i (slot a (ds.getD i 0)) w)→I true w→(∀ a' w',Q .normal a' w'→K' a' w')→Oper.wp P last a w K' Q) :
  ∀ (fuel:Nat) (listed:Array Bool) (a:Act) (w:World),unl listed ops.size≤fuel→YInv E I c ops ds R a0 w0 listed a w→listed.getD ds.length true=false→(∀ i o,ops[i]?=some o→listed.getD i false=true→∀ e∈o.after,Region.binds .any e=true→listed.getD e.on false=true)→wpAny P .any ops Q fuel listed a w:=by
 have hne:∀ (listed:Array Bool),listed.size=ops.size→listed.getD ds.length true=false→Region.ready .any ops listed=[]→False:=by
  intro listed hsz hl hr;have key:∀ i,i < ds.length→listed.getD i false=true:=by
   intro i;induction i using Nat.strongRecOn with
   | ind i ih =>
    intro hi;have hio:i < ops.size:=by rw [hF.len]; omega
    by_cases hh:listed.getD i true=true
    ·have hlt:i < listed.size:=by omega
     simpa [hlt] using hh
    ·exfalso
     have hmem:i∈Region.ready .any ops listed:=by
      rw [mem_ready];refine ⟨by simpa using hh,ops[i],by simp [hio],fun e he hb=>?_⟩;have hlt:=hF.topo i ops[i] hi (by simp [hio]) e he hb;exact ih _ hlt (by omega)
     rw [hr] at hmem;simp at hmem
  have hmem:ds.length∈Region.ready .any ops listed:=by
   rw [mem_ready];exact ⟨hl,last,hF.isLast,fun e he hb=>key _ (hF.ledge e he hb)⟩
  rw [hr] at hmem;simp at hmem
 intro fuel;induction fuel with
 | zero =>
  intro listed a w hu hI hl hcl;exfalso
  have:=unl_zero (listed:=listed) ops.size (by omega) ds.length (by rw [hF.len]; omega);rw [hl] at this;simp at this
 | succ fuel ih =>
  intro listed a w hu hI hl hcl;refine ⟨fun hr=>(hne listed hI.size hl hr).elim,fun i hi=>?_⟩;rw [mem_ready] at hi;obtain ⟨h0,o,ho,hdeps⟩:=hi;have hi:i < ops.size:=(Array.getElem?_eq_some_iff.1 ho).1;by_cases hil:i < ds.length
  ·obtain ⟨hd,hg⟩:=hF.dst i o hil ho;have hmem:ds.getD i 0∈ds:=by rw [getD_at hil]; exact List.getElem_mem hil
   have hnc:i=c→listed.getD c false=false:=by
    intro e;have hs:i < listed.size:=by rw [hI.size]; exact hi
    rw [← e];simp [hs] at h0 ⊢;exact h0
   refine wpOp_step ho (fun K' hK=>?_);rw [if_pos (by unfold Region.wanted; rw [hg])];refine hstep i o hil ho K' a w hI.outer (fun e he hb=>hI.inner _ (hdeps e he hb)) (listed.getD c false) hnc hI.inv (fun v w' hR hB hI'=>hK _ _ ?_);refine ih _ _ _ (by have:=unl_set h0 ops.size hi; omega) ⟨by simp [hI.size],?_,?_,fun t ht=>?_,fun j hj=>?_,?_⟩ (by rw [getD_set_ne true (by omega)]; exact hl) ?_;rotate_right
   ·have hset:∀ j,listed.getD j false=true→(listed.setIfInBounds i true).getD j false=true:=fun j hj=>by
     by_cases e:i=j
     ·subst e; have hs:i < listed.size:=by rw [hI.size]; exact hi
      simp [hs]
     ·rw [getD_set_ne false e]; exact hj
    intro j o' ho' hj e he hb;by_cases hij:i=j
    ·subst hij;obtain rfl:o=o':=by rw [ho] at ho'; exact Option.some.inj ho'
     exact hset _ (hdeps e he hb)
    ·rw [getD_set_ne false hij] at hj;exact hset _ (hcl j o' ho' hj e he hb)
   ·rw [hd]; simp [Act.put,hI.tsize]
   ·rw [hd]; simp [Act.put,hI.defers]
   ·rw [hd,slot_put_ne (show ds.getD i 0≠t from fun e=>ht (e ▸ hmem))]; exact hI.outer t ht
   ·rw [hd];by_cases e:i=j
    ·subst e;rw [slot_put_eq (by rw [hI.tsize]; exact hF.fits _ hmem)];exact hR
    ·rw [getD_set_ne false e] at hj;have hjo:j < ops.size:=by
      rw [← hI.size];rcases Nat.lt_or_ge j listed.size with h' | h'
      ·exact h'
      ·simp [Array.getElem?_eq_none h'] at hj
     have hjl:j < ds.length:=by
      rcases Nat.lt_or_ge j ds.length with h' | h'
      ·exact h'
      ·exfalso
       have hjn:j=ds.length:=by have:=hF.len; omega
       have hjs:j < listed.size:=by rw [hI.size]; exact hjo
       rw [← hjn] at hl;simp [hjs] at hl hj;rw [hl] at hj;simp at hj
     rw [slot_put_ne (nodup_ne hF.nodup hil hjl e)];refine hst i j _ _ _ e (fun o' ho' ed hed hbd hon=>?_) (hI.inner j hj) hB;have h2:=hcl j o' ho' hj ed hed hbd;rw [hon] at h2;have hs:i < listed.size:=by rw [hI.size]; exact hi
     simp [hs] at h0 h2;rw [h0] at h2;simp at h2
   ·have hs:i < listed.size:=by rw [hI.size]; exact hi
    by_cases e:i=c
    ·subst e; simp [hs]; simpa using hI'
    ·rw [getD_set_ne false e];have e2:(i==c)=false:=by simpa using e
     rw [e2,Bool.or_false] at hI'; exact hI'
  ·have hin:i=ds.length:=by have:=hF.len; omega
   subst hin;obtain rfl:last=o:=by have:=hF.isLast; rw [this] at ho; exact Option.some.inj ho
   refine wpOp_step ho (fun K' hK=>?_);rw [if_pos (by unfold Region.wanted; rw [hF.lguard])];have hall:∀ i,i < ds.length→listed.getD i false=true:=by
    have key:∀ d j,ds.length-j≤d→j < ds.length→listed.getD j false=true:=by
     intro d;induction d with
     | zero=>intro j h1 h2; omega
     | succ d ihd =>
      intro j h1 h2;rcases hF.lall j h2 with ⟨e,he,hb,hon⟩ | ⟨q,oq,hq1,hq2,hoq,e,he,hb,hon⟩
      ·rw [← hon]; exact hdeps e he hb
      ·rw [← hon]; exact hcl q oq hoq (ihd q (by omega) hq2) e he hb
    exact fun j hj=>key ds.length j (by omega) hj
   refine hlast K' a w hI.tsize hI.defers hI.outer (fun j hj=>hI.inner j (hall j hj)) (by have:=hI.inv; rw [hall c hc] at this; exact this) (fun a' w' hQ=>hK _ _ (wpAny_done ?_ hQ fuel));rw [List.eq_nil_iff_forall_not_mem];intro j hj;rw [mem_ready] at hj;obtain ⟨g0,o',ho',_⟩:=hj;have hjo:j < ops.size:=(Array.getElem?_eq_some_iff.1 ho').1;by_cases e:ds.length=j
   ·subst e;have hs:ds.length < listed.size:=by rw [hI.size]; exact hi
    simp [hs] at g0
   ·rw [getD_set_ne true e] at g0;have hjl:j < ds.length:=by have:=hF.len; omega
    have:=hall j hjl;have hs:j < listed.size:=by rw [hI.size]; exact hjo
    simp [hs] at g0 this;rw [g0] at this;simp at this
def YSteps (E:Nat→World→World→Prop) (I:Bool→World→Prop) (c:Nat) (P:Program) (Q:Exit→Act→World→Prop) (ds:List Tmp) (R:Nat→Value→World→Prop) (a0:Act):Nat→List Oper→Prop
 | _,[]=>True
 | n,o::l=>YStep E I c P Q ds R a0 n o∧YSteps E I c P Q ds R a0 (n+1) l
theorem YSteps.at':∀ (l:List Oper) (n:Nat),YSteps E I c P Q ds R a0 n l→∀ i o,l[i]?=some o→YStep E I c P Q ds R a0 (n+i) o
 | [],_,_,i,o,h=>by simp at h
 | p::l,n,hs,0,o,h=>by simp at h; subst h; exact hs.1
 | p::l,n,hs,i+1,o,h=>by
  have:=YSteps.at' l (n+1) hs.2 i o (by simpa using h);rwa [show n+1+i=n+(i+1) by omega] at this
theorem stY {Rs:List (Value→World→Prop)} (hst:∀ i j,i≠j→(∀ o,ops[j]?=some o→∀ e∈o.after,Region.binds .any e=true→e.on≠i)→∀ v w w',rAt Rs j v w→E i w w'→rAt Rs j v w') (i j:Nat) (v:Value) (w w':World) (hij:i≠j) (hc:∀ o,ops[j]?=some o→∀ e∈o.after,Region.binds .any e=true→e.on≠i) (h:rAt Rs j v w) (hb:E i w w'):rAt Rs j v w':=hst i j hij hc v w w' h hb
theorem wp_region_growYU {id:Nat} {Rs:List (Value→World→Prop)} (E:Nat→World→World→Prop) (I:Bool→World→Prop) (c:Nat) (ds:List Tmp) (last:Oper) (hc:c < ds.length) (hm:P.follows .mixedOrders=true) (hlst:ops[ds.length]?=some last) (hF:gformU ops ds a0.tmps.size last=true) (hl:Rs.length=ds.length) (hI0:I false w0.drew) (hst:∀ i j,i≠j→(∀ o,ops[j]?=some o→∀ e∈o.after,Region.binds .any e=true→e.on≠i)→∀ v w w',rAt Rs j v w→E i w w'→rAt Rs j v w')
  (hstep:YSteps E I c P Q ds (rAt Rs) a0 0 (ops.toList.take ds.length))
  (hlast:∀ (X:Nat→Value) (a:Act) (K':Act→World→Prop) w,a=putsFrom X a0 0 ds→(∀ i,i < ds.length→slot a (ds.getD i 0)=X i)→RAll X w 0 Rs→I true w→(∀ a' w',Q .normal a' w'→K' a' w')→Oper.wp P last a w K' Q) :
  (Code.region id ops true).wp P Q a0 w0:=by
 have hG:=GFormU.of hlst hF;have hlen:=hG.len;refine wp_region_any hm (wpAny_growYU (E:=E) (I:=I) (c:=c) (w0:=w0.drew) (R:=rAt Rs) hc hG (stY hst) (fun i o hi ho=>?_) (fun K' a w h1 h2 h3 h4 h5 h6=>?_) ops.size _ a0 w0.drew (unl_le _ _) ⟨by simp,rfl,rfl,fun _ _=>rfl,fun i hi=>?_,by rw [show (Array.replicate ops.size false).getD c false=false by by_cases h:c < ops.size<;>simp [h]]; exact hI0⟩ ?_ (fun i o _ hi=>?_))
 ·have:=YSteps.at' (ops.toList.take ds.length) 0 hstep i o (by rw [List.getElem?_take_of_lt hi]; simpa using ho);rwa [Nat.zero_add] at this
 ·have hp:putsFrom (fun i=>slot a (ds.getD i 0)) a0 0 ds=a:=puts_eq ds a0 0 h1.symm h2.symm (fun i _=>by rw [Nat.zero_add]) (fun t ht=>(h3 t ht).symm) (fun d hd=>by rw [h1]; exact hG.fits d hd);exact hlast (fun i=>slot a (ds.getD i 0)) a K' w hp.symm (fun i _=>rfl) (RAll.mk Rs 0 (fun i hi=>by rw [Nat.zero_add]; exact h4 i (by omega))) h5 h6
 ·exfalso
  by_cases h:i < ops.size
  ·simp [h] at hi
  ·simp [h] at hi
 ·simp [show ds.length < ops.size by omega]
 ·exfalso
  by_cases h:i < ops.size
  ·simp [h] at hi
  ·simp [h] at hi
end
end Go.Proofs.YthagnjokdnnmpaaGreat
