import Derived.Test.YthpopipedamciaaGreatMerged22
import Derived.Maps.OwnOps
import Derived.Deep.DeepCutAuto
set_option linter.unusedVariables false
set_option linter.unusedSimpArgs false
set_option maxRecDepth 100000
set_option maxHeartbeats 8000000
namespace Go.Proofs.YthpopipedamciaaGreat
open Go.RowKit Go.PlainAid
theorem wp_lookup_run {P:Program} {o:Oper} {a:Act} {w:World} {v1 v2 v':Value} {K:Act→World→Prop} {Q:Exit→Act→World→Prop} (t:TypeId) (x ix:Operand) (ok:Bool) (hop:o.op=Op.lookup t x ix ok)
  (hs:a.eval x=v1) (hx:a.eval ix=v2) (hrun:(Instr.lookup t v1 v2 ok).run P w=.ok v' w) (hK:K (a.put o.dst v') w):Oper.wp P o a w K Q:=by
 unfold Oper.wp;simp [execOp,hop,hs,hx,hrun,Result.andThen];exact hK
theorem wpList_lookup_run {P:Program} {ops:Array Oper} {rest:List Oper} {o:Oper} {a:Act} {w:World} {v1 v2 v':Value} {Q:Exit→Act→World→Prop} (hg:o.guard=none) (t:TypeId) (x ix:Operand) (ok:Bool) (hop:o.op=Op.lookup t x ix ok)
  (hs:a.eval x=v1) (hx:a.eval ix=v2) (hrun:(Instr.lookup t v1 v2 ok).run P w=.ok v' w) (hK:wpList P ops Q rest (a.put o.dst v') w):wpList P ops Q (o::rest) a w :=
 wpList_plain hg fun K hK'=>wp_lookup_run t x ix ok hop hs hx hrun (hK' _ _ hK)
theorem wp_update_run {P:Program} {o:Oper} {a:Act} {w w':World} {v1 v2 v3:Value} {K:Act→World→Prop} {Q:Exit→Act→World→Prop} (t:TypeId) (m x y:Operand) (hop:o.op=Op.mapUpdate t m x y)
  (hm:a.eval m=v1) (hx:a.eval x=v2) (hy:a.eval y=v3) (hrun:(Instr.mapUpdate t v1 v2 v3).run P w=.ok () w') (hK:K (a.put o.dst undef) w'):Oper.wp P o a w K Q:=by
 unfold Oper.wp;simp [execOp,hop,hm,hx,hy,hrun,Result.andThen];exact hK
structure Frm (b base:Nat) (e:TypeId) (w w':World):Prop where
 os:w'.os=w.os
 tape:w'.tape=w.tape
 output:w'.output=w.output
 size:w.heap.size≤w'.heap.size
 block:∀ k,k < w.heap.size→k≠b→(base≤k→∀ cs,w.heap[k]?≠some (.cells cs e (0,0)))→w'.heap[k]?=w.heap[k]?
section
variable {b base:Nat} {e:TypeId} {w w1 w2:World}
theorem Frm.refl (b base:Nat) (e:TypeId) (w:World):Frm b base e w w:=⟨rfl,rfl,rfl,Nat.le_refl _,fun _ _ _ _=>rfl⟩
theorem Frm.of_below (h:Below w.heap.size w w1):Frm b base e w w1:=⟨h.os,h.tape,h.output,h.size,fun k hk _ _=>h.block k hk⟩
theorem Frm.trans (h:Frm b base e w w1) (h2:Frm b base e w1 w2):Frm b base e w w2 :=
 ⟨h2.os.trans h.os,h2.tape.trans h.tape,h2.output.trans h.output,Nat.le_trans h.size h2.size,fun k hk hb hc=>by
  have h1:=h.block k hk hb hc;rw [h2.block k (Nat.lt_of_lt_of_le hk h.size) hb (fun hk2 cs=>by rw [h1]; exact hc hk2 cs),h1]⟩
theorem Frm.below (h:Frm b base e w w1) (hb:b < base) {m:Nat} (hm:m≤b) (hs:m≤w.heap.size):Below m w w1 :=
 ⟨h.os,h.tape,h.output,h.size,fun k hk=>h.block k (by omega) (by omega) (fun hk2=>by omega)⟩
end
structure GrpOf (base:Nat) (w:World) (b:Nat) (xs:List Pc) (M:Value→Option Value) (V:Pc→Value):Prop where
 map:MapAt Tryz.prog 200 w b M
 lo:b < base
 there:∀ q,grpPc xs q≠[]→M (keyC q)=some (.agg #[V q])∧w.ownsRow base 129 8 (V q) (grpPc xs q).length (flatS pcL (grpPc xs q))
 no:∀ q,grpPc xs q=[]→M (keyC q)=none
 apart:∀ q q',grpPc xs q≠[]→grpPc xs q'≠[]→onePk q q'=false→(V q).ownBlock≠(V q').ownBlock
def GrpAt (base:Nat) (w:World) (b:Nat) (xs:List Pc):Prop:=∃ M V,GrpOf base w b xs M V
def thereV (xs:List Pc) (V:Pc→Value) (p:Pc):Value:=if grpPc xs p=[] then .slice none 0 0 else V p
section
variable {base b:Nat} {w W:World} {xs:List Pc} {M:Value→Option Value} {V:Pc→Value} {p:Pc}
theorem GrpOf.own (h:GrpOf base w b xs M V) (p:Pc):w.ownsRow base 129 8 (thereV xs V p) (grpPc xs p).length (flatS pcL (grpPc xs p)):=by
 unfold thereV;by_cases hg:grpPc xs p=[]
 ·rw [if_pos hg,hg]; exact World.ownsRow_nil _ _ _ _
 ·rw [if_neg hg]; exact (h.there p hg).2
theorem GrpOf.kept (h:GrpOf base w b xs M V) (hB:Below w.heap.size w W):GrpOf base W b xs M V :=
 ⟨h.map.below hB,h.lo,fun q hq=>⟨(h.there q hq).1,own_stable (h.there q hq).2 hB⟩,h.no,h.apart⟩
theorem GrpAt.kept (h:GrpAt base w b xs) (hB:Below w.heap.size w W):GrpAt base W b xs:=by
 obtain ⟨M,V,h⟩:=h;exact ⟨M,V,h.kept hB⟩
theorem GrpAt.made (w:World) {base:Nat} (h:w.heap.size < base):GrpAt base (w.alloc (.map #[] 0)) w.heap.size [] :=
 ⟨fun _=>none,fun _=>.slice none 0 0,MapAt.made w,h,fun q hq=>by simp [grpPc] at hq,fun q _=>rfl,fun q q' hq=>by simp [grpPc] at hq⟩
theorem zero_pps (w:World):(zeroValue 203).run Tryz.prog w=.ok (.agg #[.slice none 0 0]) w:=by kernel_rfl
theorem GrpOf.look (h:GrpOf base w b xs M V) (hk:KeyIn p):(Instr.lookup 138 (.map (some b)) (keyC p) false).run Tryz.prog w=.ok (.agg #[thereV xs V p]) w∧(Instr.lookup 138 (.map (some b)) (keyC p) true).run Tryz.prog w=.ok (.tuple #[.agg #[thereV xs V p],.bool (!decide (grpPc xs p=[]))]) w:=by
 obtain ⟨l,hl⟩:=keyOf_pk p hk;have h1:=h.map.look (t:=138) keyed_pk Tryz.underlying138 hl (zero_pps w);unfold thereV;by_cases hg:grpPc xs p=[]
 ·rw [h.no p hg] at h1;rw [if_pos hg,decide_eq_true hg]; exact h1
 ·rw [(h.there p hg).1] at h1;rw [if_neg hg,decide_eq_false hg]; exact h1
theorem own_some {w:World} {base:Nat} {e:TypeId} {v:Value} {ys:List Pc} (h:w.ownsRow base e 8 v ys.length (flatS pcL ys)) (hy:ys≠[]):∃ g,v.ownBlock=some g:=by
 rcases h.2 with ⟨_,h2⟩ | ⟨g,cap,cur,h1,_⟩
 ·exact absurd (List.length_eq_zero_iff.1 h2) hy
 ·exact ⟨g,by rw [h1]; rfl⟩
structure GrpMid (base:Nat) (w0:World) (b:Nat) (xs:List Pc) (M:Value→Option Value) (V:Pc→Value) (p:Pc) (v5:Value) (w:World):Prop where
 map:MapAt Tryz.prog 200 w b M
 lo:b < base
 new:w.ownsRow base 129 8 v5 ((grpPc xs p).length+1) (flatS pcL (grpPc xs p)++pcL p)
 there:∀ q,grpPc xs q≠[]→onePk p q=false→M (keyC q)=some (.agg #[V q])∧w.ownsRow base 129 8 (V q) (grpPc xs q).length (flatS pcL (grpPc xs q))∧v5.ownBlock≠(V q).ownBlock
 no:∀ q,grpPc xs q=[]→M (keyC q)=none
 apart:∀ q q',grpPc xs q≠[]→grpPc xs q'≠[]→onePk q q'=false→(V q).ownBlock≠(V q').ownBlock
 frm:Frm b base 129 w0 w
theorem GrpMid.kept {w0:World} {v5:Value} (h:GrpMid base w0 b xs M V p v5 w) (hB:Below w.heap.size w W):GrpMid base w0 b xs M V p v5 W :=
 ⟨h.map.below hB,h.lo,own_stable h.new hB,fun q hq ho=>⟨(h.there q hq ho).1,own_stable (h.there q hq ho).2.1 hB,(h.there q hq ho).2.2⟩,h.no,h.apart,h.frm.trans (Frm.of_below hB)⟩
theorem there_row (h:GrpOf base w b xs M V) (p:Pc):∀ g,(thereV xs V p).ownBlock=some g→base≤g∧g < w.heap.size:=fun g hg=>(h.own p).lt g hg
theorem GrpOf.app {w0:World} (h:GrpOf base w b xs M V) (hf:Frm b base 129 w0 w) (hl:xs.length≤1048576) (hbase:base≤w.heap.size) (g4:Nat) (hnews:∀ j u,(pcL p)[j]?=some u→w.cell? ((⟨g4,0,none⟩ : Addr).add j)=some u) (ty:TypeId) (hold:∀ g,(thereV xs V p).ownBlock=some g→g < w0.heap.size) :
  ∃ v5 w5,(Builtin.append_ #[37,37] ty #[thereV xs V p,.slice (some ⟨g4,0,none⟩) 1 1]).run Tryz.prog w=.ok v5 w5∧GrpMid base w0 b xs M V p v5 w5∧w.grownBy w5 (thereV xs V p).ownBlock:=by
 obtain ⟨i0,hi,hz0,hz1,hz2⟩:=info_parts Tryz.infoPt;have hown:=h.own p;have hgl:=grp_len xs p;obtain ⟨v5,w5,hrun,h52,h53,h54,h55⟩:=run_append_own_at (P:=Tryz.prog) w base 37 ty 129 i0 _ 8 88 Tryz.underlying37 hi hz0 hz1 hz2 rfl (by decide) (thereV xs V p) (grpPc xs p).length (flatS pcL (grpPc xs p)) hown ⟨g4,0,none⟩ 1 1 (pcL p) rfl hnews (pcL_one p) (by unfold maxLen; omega) (by omega) hbase;have hrow:some b≠(thereV xs V p).ownBlock:=fun e=>by have:=(hown.lt b e.symm).1; have:=h.lo; omega
 have h5b:(thereV xs V p).ownBlock=none∨(thereV xs V p).ownBlock=(V p).ownBlock∧grpPc xs p≠[]:=by
  unfold thereV;by_cases hg:grpPc xs p=[]
  ·rw [if_pos hg]; exact .inl rfl
  ·rw [if_neg hg]; exact .inr ⟨rfl,hg⟩
 have hne:∀ q,grpPc xs q≠[]→onePk p q=false→(V q).ownBlock≠(thereV xs V p).ownBlock:=fun q hq ho=>by
  obtain ⟨g,hg⟩:=own_some (h.there q hq).2 hq;rcases h5b with h0 | ⟨h0,h1⟩
  ·rw [h0,hg]; simp
  ·rw [h0]; exact fun e=>h.apart p q h1 hq ho e.symm
 refine ⟨v5,w5,hrun,⟨h.map.grown h53 hrow,h.lo,h52,fun q hq ho=>⟨(h.there q hq).1,(h.there q hq).2.kept h53 (.inr (hne q hq ho)),?_⟩,h.no,h.apart,?_⟩,h53⟩
 ·rcases h55 with h0 | h0
  ·rw [h0]; exact fun e=>hne q hq ho e.symm
  ·rw [h0]; exact fun e=>by have:=((h.there q hq).2.lt _ e.symm).2; omega
 ·refine hf.trans ⟨h53.os,h53.tape,h53.output,h53.size,fun k hk hkb hc=>h53.block k hk (fun e=>?_)⟩;rcases hown.2 with ⟨h1,_⟩ | ⟨g,cap,cur,h1,h2,h3,_⟩
  ·rw [h1] at e; simp [Value.ownBlock] at e
  ·rw [h1] at e;simp [Value.ownBlock] at e;subst e;exact hc h2 cur h3
theorem GrpMid.put {w0:World} {v5:Value} (h:GrpMid base w0 b xs M V p v5 w) (hk:KeyIn p) :
  ∃ w6,(Instr.mapUpdate 138 (.map (some b)) (keyC p) (.agg #[v5])).run Tryz.prog w=.ok () w6∧GrpAt base w6 b (xs++[p])∧Frm b base 129 w0 w6:=by
 obtain ⟨l,hkl⟩:=keyOf_pk p hk;obtain ⟨w6,M',hup,hM',hx,hoth,hg6,hs6⟩:=h.map.put (v:=.agg #[v5]) keyed_pk Tryz.underlying138 hkl;have hb5:∀ q,grpPc xs q≠[]→onePk p q=false→(V q).ownBlock≠some b:=fun q hq ho e=>by have:=((h.there q hq ho).2.1.lt b e).1; have:=h.lo; omega
 have h5r:v5.ownBlock≠some b:=fun e=>by have:=(h.new.lt b e).1; have:=h.lo; omega
 refine ⟨w6,hup,⟨M',fun q=>if onePk p q=true then v5 else V q,hM',h.lo,fun q hq=>?_,fun q hq=>?_,fun q q' hq hq' ho=>?_⟩,?_⟩
 ·rw [grp_snoc] at hq ⊢;by_cases ho:onePk p q=true
  ·rw [if_pos ho,if_pos ho,← keyC_eq.2 ho,← grp_same ho];refine ⟨hx,?_⟩;rw [flatS_snoc,List.length_append];exact h.new.kept hg6 (.inr h5r)
  ·rw [if_neg ho] at hq;rw [if_neg ho,if_neg ho];have ho':onePk p q=false:=by simpa using ho
   rw [hoth (keyC q) (fun e=>ho (keyC_eq.1 e.symm))];exact ⟨(h.there q hq ho').1,(h.there q hq ho').2.1.kept hg6 (.inr (hb5 q hq ho'))⟩
 ·rw [grp_snoc] at hq;by_cases ho:onePk p q=true
  ·rw [if_pos ho] at hq; simp at hq
  ·rw [if_neg ho] at hq;rw [hoth (keyC q) (fun e=>ho (keyC_eq.1 e.symm))];exact h.no q hq
 ·rw [grp_snoc] at hq hq';by_cases h1:onePk p q=true
  ·have h2:¬ onePk p q'=true:=fun h2=>by
    have:=onePk_trans ((onePk_comm q p).trans h1) h2;rw [ho] at this; simp at this
   rw [if_neg h2] at hq';rw [if_pos h1,if_neg h2];exact (h.there q' hq' (by simpa using h2)).2.2
  ·rw [if_neg h1] at hq;rw [if_neg h1];by_cases h2:onePk p q'=true
   ·rw [if_pos h2];exact fun e=>(h.there q hq (by simpa using h1)).2.2 e.symm
   ·rw [if_neg h2] at hq';rw [if_neg h2];exact h.apart q q' hq hq' ho
 ·exact h.frm.trans ⟨hg6.os,hg6.tape,hg6.output,hg6.size,fun k hk hkb hc=>hg6.block k hk (by simpa using hkb)⟩
end
end Go.Proofs.YthpopipedamciaaGreat
