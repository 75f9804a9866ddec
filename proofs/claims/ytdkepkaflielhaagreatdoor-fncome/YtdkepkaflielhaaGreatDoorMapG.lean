import Derived.Test.YtdkepkaflielhaaGreatDoorAb
import Derived.Test.YtdkepkaflielhaaGreatDoorBase
import Derived.Maps.Keyed
import Derived.Maps.AppendAt
set_option linter.unusedVariables false
set_option linter.unusedSimpArgs false
set_option maxRecDepth 100000
set_option maxHeartbeats 8000000
namespace Go.Proofs.YtdkepkaflielhaaGreatDoor
open Go.RowKit Go.MapKept
open Go.Maps (Keyed)
def MapAt (P:Program) (k:TypeId) (w:World) (b:Nat) (M:Value→Option Value):Prop :=
 ∃ es clock,w.heap[b]?=some (.map es clock)∧(∀ e∈es.toList,∃ l,keyOf P k e.key=some l)∧es.toList.Pairwise (fun x y=>x.key≠y.key)∧∀ x v,M x=some v↔∃ e∈es.toList,e.key=x∧e.val=v
section
variable {P:Program} {k t e:TypeId} {w W:World} {b:Nat} {M:Value→Option Value}
theorem MapAt.lt (h:MapAt P k w b M):b < w.heap.size:=by
 obtain ⟨es,clock,hb,_⟩:=h;exact (Array.getElem?_eq_some_iff.1 hb).1
theorem MapAt.of_block (h:MapAt P k w b M) (hb:W.heap[b]?=w.heap[b]?):MapAt P k W b M:=by
 obtain ⟨es,clock,h1,h2⟩:=h;exact ⟨es,clock,hb.trans h1,h2⟩
theorem MapAt.below (h:MapAt P k w b M) (hB:Below w.heap.size w W):MapAt P k W b M:=h.of_block (hB.block b h.lt)
theorem MapAt.grown {row:Option Nat} (h:MapAt P k w b M) (hg:w.grownBy W row) (hr:some b≠row):MapAt P k W b M:=h.of_block (hg.block b h.lt hr)
theorem MapAt.made (w:World):MapAt P k (w.alloc (.map #[] 0)) w.heap.size (fun _=>none) :=
 ⟨#[],0,heap_alloc_new w _,fun e he=>by simp at he,by simp,fun x v=>by simp⟩
theorem find_in (K:Keyed P k) {es:List MapEntry} (hk:∀ e∈es,∃ l,keyOf P k e.key=some l) (hp:es.Pairwise fun x y=>x.key≠y.key) (hM:∀ x v,M x=some v↔∃ e∈es,e.key=x∧e.val=v) {x:Value} {l:Lit} (hx:keyOf P k x=some l) (w:World) :
  ((Instr.findKey k x es).run P w=.ok none w∧M x=none∧∀ e∈es,e.key≠x)∨∃ j e,(Instr.findKey k x es).run P w=.ok (some (j,e.val)) w∧M x=some e.val∧es[j]?=some e∧e.key=x:=by
 rcases K.find w hx es hk with ⟨h1,h2⟩ | ⟨j,e,h1,h2,h3⟩
 ·refine .inl ⟨h1,?_,h2⟩
  cases hm:M x with
  | none=>rfl
  | some v =>
   obtain ⟨e,he,hkx,_⟩:=(hM x v).1 hm;exact absurd hkx (h2 e he)
 ·exact .inr ⟨j,e,h1,(hM x e.val).2 ⟨e,List.mem_of_getElem? h2,h3,rfl⟩,h2,h3⟩
theorem MapAt.look (K:Keyed P k) (ht:P.underlying t=some (.map k e)) (h:MapAt P k w b M) {x z:Value} {l:Lit} (hx:keyOf P k x=some l) (hz:(zeroValue e).run P w=.ok z w) :
  (Instr.lookup t (.map (some b)) x false).run P w=.ok ((M x).getD z) w∧(Instr.lookup t (.map (some b)) x true).run P w=.ok (.tuple #[(M x).getD z,.bool (M x).isSome]) w:=by
 obtain ⟨es,clock,hb,hk,hp,hM⟩:=h;rcases find_in K hk hp hM hx w with ⟨h1,h2,_⟩ | ⟨j,e0,h1,h2,_⟩
 ·constructor<;>simp [Instr.lookup,run_underlying ht,MapKept.run_getObj_map hb,K.check w _ hx,h1,h2,hz,Result.andThen]
 ·constructor<;>simp [Instr.lookup,run_underlying ht,MapKept.run_getObj_map hb,K.check w _ hx,h1,h2,hz,Result.andThen]
theorem grown_block (w:World) (b:Nat) (o:Obj):w.grownBy { w with heap:=w.heap.setIfInBounds b o } (some b) :=
 ⟨rfl,rfl,rfl,by simp,fun k hk hne=>by
  show (w.heap.setIfInBounds b o)[k]?=w.heap[k]?;rw [Array.getElem?_setIfInBounds_ne (fun e=>hne (by rw [e]))]⟩
theorem at_block (w:World) {b:Nat} (o:Obj) (hb:b < w.heap.size):({ w with heap:=w.heap.setIfInBounds b o }:World).heap[b]?=some o:=by
 show (w.heap.setIfInBounds b o)[b]?=some o;simp [hb]
open Classical in
theorem MapAt.put (K:Keyed P k) (ht:P.underlying t=some (.map k e)) (h:MapAt P k w b M) {x v:Value} {l:Lit} (hx:keyOf P k x=some l) :
  ∃ W M',(Instr.mapUpdate t (.map (some b)) x v).run P w=.ok () W∧MapAt P k W b M'∧M' x=some v∧(∀ y,y≠x→M' y=M y)∧w.grownBy W (some b)∧W.heap.size=w.heap.size:=by
 have hlt:=h.lt;obtain ⟨es,clock,hb,hk,hp,hM⟩:=h;rcases find_in K hk hp hM hx w with ⟨h1,h2,h3⟩ | ⟨j,e0,h1,h2,h3,h4⟩
 ·refine ⟨{ w with heap:=w.heap.setIfInBounds b (.map (es.push ⟨x,v,clock⟩) (clock+1)) },fun y=>if y=x then some v else M y,?_,⟨_,_,at_block w _ hlt,?_,?_,fun y u=>?_⟩,if_pos rfl,fun y hy=>if_neg hy,grown_block w b _,by simp⟩
  ·simp [Instr.mapUpdate,run_underlying ht,MapKept.run_getObj_map hb,K.check w false hx,h1,MapKept.run_setObj_map _ hb,Result.andThen]
  ·intro y hy;simp only [Array.toList_push,List.mem_append,List.mem_singleton] at hy;rcases hy with hy | rfl
   ·exact hk y hy
   ·exact ⟨l,hx⟩
  ·rw [Array.toList_push];refine List.pairwise_append.2 ⟨hp,by simp,fun a ha c hc=>?_⟩;obtain rfl:c=⟨x,v,clock⟩:=by simpa using hc
   exact h3 a ha
  ·rw [Array.toList_push];dsimp only;by_cases hy:y=x
   ·subst hy;rw [if_pos rfl];constructor
    ·intro hu;exact ⟨⟨y,v,clock⟩,by simp,rfl,by simpa using hu⟩
    ·rintro ⟨a,ha,ha1,ha2⟩;simp only [List.mem_append,List.mem_singleton] at ha;rcases ha with ha | rfl
     ·exact absurd ha1 (h3 a ha)
     ·simpa using ha2
   ·rw [if_neg hy,hM];constructor
    ·rintro ⟨a,ha,ha1,ha2⟩;exact ⟨a,by simp [ha],ha1,ha2⟩
    ·rintro ⟨a,ha,ha1,ha2⟩;simp only [List.mem_append,List.mem_singleton] at ha;rcases ha with ha | rfl
     ·exact ⟨a,ha,ha1,ha2⟩
     ·exact absurd ha1.symm hy
 ·have hj:es[j]?=some e0:=by simpa using h3
  have hjl:j < es.toList.length:=(List.getElem?_eq_some_iff.1 h3).1;have hlist:(es.modify j (fun e'=>{ e' with key:=x,val:=v })).toList=es.toList.set j { e0 with key:=x,val:=v }:=by rw [Array.toList_modify,Go.ChangeMaps.modify_eq_set _ _ _ _ h3]
  have hoth:∀ i (hi:i < es.toList.length),i≠j→es.toList[i].key≠x:=fun i hi hne=>by
   have hje:es.toList[j].key=x:=by
    have:=(List.getElem?_eq_some_iff.1 h3).2;rw [this]; exact h4
   rw [List.pairwise_iff_getElem] at hp;rcases Nat.lt_or_ge i j with hlt' | hge
   ·have:=hp i j hi hjl hlt';rw [hje] at this; exact this
   ·have:=hp j i hjl hi (by omega);rw [hje] at this; exact fun e=>this e.symm
  have who:∀ y∈es.toList.set j { e0 with key:=x,val:=v },y={ e0 with key:=x,val:=v }∨(y∈es.toList∧y.key≠x):=by
   intro y hy;obtain ⟨i,hi,ey⟩:=List.getElem_of_mem hy;rw [List.getElem_set] at ey;split at ey
   ·exact Or.inl ey.symm
   ·rename_i hne;have hi':i < es.toList.length:=by simpa using hi
    exact Or.inr ⟨ey ▸ List.getElem_mem hi',by rw [← ey]; exact hoth i hi' (fun e=>hne e.symm)⟩
  have wo:∀ y∈es.toList,y.key≠x→y∈es.toList.set j { e0 with key:=x,val:=v }:=by
   intro y hy hne;obtain ⟨i,hi,ey⟩:=List.getElem_of_mem hy;have hij:i≠j:=fun e=>by
    subst e;have:=(List.getElem?_eq_some_iff.1 h3).2;rw [ey] at this; rw [this] at hne; exact hne h4
   exact List.mem_iff_getElem.2 ⟨i,by simpa using hi,by rw [List.getElem_set_ne (fun e=>hij e.symm)]; exact ey⟩
  refine ⟨{ w with heap:=w.heap.setIfInBounds b (.map (es.modify j fun e'=>{ e' with key:=x,val:=v }) clock) },fun y=>if y=x then some v else M y,?_,⟨_,_,at_block w _ hlt,?_,?_,fun y u=>?_⟩,if_pos rfl,fun y hy=>if_neg hy,grown_block w b _,by simp⟩
  ·simp [Instr.mapUpdate,run_underlying ht,MapKept.run_getObj_map hb,K.check w false hx,h1,hj,h4,K.stays w hx,MapKept.run_setObj_map _ hb,Result.andThen]
  ·rw [hlist];intro y hy;rcases who y hy with rfl | ⟨hy',_⟩
   ·exact ⟨l,hx⟩
   ·exact hk y hy'
  ·rw [hlist,List.pairwise_iff_getElem];intro p q hpl hql hpq;rw [List.length_set] at hpl hql;rw [List.getElem_set,List.getElem_set];by_cases e1:j=p
   ·subst e1;rw [if_pos rfl,if_neg (by omega)];exact fun e=>hoth q hql (by omega) e.symm
   ·rw [if_neg e1];by_cases e2:j=q
    ·subst e2;rw [if_pos rfl];exact hoth p hpl (fun e=>e1 e.symm)
    ·rw [if_neg e2];exact (List.pairwise_iff_getElem.1 hp) p q hpl hql hpq
  ·rw [hlist];dsimp only;by_cases hy:y=x
   ·subst hy;rw [if_pos rfl];constructor
    ·intro hu;exact ⟨{ e0 with key:=y,val:=v },List.mem_iff_getElem.2 ⟨j,by simpa using hjl,by simp⟩,rfl,by simpa using hu⟩
    ·rintro ⟨a,ha,ha1,ha2⟩;rcases who a ha with rfl | ⟨_,hne⟩
     ·simpa using ha2
     ·exact absurd ha1 hne
   ·rw [if_neg hy,hM];constructor
    ·rintro ⟨a,ha,ha1,ha2⟩;exact ⟨a,wo a ha (by rw [ha1]; exact hy),ha1,ha2⟩
    ·rintro ⟨a,ha,ha1,ha2⟩;rcases who a ha with rfl | ⟨ha',_⟩
     ·exact absurd ha1.symm hy
     ·exact ⟨a,ha',ha1,ha2⟩
open Classical in
end
end Go.Proofs.YtdkepkaflielhaaGreatDoor
