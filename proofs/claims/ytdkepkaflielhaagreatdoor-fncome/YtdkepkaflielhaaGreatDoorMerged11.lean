import Derived.Test.YtdkepkaflielhaaGreatDoorAb
import Derived.Test.YtdkepkaflielhaaGreatDoorMerged1
import Derived.Maps.Keyed
import Derived.Maps.AppendAt
import Derived.Maps.OwnOps
import Derived.Test.YtdkepkaflielhaaGreatDoorMerged10
import Derived.DeepKeys5
import Derived.Deep.DeepCutAuto
import Derived.Test.YtdkepkaflielhaaGreatDoorMerged8
import Derived.Test.YtdkepkaflielhaaGreatDoorGrowV
set_option linter.unusedVariables false
set_option linter.unusedSimpArgs false
set_option maxRecDepth 100000
set_option maxHeartbeats 8000000
namespace Go.Proofs.YtdkepkaflielhaaGreatDoor
open Go.RowKit Go.MapKept
open Go.Maps (Keyed)
def MapAt (P:Program) (k:TypeId) (w:World) (b:Nat) (M:Value→Option Value):Prop :=
 ∃ es clock,w.heap[b]?=some (.map es clock)∧(∀ e∈es.toList,∃ l,keyOf P k e.key=some l)∧es.toList.Pairwise (fun x y=>x.key≠y.key)∧∀ x v,M x=some v↔∃ e∈es.toList,e.key=x∧e.val=v
section
variable {P:Program} {k t e:TypeId} {w W:World} {b:Nat} {M:Value→Option Value}
theorem MapAt.lt (h:MapAt P k w b M):b < w.heap.size:=by
 obtain ⟨es,clock,hb,_⟩:=h;exact (Array.getElem?_eq_some_iff.1 hb).1
theorem MapAt.of_block (h:MapAt P k w b M) (hb:W.heap[b]?=w.heap[b]?):MapAt P k W b M:=by
 obtain ⟨es,clock,h1,h2⟩:=h;exact ⟨es,clock,hb.trans h1,h2⟩
theorem MapAt.below (h:MapAt P k w b M) (hB:Below w.heap.size w W):MapAt P k W b M:=h.of_block (hB.block b h.lt)
theorem MapAt.grown {row:Option Nat} (h:MapAt P k w b M) (hg:w.grownBy W row) (hr:some b≠row):MapAt P k W b M:=h.of_block (hg.block b h.lt hr)
theorem MapAt.made (w:World):MapAt P k (w.alloc (.map #[] 0)) w.heap.size (fun _=>none) :=
 ⟨#[],0,heap_alloc_new w _,fun e he=>by simp at he,by simp,fun x v=>by simp⟩
theorem find_in (K:Keyed P k) {es:List MapEntry} (hk:∀ e∈es,∃ l,keyOf P k e.key=some l) (hp:es.Pairwise fun x y=>x.key≠y.key) (hM:∀ x v,M x=some v↔∃ e∈es,e.key=x∧e.val=v) {x:Value} {l:Lit} (hx:keyOf P k x=some l) (w:World) :
  ((Instr.findKey k x es).run P w=.ok none w∧M x=none∧∀ e∈es,e.key≠x)∨∃ j e,(Instr.findKey k x es).run P w=.ok (some (j,e.val)) w∧M x=some e.val∧es[j]?=some e∧e.key=x:=by
 rcases K.find w hx es hk with ⟨h1,h2⟩ | ⟨j,e,h1,h2,h3⟩
 ·refine .inl ⟨h1,?_,h2⟩
  cases hm:M x with
  | none=>rfl
  | some v =>
   obtain ⟨e,he,hkx,_⟩:=(hM x v).1 hm;exact absurd hkx (h2 e he)
 ·exact .inr ⟨j,e,h1,(hM x e.val).2 ⟨e,List.mem_of_getElem? h2,h3,rfl⟩,h2,h3⟩
theorem MapAt.look (K:Keyed P k) (ht:P.underlying t=some (.map k e)) (h:MapAt P k w b M) {x z:Value} {l:Lit} (hx:keyOf P k x=some l) (hz:(zeroValue e).run P w=.ok z w) :
  (Instr.lookup t (.map (some b)) x false).run P w=.ok ((M x).getD z) w∧(Instr.lookup t (.map (some b)) x true).run P w=.ok (.tuple #[(M x).getD z,.bool (M x).isSome]) w:=by
 obtain ⟨es,clock,hb,hk,hp,hM⟩:=h;rcases find_in K hk hp hM hx w with ⟨h1,h2,_⟩ | ⟨j,e0,h1,h2,_⟩
 ·constructor<;>simp [Instr.lookup,run_underlying ht,MapKept.run_getObj_map hb,K.check w _ hx,h1,h2,hz,Result.andThen]
 ·constructor<;>simp [Instr.lookup,run_underlying ht,MapKept.run_getObj_map hb,K.check w _ hx,h1,h2,hz,Result.andThen]
theorem grown_block (w:World) (b:Nat) (o:Obj):w.grownBy { w with heap:=w.heap.setIfInBounds b o } (some b) :=
 ⟨rfl,rfl,rfl,by simp,fun k hk hne=>by
  show (w.heap.setIfInBounds b o)[k]?=w.heap[k]?;rw [Array.getElem?_setIfInBounds_ne (fun e=>hne (by rw [e]))]⟩
theorem at_block (w:World) {b:Nat} (o:Obj) (hb:b < w.heap.size):({ w with heap:=w.heap.setIfInBounds b o }:World).heap[b]?=some o:=by
 show (w.heap.setIfInBounds b o)[b]?=some o;simp [hb]
open Classical in
theorem MapAt.put (K:Keyed P k) (ht:P.underlying t=some (.map k e)) (h:MapAt P k w b M) {x v:Value} {l:Lit} (hx:keyOf P k x=some l) :
  ∃ W M',(Instr.mapUpdate t (.map (some b)) x v).run P w=.ok () W∧MapAt P k W b M'∧M' x=some v∧(∀ y,y≠x→M' y=M y)∧w.grownBy W (some b)∧W.heap.size=w.heap.size:=by
 have hlt:=h.lt;obtain ⟨es,clock,hb,hk,hp,hM⟩:=h;rcases find_in K hk hp hM hx w with ⟨h1,h2,h3⟩ | ⟨j,e0,h1,h2,h3,h4⟩
 ·refine ⟨{ w with heap:=w.heap.setIfInBounds b (.map (es.push ⟨x,v,clock⟩) (clock+1)) },fun y=>if y=x then some v else M y,?_,⟨_,_,at_block w _ hlt,?_,?_,fun y u=>?_⟩,if_pos rfl,fun y hy=>if_neg hy,grown_block w b _,by simp⟩
  ·simp [Instr.mapUpdate,run_underlying ht,MapKept.run_getObj_map hb,K.check w false hx,h1,MapKept.run_setObj_map _ hb,Result.andThen]
  ·intro y hy;simp only [Array.toList_push,List.mem_append,List.mem_singleton] at hy;rcases hy with hy | rfl
   ·exact hk y hy
   ·exact ⟨l,hx⟩
  ·rw [Array.toList_push];refine List.pairwise_append.2 ⟨hp,by simp,fun a ha c hc=>?_⟩;obtain rfl:c=⟨x,v,clock⟩:=by simpa using hc
   exact h3 a ha
  ·rw [Array.toList_push];dsimp only;by_cases hy:y=x
   ·subst hy;rw [if_pos rfl];constructor
    ·intro hu;exact ⟨⟨y,v,clock⟩,by simp,rfl,by simpa using hu⟩
    ·rintro ⟨a,ha,ha1,ha2⟩;simp only [List.mem_append,List.mem_singleton] at ha;rcases ha with ha | rfl
     ·exact absurd ha1 (h3 a ha)
     ·simpa using ha2
   ·rw [if_neg hy,hM];constructor
    ·rintro ⟨a,ha,ha1,ha2⟩;exact ⟨a,by simp [ha],ha1,ha2⟩
    ·rintro ⟨a,ha,ha1,ha2⟩;simp only [List.mem_append,List.mem_singleton] at ha;rcases ha with ha | rfl
     ·exact ⟨a,ha,ha1,ha2⟩
     ·exact absurd ha1.symm hy
 ·have hj:es[j]?=some e0:=by simpa using h3
  have hjl:j < es.toList.length:=(List.getElem?_eq_some_iff.1 h3).1;have hlist:(es.modify j (fun e'=>{ e' with key:=x,val:=v })).toList=es.toList.set j { e0 with key:=x,val:=v }:=by rw [Array.toList_modify,Go.ChangeMaps.modify_eq_set _ _ _ _ h3]
  have hoth:∀ i (hi:i < es.toList.length),i≠j→es.toList[i].key≠x:=fun i hi hne=>by
   have hje:es.toList[j].key=x:=by
    have:=(List.getElem?_eq_some_iff.1 h3).2;rw [this]; exact h4
   rw [List.pairwise_iff_getElem] at hp;rcases Nat.lt_or_ge i j with hlt' | hge
   ·have:=hp i j hi hjl hlt';rw [hje] at this; exact this
   ·have:=hp j i hjl hi (by omega);rw [hje] at this; exact fun e=>this e.symm
  have who:∀ y∈es.toList.set j { e0 with key:=x,val:=v },y={ e0 with key:=x,val:=v }∨(y∈es.toList∧y.key≠x):=by
   intro y hy;obtain ⟨i,hi,ey⟩:=List.getElem_of_mem hy;rw [List.getElem_set] at ey;split at ey
   ·exact Or.inl ey.symm
   ·rename_i hne;have hi':i < es.toList.length:=by simpa using hi
    exact Or.inr ⟨ey ▸ List.getElem_mem hi',by rw [← ey]; exact hoth i hi' (fun e=>hne e.symm)⟩
  have wo:∀ y∈es.toList,y.key≠x→y∈es.toList.set j { e0 with key:=x,val:=v }:=by
   intro y hy hne;obtain ⟨i,hi,ey⟩:=List.getElem_of_mem hy;have hij:i≠j:=fun e=>by
    subst e;have:=(List.getElem?_eq_some_iff.1 h3).2;rw [ey] at this; rw [this] at hne; exact hne h4
   exact List.mem_iff_getElem.2 ⟨i,by simpa using hi,by rw [List.getElem_set_ne (fun e=>hij e.symm)]; exact ey⟩
  refine ⟨{ w with heap:=w.heap.setIfInBounds b (.map (es.modify j fun e'=>{ e' with key:=x,val:=v }) clock) },fun y=>if y=x then some v else M y,?_,⟨_,_,at_block w _ hlt,?_,?_,fun y u=>?_⟩,if_pos rfl,fun y hy=>if_neg hy,grown_block w b _,by simp⟩
  ·simp [Instr.mapUpdate,run_underlying ht,MapKept.run_getObj_map hb,K.check w false hx,h1,hj,h4,K.stays w hx,MapKept.run_setObj_map _ hb,Result.andThen]
  ·rw [hlist];intro y hy;rcases who y hy with rfl | ⟨hy',_⟩
   ·exact ⟨l,hx⟩
   ·exact hk y hy'
  ·rw [hlist,List.pairwise_iff_getElem];intro p q hpl hql hpq;rw [List.length_set] at hpl hql;rw [List.getElem_set,List.getElem_set];by_cases e1:j=p
   ·subst e1;rw [if_pos rfl,if_neg (by omega)];exact fun e=>hoth q hql (by omega) e.symm
   ·rw [if_neg e1];by_cases e2:j=q
    ·subst e2;rw [if_pos rfl];exact hoth p hpl (fun e=>e1 e.symm)
    ·rw [if_neg e2];exact (List.pairwise_iff_getElem.1 hp) p q hpl hql hpq
  ·rw [hlist];dsimp only;by_cases hy:y=x
   ·subst hy;rw [if_pos rfl];constructor
    ·intro hu;exact ⟨{ e0 with key:=y,val:=v },List.mem_iff_getElem.2 ⟨j,by simpa using hjl,by simp⟩,rfl,by simpa using hu⟩
    ·rintro ⟨a,ha,ha1,ha2⟩;rcases who a ha with rfl | ⟨_,hne⟩
     ·simpa using ha2
     ·exact absurd ha1 hne
   ·rw [if_neg hy,hM];constructor
    ·rintro ⟨a,ha,ha1,ha2⟩;exact ⟨a,wo a ha (by rw [ha1]; exact hy),ha1,ha2⟩
    ·rintro ⟨a,ha,ha1,ha2⟩;rcases who a ha with rfl | ⟨ha',_⟩
     ·exact absurd ha1.symm hy
     ·exact ⟨a,ha',ha1,ha2⟩
open Classical in
end
end Go.Proofs.YtdkepkaflielhaaGreatDoor
namespace Go.Proofs.YtdkepkaflielhaaGreatDoor
open Go.RowKit
theorem wp_look_val {P:Program} {o:Oper} {a:Act} {w:World} {v1 v2 v':Value} {K:Act→World→Prop} {Q:Exit→Act→World→Prop} (t:TypeId) (x ix:Operand) (ok:Bool) (hop:o.op=Op.lookup t x ix ok)
  (hs:a.eval x=v1) (hx:a.eval ix=v2) (hrun:(Instr.lookup t v1 v2 ok).run P w=.ok v' w) (hK:K (a.put o.dst v') w):Oper.wp P o a w K Q:=by
 unfold Oper.wp;simp [execOp,hop,hs,hx,hrun,Result.andThen];exact hK
theorem wpList_look_val {P:Program} {ops:Array Oper} {rest:List Oper} {o:Oper} {a:Act} {w:World} {v1 v2 v':Value} {Q:Exit→Act→World→Prop} (hg:o.guard=none) (t:TypeId) (x ix:Operand) (ok:Bool) (hop:o.op=Op.lookup t x ix ok)
  (hs:a.eval x=v1) (hx:a.eval ix=v2) (hrun:(Instr.lookup t v1 v2 ok).run P w=.ok v' w) (hK:wpList P ops Q rest (a.put o.dst v') w):wpList P ops Q (o::rest) a w :=
 wpList_plain hg fun K hK'=>wp_look_val t x ix ok hop hs hx hrun (hK' _ _ hK)
theorem wp_upd_val {P:Program} {o:Oper} {a:Act} {w w':World} {v1 v2 v3:Value} {K:Act→World→Prop} {Q:Exit→Act→World→Prop} (t:TypeId) (m x y:Operand) (hop:o.op=Op.mapUpdate t m x y)
  (hm:a.eval m=v1) (hx:a.eval x=v2) (hy:a.eval y=v3) (hrun:(Instr.mapUpdate t v1 v2 v3).run P w=.ok () w') (hK:K (a.put o.dst undef) w'):Oper.wp P o a w K Q:=by
 unfold Oper.wp;simp [execOp,hop,hm,hx,hy,hrun,Result.andThen];exact hK
open Go.PlainAid
open Go.Maps (Keyed)
def bkC (pa:Option Addr) (pc:Nat) (p:Pl) (a b:Option Addr) (ca cb:Nat) (x:Bb) (m1 m2:Nat):Value:=.agg (KkV pa pc p a ca b cb x m1 m2).toArray
def EnIn (e:En):Prop:=e.addr.size≤1048576∧In64t e.proto∧In64t e.port
def BdGood (q:Bd):Prop:=q.inn.size≤1048576∧q.out.size≤1048576∧In64t q.proto∧In64t q.inPort∧In64t q.outPort
def SsGood (s:Ss):Prop:=s.inn.size≤1048576∧s.peer.size≤1048576∧In64t s.proto∧In64t s.inPort
theorem hostE_in {q:Bd} (h:BdGood q):EnIn (hostE q):=⟨h.1,h.2.2.1,h.2.2.2.1⟩
theorem lentE_in {q:Bd} (h:BdGood q):EnIn (lentE q):=⟨h.2.1,h.2.2.1,h.2.2.2.2⟩
theorem sessE_in {s:Ss} (h:SsGood s):EnIn (sessE s):=⟨h.1,h.2.2.1,h.2.2.2⟩
theorem sameEn_iff (q p:En):sameEn q p=true↔q=p:=by
 rw [sameEn_eq];simp only [Bool.and_eq_true,decide_eq_true_iff];constructor
 ·rintro ⟨⟨h1,h2⟩,h3⟩;have h4:q.addr=p.addr:=by
   rw [ByteArray.toList_eq,ByteArray.toList_eq] at h2;apply ByteArray.ext;exact Array.toList_inj.1 h2
  cases q; cases p; simp_all
 ·rintro rfl; simp
theorem enC_inj {q p:En} (h:enC q=enC p):q=p:=by
 unfold enC at h;simp at h
 cases q; cases p; simp_all
theorem find_some_any {α:Type} (f:α→Bool) (xs:List α):(xs.find? f).isSome=xs.any f:=by
 rw [Bool.eq_iff_iff,List.find?_isSome,List.any_eq_true]
theorem keyed_en:Keyed Tryz.prog 86:=Keyed.of_law (deep_law_gate (by kernel_rfl) (of_decide_eq_true (by kernel_rfl)) (of_decide_eq_true (by kernel_rfl)) (by kernel_rfl) (by kernel_rfl))
theorem wf64b {n:Int} (h:In64t n):(Lit.int .i64 n).wf=true:=by
 simp [Lit.wf]; exact ⟨h.1,h.2⟩
theorem keyOf_en (e:En) (h:EnIn e):∃ l,keyOf Tryz.prog 86 (enC e)=some l:=by
 obtain ⟨h1,h3,h4⟩:=h;have h1:e.addr.size≤maxLen:=by unfold maxLen; omega
 have k1:Tryz.prog.keyType 86=true:=by kernel_rfl
 have k2:Tryz.prog.cellsOf 86=3:=by kernel_rfl
 have k3:Tryz.prog.cellsOf 9=1:=by kernel_rfl
 have k4:Tryz.prog.cellsOf 2=1:=by kernel_rfl
 have k5:∃ m,Tryz.prog.types.size+1=m+2:=⟨Tryz.prog.types.size-1,by have:1≤Tryz.prog.types.size:=of_decide_eq_true (by kernel_rfl); omega⟩;obtain ⟨m,k5⟩:=k5;have w3:=wf64b h3;have w4:=wf64b h4;unfold keyOf;rw [Tryz.underlying86];simp only [k1,Value.formed,enC,Tryz.underlying86,k2,Value.cells,k5];simp [Program.keyLits,Tryz.underlying86,Tryz.underlying9,Tryz.underlying2,k2,k3,k4,h1,w3,w4]
theorem zero_bd (w:World):(zeroValue 48).run Tryz.prog w=.ok (bdC bdZ) w:=by kernel_rfl
structure BookOf (w:World) (m1 m2:Nat) (xs ys:List Bd) (M1 M2:Value→Option Value):Prop where
 h1:MapAt Tryz.prog 86 w m1 M1
 h2:MapAt Tryz.prog 86 w m2 M2
 v1:∀ e:En,M1 (enC e)=(xs.find? fun q=>sameEn (hostE q) e).map bdC
 v2:∀ e:En,M2 (enC e)=(ys.find? fun q=>sameEn (lentE q) e).map bdC
 ne:m1≠m2
def BookAt (w:World) (m1 m2:Nat) (xs ys:List Bd):Prop:=∃ M1 M2,BookOf w m1 m2 xs ys M1 M2
section
variable {w W:World} {m1 m2:Nat} {xs ys:List Bd}
theorem BookAt.kept (h:BookAt w m1 m2 xs ys) (hb:Below w.heap.size w W):BookAt W m1 m2 xs ys:=by
 obtain ⟨M1,M2,h⟩:=h;exact ⟨M1,M2,h.h1.below hb,h.h2.below hb,h.v1,h.v2,h.ne⟩
theorem BookAt.lt (h:BookAt w m1 m2 xs ys):m1 < w.heap.size∧m2 < w.heap.size∧m1≠m2:=by
 obtain ⟨M1,M2,h⟩:=h;exact ⟨h.h1.lt,h.h2.lt,h.ne⟩
theorem BookAt.made {w:World}:BookAt ((w.alloc (.map #[] 0)).alloc (.map #[] 0)) w.heap.size (w.heap.size+1) [] []:=by
 have h2:=MapAt.made (P:=Tryz.prog) (k:=86) (w.alloc (.map #[] 0));rw [World.size_alloc] at h2;refine ⟨fun _=>none,fun _=>none,(MapAt.made w).below ((Below.refl _ _).alloc (Nat.le_refl _) _),h2,fun e=>rfl,fun e=>rfl,by omega⟩
theorem map_get (o:Option Bd):(o.map bdC).getD (bdC bdZ)=bdC (o.getD bdZ):=by cases o<;>rfl
theorem BookAt.look1 (h:BookAt w m1 m2 xs ys) {e:En} (he:EnIn e):(Instr.lookup 137 (.map (some m1)) (enC e) true).run Tryz.prog w=.ok (.tuple #[bdC ((xs.find? fun q=>sameEn (hostE q) e).getD bdZ),.bool (xs.find? fun q=>sameEn (hostE q) e).isSome]) w:=by
 obtain ⟨M1,M2,h⟩:=h;obtain ⟨l,hl⟩:=keyOf_en e he;have h1:=(h.h1.look (t:=137) keyed_en Tryz.underlying137 hl (zero_bd w)).2;rw [h.v1,map_get,Option.isSome_map] at h1;exact h1
theorem BookAt.get1 (h:BookAt w m1 m2 xs ys) {e:En} (he:EnIn e):(Instr.lookup 137 (.map (some m1)) (enC e) false).run Tryz.prog w=.ok (bdC ((xs.find? fun q=>sameEn (hostE q) e).getD bdZ)) w:=by
 obtain ⟨M1,M2,h⟩:=h;obtain ⟨l,hl⟩:=keyOf_en e he;have h1:=(h.h1.look (t:=137) keyed_en Tryz.underlying137 hl (zero_bd w)).1;rw [h.v1,map_get] at h1;exact h1
theorem BookAt.look2 (h:BookAt w m1 m2 xs ys) {e:En} (he:EnIn e):(Instr.lookup 137 (.map (some m2)) (enC e) true).run Tryz.prog w=.ok (.tuple #[bdC ((ys.find? fun q=>sameEn (lentE q) e).getD bdZ),.bool (ys.find? fun q=>sameEn (lentE q) e).isSome]) w:=by
 obtain ⟨M1,M2,h⟩:=h;obtain ⟨l,hl⟩:=keyOf_en e he;have h1:=(h.h2.look (t:=137) keyed_en Tryz.underlying137 hl (zero_bd w)).2;rw [h.v2,map_get,Option.isSome_map] at h1;exact h1
theorem find_snoc (E:Bd→En) (xs:List Bd) (q:Bd) (hn:xs.any (fun c=>sameEn (E c) (E q))=false) (M M':Value→Option Value) (hM:∀ e:En,M (enC e)=(xs.find? fun c=>sameEn (E c) e).map bdC) (h1:M' (enC (E q))=some (bdC q)) (h2:∀ y,y≠enC (E q)→M' y=M y) (e:En):M' (enC e)=((xs++[q]).find? fun c=>sameEn (E c) e).map bdC:=by
 rw [List.find?_append];by_cases he:e=E q
 ·subst he;have h0:xs.find? (fun c=>sameEn (E c) (E q))=none:=List.find?_eq_none.2 (fun c hc=>List.any_eq_false.1 hn c hc);have hs:sameEn (E q) (E q)=true:=(sameEn_iff _ _).2 rfl;rw [h0,h1]; simp [hs]
 ·have hs:sameEn (E q) e=false:=by
   cases h:sameEn (E q) e with
   | false=>rfl
   | true=>exact absurd ((sameEn_iff _ _).1 h).symm he
  rw [h2 _ (fun h=>he (enC_inj h)),hM];simp [hs]
theorem BookAt.put1 (h:BookAt w m1 m2 xs ys) {q:Bd} (hq:EnIn (hostE q)) (hn:xs.any (fun c=>sameEn (hostE c) (hostE q))=false) :
  ∃ W,(Instr.mapUpdate 137 (.map (some m1)) (enC (hostE q)) (bdC q)).run Tryz.prog w=.ok () W∧BookAt W m1 m2 (xs++[q]) ys∧w.grownBy W (some m1):=by
 obtain ⟨M1,M2,h⟩:=h;obtain ⟨l,hl⟩:=keyOf_en _ hq;obtain ⟨W,M',hup,hM',hx,hoth,hg,hs⟩:=h.h1.put (v:=bdC q) keyed_en Tryz.underlying137 hl;exact ⟨W,hup,⟨M',M2,hM',h.h2.grown hg (by simp; exact fun e=>h.ne e.symm),find_snoc hostE xs q hn M1 M' h.v1 hx hoth,h.v2,h.ne⟩,hg⟩
theorem BookAt.put2 (h:BookAt w m1 m2 xs ys) {q:Bd} (hq:EnIn (lentE q)) (hn:ys.any (fun c=>sameEn (lentE c) (lentE q))=false) :
  ∃ W,(Instr.mapUpdate 137 (.map (some m2)) (enC (lentE q)) (bdC q)).run Tryz.prog w=.ok () W∧BookAt W m1 m2 xs (ys++[q])∧w.grownBy W (some m2):=by
 obtain ⟨M1,M2,h⟩:=h;obtain ⟨l,hl⟩:=keyOf_en _ hq;obtain ⟨W,M',hup,hM',hx,hoth,hg,hs⟩:=h.h2.put (v:=bdC q) keyed_en Tryz.underlying137 hl;exact ⟨W,hup,⟨M1,M',h.h1.grown hg (by simp; exact h.ne),hM',h.v1,find_snoc lentE ys q hn M2 M' h.v2 hx hoth,h.ne⟩,hg⟩
end
def IsZd (base:Nat):Value→World→Prop:=fun v w=>∃ g,v=.pointer (some ⟨g,0,none⟩)∧base≤g∧HoldsL w g (bdL bdZ)
theorem stable_isZd (base:Nat):Stable (IsZd base):=fun v w w' ⟨g,h1,h2,h3⟩ hb=>⟨g,h1,h2,h3.kept (by simp [bdL]) hb⟩
end Go.Proofs.YtdkepkaflielhaaGreatDoor
namespace Go.Proofs.YtdkepkaflielhaaGreatDoor
open Go.RowKit Go.PlainAid
theorem implPool_any (p:Pl) (a:Option Addr) (cap:Nat) (w:World) (hl:p.addrs.length≤1048576) (hcap:p.addrs.length≤cap) (hsz:∀ s∈p.addrs,s.size≤1048576) (hr:SlIs strL1 1 w a p.addrs) :
  Cb 132 #[plC a cap p] w (.bool (poolOk p)):=by
 have hun:undef=Value.tuple #[]:=rfl;have GA:Hid (Below w.heap.size w (w.alloc (.cells (PlV a cap p).toArray 27))):=(Below.refl _ _).alloc (Nat.le_refl _) _;have H0:Hid (HoldsL (w.alloc (.cells (PlV a cap p).toArray 27)) w.heap.size (PlV a cap p)):=HoldsL.new w (PlV a cap p) 27;have HA:Hid (∀ W,Below w.heap.size w W→Cb 163 #[.slice a p.addrs.length cap] W (.bool (poolA p.addrs))):=fun W hW=>implPoolA_any p.addrs a cap W hl hcap hsz (hr.below hW)
 have HL:Hid (∀ W,Cb 147 #[lvC p.lv] W (.bool (livesOk p.lv))):=fun W=>implLives_any p.lv W
 have HV:Hid (poolOk p=(poolA p.addrs&&decide (1≤p.low)&&decide (p.low≤p.high)&&decide (p.high≤65535)&&decide (1≤p.most)&&decide (p.most≤60)&&decide (0≤p.filter)&&decide (p.filter≤2)&&livesOk p.lv)):=by
  unfold Hid poolOk poolA isIn;generalize livesOk p.lv=x1;generalize upN addrOne p.addrs p.addrs.length=x2;rw [Bool.eq_iff_iff]; simp only [Bool.and_eq_true];constructor
  ·intro h; simp_all
  ·intro h; simp_all
 generalize poolOk p=ans at *;generalize poolA p.addrs=bA at *;generalize livesOk p.lv=bL at *;clear hr hsz;unfold plC;unfold lvC at HL;go_enter Tryz.func132,Tryz.ntmps132
 go_wp2_with fail
 refine (HA.out _ GA.out).mono ?_;rintro e w1 ⟨rfl,q1⟩;have G1:Hid _:=GA.out.trans (q1.mono GA.out.size);have K1:=H0.out.kept (by simp) q1;obtain ⟨k0,k1,k2,k3,k4,k5,k6,k7,k8,k9⟩:=K1.c10;clear q1 K1 H0 GA HA
 cases bA with
 | false =>
  have HX:Hid (ans=false):=by unfold Hid; rw [HV.out]; simp
  go_wp2_with fail
  go_ret;exact ⟨ret_bool HX.out.symm,G1.out⟩
 | true =>
  by_cases t0:1≤p.low
  case neg =>
   have HX:Hid (ans=false):=by unfold Hid; rw [HV.out,decide_eq_false t0]; simp
   have d0:decide (1≤p.low)=false:=decide_eq_false t0;go_wp2_with fail
   go_ret;exact ⟨ret_bool HX.out.symm,G1.out⟩
  have d0:decide (1≤p.low)=true:=decide_eq_true t0;by_cases t1:p.low≤p.high
  case neg =>
   have HX:Hid (ans=false):=by unfold Hid; rw [HV.out,decide_eq_false t1]; simp
   have d1:decide (p.low≤p.high)=false:=decide_eq_false t1;go_wp2_with fail
   go_ret;exact ⟨ret_bool HX.out.symm,G1.out⟩
  have d1:decide (p.low≤p.high)=true:=decide_eq_true t1;by_cases t2:p.high≤65535
  case neg =>
   have HX:Hid (ans=false):=by unfold Hid; rw [HV.out,decide_eq_false t2]; simp
   have d2:decide (p.high≤65535)=false:=decide_eq_false t2;go_wp2_with fail
   go_ret;exact ⟨ret_bool HX.out.symm,G1.out⟩
  have d2:decide (p.high≤65535)=true:=decide_eq_true t2;by_cases t3:1≤p.most
  case neg =>
   have HX:Hid (ans=false):=by unfold Hid; rw [HV.out,decide_eq_false t3]; simp
   have d3:decide (1≤p.most)=false:=decide_eq_false t3;go_wp2_with fail
   go_ret;exact ⟨ret_bool HX.out.symm,G1.out⟩
  have d3:decide (1≤p.most)=true:=decide_eq_true t3;by_cases t4:p.most≤60
  case neg =>
   have HX:Hid (ans=false):=by unfold Hid; rw [HV.out,decide_eq_false t4]; simp
   have d4:decide (p.most≤60)=false:=decide_eq_false t4;go_wp2_with fail
   go_ret;exact ⟨ret_bool HX.out.symm,G1.out⟩
  have d4:decide (p.most≤60)=true:=decide_eq_true t4;by_cases t5:0≤p.filter
  case neg =>
   have HX:Hid (ans=false):=by unfold Hid; rw [HV.out,decide_eq_false t5]; simp
   have d5:decide (0≤p.filter)=false:=decide_eq_false t5;go_wp2_with fail
   go_ret;exact ⟨ret_bool HX.out.symm,G1.out⟩
  have d5:decide (0≤p.filter)=true:=decide_eq_true t5;by_cases t6:p.filter≤2
  case neg =>
   have HX:Hid (ans=false):=by unfold Hid; rw [HV.out,decide_eq_false t6]; simp
   have d6:decide (p.filter≤2)=false:=decide_eq_false t6;go_wp2_with fail
   go_ret;exact ⟨ret_bool HX.out.symm,G1.out⟩
  have d6:decide (p.filter≤2)=true:=decide_eq_true t6;have HX:Hid (ans=bL):=by unfold Hid; rw [HV.out,decide_eq_true t0,decide_eq_true t1,decide_eq_true t2,decide_eq_true t3,decide_eq_true t4,decide_eq_true t5,decide_eq_true t6]; rfl
  go_wp2_with fail
  refine (HL.out _).mono ?_;rintro e w2 ⟨rfl,q2⟩;have G2:Hid _:=G1.out.trans (q2.mono G1.out.size);clear q2;go_wp2_with fail
  go_ret;exact ⟨ret_bool HX.out.symm,G2.out⟩
end Go.Proofs.YtdkepkaflielhaaGreatDoor
/- GrowW: as GrowV, for regions whose last two operations wait for one another, the first of them for all the others but one, which may be late: the last one waits for it. -/
namespace Go.Proofs.YtdkepkaflielhaaGreatDoor
open Go.RowKit Go.ChangeShapes
set_option linter.unusedVariables false
set_option linter.unusedSimpArgs false

section
variable {P : Program} {ops : Array Oper} {Q : Exit → Act → World → Prop} {ds : List Tmp} {R : Nat → Value → World → Prop} {a0 : Act} {w0 : World} {f : Nat} {fo s0 s1 : Oper}

structure GFormW (ops : Array Oper) (ds : List Tmp) (n f : Nat) : Prop where
 le : ops.size = ds.length + 2
 fl : f < ds.length
 dst : ∀ i o, i < ds.length → ops[i]? = some o → o.dst = some (ds.getD i 0)
 nodup : ds.Nodup
 fits : ∀ d ∈ ds, d < n
 topo : ∀ i o, ops[i]? = some o → ∀ e ∈ o.after, Region.binds .any e = true → e.on < i
 nof : ∀ i o, i ≤ ds.length → ops[i]? = some o → ∀ e ∈ o.after, Region.binds .any e = true → e.on ≠ f
 sguard : ∀ i o, (ds.length ≤ i ∨ i = f) → ops[i]? = some o → o.guard = none
 all0 : ∀ o, ops[ds.length]? = some o → ∀ j, j < ds.length → j ≠ f → ∃ e ∈ o.after, Region.binds .any e = true ∧ e.on = j
 all1 : ∀ o, ops[ds.length + 1]? = some o → (∃ e ∈ o.after, Region.binds .any e = true ∧ e.on = f) ∧ ∃ e ∈ o.after, Region.binds .any e = true ∧ e.on = ds.length

def gformW (ops : Array Oper) (ds : List Tmp) (n f : Nat) : Bool :=
 decide (ops.size = ds.length + 2) && decide (f < ds.length) && (List.range ops.size).all (fun i => match ops[i]? with
  | some o => o.after.all (fun e => !Region.binds .any e || decide (e.on < i)) && (if i < ds.length then (match o.dst with | some d => d == ds.getD i 0 | none => false) else true) && (if ds.length ≤ i ∨ i = f then o.guard.isNone else true) && (if i ≤ ds.length then o.after.all (fun e => !Region.binds .any e || decide (e.on ≠ f)) else true)
  | none => true) && decide ds.Nodup && ds.all (fun d => decide (d < n)) &&
 (match ops[ds.length]? with | some o => (List.range ds.length).all (fun j => decide (j = f) || o.after.any (fun e => Region.binds .any e && e.on == j)) | none => true) &&
 (match ops[ds.length + 1]? with | some o => o.after.any (fun e => Region.binds .any e && e.on == f) && o.after.any (fun e => Region.binds .any e && e.on == ds.length) | none => true)
theorem GFormW.of {n : Nat} (h : gformW ops ds n f = true) : GFormW ops ds n f := by
 unfold gformW at h
 simp only [Bool.and_eq_true, decide_eq_true_iff, List.all_eq_true, List.mem_range] at h
 obtain ⟨⟨⟨⟨⟨⟨h1, h2⟩, h3⟩, h4⟩, h5⟩, h6⟩, h7⟩ := h
 have hb : ∀ i o, ops[i]? = some o → i < ops.size := fun i o ho => (Array.getElem?_eq_some_iff.1 ho).1
 have h3' : ∀ i o, ops[i]? = some o → (o.after.all (fun e => !Region.binds .any e || decide (e.on < i)) = true ∧ (if i < ds.length then (match o.dst with | some d => d == ds.getD i 0 | none => false) else true) = true ∧ (if ds.length ≤ i ∨ i = f then o.guard.isNone else true) = true ∧ (if i ≤ ds.length then o.after.all (fun e => !Region.binds .any e || decide (e.on ≠ f)) else true) = true) := fun i o ho => by
  have := h3 i (hb i o ho)
  rw [ho] at this
  simp only [Bool.and_eq_true] at this
  exact ⟨this.1.1.1, this.1.1.2, this.1.2, this.2⟩
 refine ⟨h1, h2, fun i o hi ho => ?_, h4, h5, fun i o ho e he hbd => ?_, fun i o hi ho e he hbd => ?_, fun i o hi ho => ?_, fun o ho j hj hjf => ?_, fun o ho => ?_⟩
 ·have t1 := (h3' i o ho).2.1
  rw [if_pos hi] at t1
  cases hd : o.dst with
  | none => rw [hd] at t1; simp at t1
  | some d => rw [hd] at t1; simp at t1; rw [t1]; simp
 ·have := Array.all_eq_true_iff_forall_mem.1 (h3' i o ho).1 e he
  simp [hbd] at this
  exact this
 ·have t1 := (h3' i o ho).2.2.2
  rw [if_pos hi] at t1
  have := Array.all_eq_true_iff_forall_mem.1 t1 e he
  simp [hbd] at this
  exact this
 ·have t1 := (h3' i o ho).2.2.1
  rw [if_pos hi] at t1
  simpa using t1
 ·rw [ho] at h6
  simp only [List.all_eq_true, List.mem_range] at h6
  have := h6 j hj
  simp only [Bool.or_eq_true, decide_eq_true_iff] at this
  rcases this with this | this
  ·exact absurd this hjf
  ·obtain ⟨e, he, hbd⟩ := Array.any_eq_true'.1 this
   simp only [Bool.and_eq_true, beq_iff_eq] at hbd
   exact ⟨e, he, hbd.1, hbd.2⟩
 ·rw [ho] at h7
  simp only [Bool.and_eq_true] at h7
  obtain ⟨e, he, hbd⟩ := Array.any_eq_true'.1 h7.1
  obtain ⟨e2, he2, hbd2⟩ := Array.any_eq_true'.1 h7.2
  simp only [Bool.and_eq_true, beq_iff_eq] at hbd hbd2
  exact ⟨⟨e, he, hbd.1, hbd.2⟩, ⟨e2, he2, hbd2.1, hbd2.2⟩⟩

/-- All but those of us are listed, the first of which alone is ready: they go one behind the other. -/
theorem wpAny_forced : ∀ (us : List Nat) (fuel : Nat) (listed : Array Bool) (a : Act) (w : World) (os : List Oper), listed.size = ops.size → us.length = os.length → us.length ≤ fuel → us.Nodup →
  (∀ (k u : Nat) (o : Oper), us[k]? = some u → os[k]? = some o → ops[u]? = some o ∧ o.guard = none) →
  (∀ j, j < ops.size → (listed.getD j false = false ↔ j ∈ us)) →
  (∀ (k u : Nat) (o : Oper), us[k]? = some u → ops[u]? = some o → ∀ e ∈ o.after, Region.binds .any e = true → e.on < ops.size ∧ e.on ∉ us.drop k) →
  (∀ (k u : Nat) (o : Oper), us[k + 1]? = some u → ops[u]? = some o → ∃ e ∈ o.after, Region.binds .any e = true ∧ ∃ k', us[k]? = some k' ∧ e.on = k') →
  wpSeq P Q os a w → wpAny P .any ops Q fuel listed a w
 | [], fuel, listed, a, w, os, hsz, hl, hf, hnd, ho, hu, hd, hw, hq => by
  have : os = [] := List.length_eq_zero_iff.1 (by simpa using hl.symm)
  subst this
  refine wpAny_done ?_ hq fuel
  rw [List.eq_nil_iff_forall_not_mem]
  intro i hi
  rw [mem_ready] at hi
  obtain ⟨h0, o, ho, _⟩ := hi
  have hio := (Array.getElem?_eq_some_iff.1 ho).1
  have hs : i < listed.size := by omega
  have := (hu i hio).1 (by simpa [hs] using h0)
  simp at this
 | u :: us, 0, listed, a, w, os, hsz, hl, hf, _, _, _, _, _, _ => by simp at hf
 | u :: us, fuel + 1, listed, a, w, os, hsz, hl, hf, hnd, ho, hu, hd, hw, hq => by
  obtain ⟨o, os', rfl⟩ : ∃ o os', os = o :: os' := by
   cases os with
   | nil => simp at hl
   | cons o os' => exact ⟨o, os', rfl⟩
  obtain ⟨hou, hog⟩ := ho 0 u o rfl rfl
  have huo : u < ops.size := (Array.getElem?_eq_some_iff.1 hou).1
  have ft : ∀ j, j < ops.size → listed.getD j true = listed.getD j false := fun j hj => by simp [show j < listed.size by omega]
  refine ⟨fun hr => ?_, fun i hi => ?_⟩
  ·exfalso
   have hmem : u ∈ Region.ready .any ops listed := by
    rw [mem_ready]
    refine ⟨by rw [ft u huo]; exact (hu u huo).2 (by simp), o, hou, fun e he hb => ?_⟩
    obtain ⟨h1, h2⟩ := hd 0 u o rfl hou e he hb
    have : ¬ listed.getD e.on false = false := fun h => h2 (by simpa using (hu _ h1).1 h)
    simpa using this
   rw [hr] at hmem
   simp at hmem
  ·rw [mem_ready] at hi
   obtain ⟨h0, oi, hoi, hdeps⟩ := hi
   have hio := (Array.getElem?_eq_some_iff.1 hoi).1
   have hin : i ∈ u :: us := (hu i hio).1 (by rw [← ft i hio]; exact h0)
   have hiu : i = u := by
    obtain ⟨k, hk⟩ := List.getElem?_of_mem hin
    cases k with
    | zero => simp at hk; exact hk.symm
    | succ k =>
     exfalso
     obtain ⟨e, he, hb, k', hk', hon⟩ := hw k i oi hk hoi
     have h1 := hdeps e he hb
     have h2 : e.on ∈ u :: us := by rw [hon]; exact List.mem_of_getElem? hk'
     have h3 := (hu e.on (hd (k + 1) i oi hk hoi e he hb).1).2 h2
     rw [h3] at h1; simp at h1
   subst hiu
   obtain rfl : o = oi := by rw [hou] at hoi; exact Option.some.inj hoi
   refine wpOp_step hou (fun K' hK => ?_)
   rw [if_pos (by unfold Region.wanted; rw [hog])]
   refine hq K' (fun a' w' h' => hK _ _ ?_)
   refine wpAny_forced us fuel _ a' w' os' (by simp [hsz]) (by simpa using hl) (by simpa using hf) (List.nodup_cons.1 hnd).2 (fun k u' o' h1 h2 => ho (k + 1) u' o' (by simpa using h1) (by simpa using h2)) (fun j hj => ?_) (fun k u' o' h1 h2 e he hb => by have := hd (k + 1) u' o' (by simpa using h1) h2 e he hb; simpa using this) (fun k u' o' h1 h2 => by
    obtain ⟨e, he, hb, k', hk', hon⟩ := hw (k + 1) u' o' (by simpa using h1) h2
    exact ⟨e, he, hb, k', by simpa using hk', hon⟩) h'
   by_cases e : i = j
   ·subst e
    have hs : i < listed.size := by omega
    simp [hs]
    exact (List.nodup_cons.1 hnd).1
   ·rw [getD_set_ne false e, hu j hj]
    simp [Ne.symm e]

theorem wpAny_growW (hF : GFormW ops ds a0.tmps.size f) (hof : ops[f]? = some fo) (h0 : ops[ds.length]? = some s0) (h1 : ops[ds.length + 1]? = some s1) (hst : ∀ i v w w', R i v w → Below w.heap.size w w' → R i v w')
  (hstep : ∀ i o, i < ds.length → ops[i]? = some o → GStepG P ops Q ds R a0 w0 i o)
  (hdone : ∀ a w, a.tmps.size = a0.tmps.size → a.defers = a0.defers → (∀ t, t ∉ ds → slot a t = slot a0 t) → (∀ i, i < ds.length → R i (slot a (ds.getD i 0)) w) → Below w0.heap.size w0 w → wpSeq P Q [s0, s1] a w)
  (hlate : ∀ a w, a.tmps.size = a0.tmps.size → a.defers = a0.defers → (∀ t, t ∉ ds → slot a t = slot a0 t) → (∀ i, i < ds.length → i ≠ f → R i (slot a (ds.getD i 0)) w) → slot a (ds.getD f 0) = slot a0 (ds.getD f 0) → Below w0.heap.size w0 w → wpSeq P Q [s0, fo, s1] a w) :
  ∀ (fuel : Nat) (listed : Array Bool) (a : Act) (w : World), unl listed ops.size ≤ fuel → GInv ops ds R a0 w0 listed a w → (∀ j, j < ops.size → ds.length ≤ j → listed.getD j false = false) → (listed.getD f false = false → slot a (ds.getD f 0) = slot a0 (ds.getD f 0)) → wpAny P .any ops Q fuel listed a w := by
 have ft : ∀ (listed : Array Bool) (j : Nat), j < listed.size → (listed.getD j true = listed.getD j false) := fun listed j hj => by simp [hj]
 have hle := hF.le
 have hfl := hF.fl
 have cnt : ∀ (listed : Array Bool) (us : List Nat), listed.size = ops.size → us.Nodup → (∀ u ∈ us, u < ops.size ∧ listed.getD u false = false) → us.length ≤ unl listed ops.size := by
  intro listed us hsz hnd hu
  have key : ∀ n (us : List Nat), n ≤ ops.size → us.Nodup → (∀ u ∈ us, u < n ∧ listed.getD u false = false) → us.length ≤ unl listed n := by
   intro n
   induction n with
   | zero => intro us _ _ h; cases us with | nil => simp | cons u us => have := (h u (by simp)).1; omega
   | succ n ihn =>
    intro us hn hnd h
    unfold unl
    by_cases hm : n ∈ us
    ·have e1 := ihn (us.erase n) (by omega) (hnd.erase n) (fun u hu => by
      have h2 := List.mem_of_mem_erase hu
      have h3 : u ≠ n := fun e => by subst e; exact (List.Nodup.not_mem_erase hnd) hu
      have := h u h2
      exact ⟨by omega, this.2⟩)
     rw [List.length_erase_of_mem hm] at e1
     rw [if_neg (by rw [ft listed n (by omega), (h n hm).2]; simp)]
     omega
    ·have e1 := ihn us (by omega) hnd (fun u hu => by
      have := h u hu
      have h3 : u ≠ n := fun e => by subst e; exact hm hu
      exact ⟨by omega, this.2⟩)
     split <;> omega
  exact key _ us (Nat.le_refl _) hnd hu
 intro fuel
 induction fuel with
 | zero =>
  intro listed a w hu hI hs hlt
  exfalso
  have := cnt listed [ds.length] hI.size (by simp) (fun u hu => by simp at hu; subst hu; exact ⟨by omega, hs _ (by omega) (Nat.le_refl _)⟩)
  simp at this; omega
 | succ fuel ih =>
  intro listed a w hu hI hs hlt
  have late : (∀ j, j < ds.length → j ≠ f → listed.getD j false = true) → wpAny P .any ops Q (fuel + 1) listed a w ∨ listed.getD f false = false := fun hall => by
   cases hff : listed.getD f false with
   | false => exact .inr rfl
   | true =>
    refine .inl ?_
    refine wpAny_forced [ds.length, ds.length + 1] (fuel + 1) listed a w [s0, s1] hI.size rfl ?_ (by simp) ?_ ?_ ?_ ?_ (hdone a w hI.tsize hI.defers hI.outer (fun j hj => hI.inner j (if e : j = f then (by rw [e]; exact hff) else hall j hj e)) hI.below)
    ·exact Nat.le_trans (cnt listed [ds.length, ds.length + 1] hI.size (by simp) (fun u hu => by simp at hu; rcases hu with rfl | rfl <;> exact ⟨by omega, hs _ (by omega) (by omega)⟩)) hu
    ·intro k u o hk ho
     match k, hk, ho with
     | 0, hk, ho => simp at hk ho; subst hk ho; exact ⟨h0, hF.sguard _ _ (.inl (Nat.le_refl _)) h0⟩
     | 1, hk, ho => simp at hk ho; subst hk ho; exact ⟨h1, hF.sguard _ _ (.inl (by omega)) h1⟩
     | k + 2, hk, ho => simp at hk
    ·intro j hj
     constructor
     ·intro h
      by_cases e : j < ds.length
      ·exfalso
       by_cases e2 : j = f
       ·subst e2; rw [hff] at h; simp at h
       ·rw [hall j e e2] at h; simp at h
      ·simp; omega
     ·intro h; simp at h; exact hs j hj (by omega)
    ·intro k u o hk ho e he hb
     match k, hk with
     | 0, hk => simp at hk; subst hk; have := hF.topo _ o ho e he hb; exact ⟨by omega, by simp; omega⟩
     | 1, hk => simp at hk; subst hk; have := hF.topo _ o ho e he hb; exact ⟨by omega, by simp; omega⟩
     | k + 2, hk => simp at hk
    ·intro k u o hk ho
     match k, hk with
     | 0, hk => simp at hk; subst hk; obtain ⟨_, e, he, hb, hon⟩ := hF.all1 o ho; exact ⟨e, he, hb, ds.length, rfl, hon⟩
     | k + 1, hk => simp at hk
  by_cases hall : ∀ j, j < ds.length → listed.getD j false = true
  ·rcases late (fun j hj _ => hall j hj) with h | h
   ·exact h
   ·rw [hall f hfl] at h; simp at h
  ·refine ⟨fun hr => ?_, fun i hi => ?_⟩
   ·exfalso
    refine hall (fun i => ?_)
    induction i using Nat.strongRecOn with
    | ind i ih2 =>
     intro hil
     have hio : i < ops.size := by omega
     by_cases hh : listed.getD i true = true
     ·rw [ft listed i (by rw [hI.size]; exact hio)] at hh; exact hh
     ·exfalso
      have hmem : i ∈ Region.ready .any ops listed := by
       rw [mem_ready]
       refine ⟨by simpa using hh, ops[i], by simp [hio], fun e he hb => ?_⟩
       have hlt := hF.topo i ops[i] (by simp [hio]) e he hb
       exact ih2 _ hlt (by omega)
      rw [hr] at hmem
      simp at hmem
   ·rw [mem_ready] at hi
    obtain ⟨hi0, o, ho, hdeps⟩ := hi
    have hio : i < ops.size := (Array.getElem?_eq_some_iff.1 ho).1
    by_cases hil : i < ds.length
    ·have hd := hF.dst i o hil ho
     have hmem : ds.getD i 0 ∈ ds := by rw [getD_at hil]; exact List.getElem_mem hil
     refine wpOp_step ho (fun K' hK => ?_)
     refine hstep i o hil ho K' a w hI.outer (fun e he hb => hI.inner _ (hdeps e he hb)) hI.below (fun v w' hR hB => hK _ _ ?_)
     refine ih _ _ _ (by have := unl_set hi0 ops.size hio; omega) ⟨by simp [hI.size], ?_, ?_, fun t ht => ?_, fun j hj => ?_, hI.below.trans (hB.mono hI.below.size)⟩ (fun j hj hn => by rw [getD_set_ne false (by omega)]; exact hs j hj hn) ?_
     ·rw [hd]; simp [Act.put, hI.tsize]
     ·rw [hd]; simp [Act.put, hI.defers]
     ·rw [hd, slot_put_ne (show ds.getD i 0 ≠ t from fun e => ht (e ▸ hmem))]; exact hI.outer t ht
     ·rw [hd]
      by_cases e : i = j
      ·subst e
       rw [slot_put_eq (by rw [hI.tsize]; exact hF.fits _ hmem)]
       exact hR
      ·rw [getD_set_ne false e] at hj
       have hjo : j < ops.size := by
        rw [← hI.size]
        rcases Nat.lt_or_ge j listed.size with h' | h'
        ·exact h'
        ·simp [Array.getElem?_eq_none h'] at hj
       have hjl : j < ds.length := by
        by_cases e2 : j < ds.length
        ·exact e2
        ·rw [hs j hjo (by omega)] at hj; simp at hj
       rw [slot_put_ne (nodup_ne hF.nodup hil hjl e)]
       exact hst _ _ _ _ (hI.inner j hj) hB
     ·intro hff
      by_cases e : i = f
      ·subst e
       have hsz : i < listed.size := by rw [hI.size]; exact hio
       simp [hsz] at hff
      ·rw [getD_set_ne false e] at hff
       rw [hd, slot_put_ne (nodup_ne hF.nodup hil hfl e)]
       exact hlt hff
    ·have hin : i = ds.length := by
      by_cases e2 : i = ds.length
      ·exact e2
      ·exfalso
       have e3 : i = ds.length + 1 := by omega
       subst e3
       obtain ⟨_, e, he, hb, hon⟩ := hF.all1 o ho
       have h2 := hdeps e he hb
       rw [hon, hs _ (by omega) (Nat.le_refl _)] at h2
       simp at h2
     subst hin
     obtain rfl : s0 = o := by rw [ho] at h0; exact (Option.some.inj h0).symm
     have hoth : ∀ j, j < ds.length → j ≠ f → listed.getD j false = true := fun j hj hjf => by
      obtain ⟨e, he, hb, hon⟩ := hF.all0 s0 ho j hj hjf
      rw [← hon]; exact hdeps e he hb
     have hff : listed.getD f false = false := by
      cases hff : listed.getD f false with
      | false => rfl
      | true => exact absurd (fun j hj => if e : j = f then (by rw [e]; exact hff) else hoth j hj e) hall
     have hq := hlate a w hI.tsize hI.defers hI.outer (fun j hj hjf => hI.inner j (hoth j hj hjf)) (hlt hff) hI.below
     refine wpOp_step ho (fun K' hK => ?_)
     rw [if_pos (by unfold Region.wanted; rw [hF.sguard _ _ (.inl (Nat.le_refl _)) ho])]
     refine hq K' (fun a' w' h' => hK _ _ ?_)
     have hls : ∀ j, j ≠ ds.length → (listed.setIfInBounds ds.length true).getD j false = listed.getD j false := fun j hj => getD_set_ne false (Ne.symm hj)
     have hle2 : ds.length < listed.size := by rw [hI.size]; omega
     have hsd : (listed.setIfInBounds ds.length true).getD ds.length false = true := by simp [hle2]
     refine wpAny_forced [f, ds.length + 1] fuel _ a' w' [fo, s1] (by simp [hI.size]) rfl ?_ (by simp; omega) ?_ ?_ ?_ ?_ h'
     ·have h3 := cnt listed [ds.length, f, ds.length + 1] hI.size (by simp; omega) (fun u hu => by simp at hu; rcases hu with rfl | rfl | rfl <;> first | exact ⟨by omega, hff⟩ | exact ⟨by omega, hs _ (by omega) (by omega)⟩)
      simp at h3 ⊢; omega
     ·intro k u o hk ho'
      match k, hk, ho' with
      | 0, hk, ho' => simp at hk ho'; subst hk ho'; exact ⟨hof, hF.sguard _ _ (.inr rfl) hof⟩
      | 1, hk, ho' => simp at hk ho'; subst hk ho'; exact ⟨h1, hF.sguard _ _ (.inl (by omega)) h1⟩
      | k + 2, hk, ho' => simp at hk
     ·intro j hj
      constructor
      ·intro h
       by_cases e0 : j = ds.length
       ·subst e0; rw [hsd] at h; simp at h
       ·rw [hls j e0] at h
        by_cases e : j < ds.length
        ·by_cases e2 : j = f
         ·simp [e2]
         ·exfalso; rw [hoth j e e2] at h; simp at h
        ·simp; omega
      ·intro h
       simp at h
       rcases h with h | h
       ·subst h; rw [hls _ (by omega)]; exact hff
       ·rw [hls j (by omega)]; exact hs j hj (by omega)
     ·intro k u o hk ho' e he hb
      match k, hk with
      | 0, hk => simp at hk; subst hk; have := hF.topo _ o ho' e he hb; exact ⟨by omega, by simp; omega⟩
      | 1, hk => simp at hk; subst hk; have := hF.topo _ o ho' e he hb; exact ⟨by omega, by simp; omega⟩
      | k + 2, hk => simp at hk
     ·intro k u o hk ho'
      match k, hk with
      | 0, hk => simp at hk; subst hk; obtain ⟨⟨e, he, hb, hon⟩, _⟩ := hF.all1 o ho'; exact ⟨e, he, hb, f, rfl, hon⟩
      | k + 1, hk => simp at hk

/-- The operations, one by one, each with what it yields; then the last two, the late one ahead of them or between them. -/
def GChW (P : Program) (ops : Array Oper) (Q : Exit → Act → World → Prop) (ds : List Tmp) (a0 : Act) (w0 : World) (f : Nat) (fo s0 s1 : Oper) : List (Value → World → Prop) → List Oper → Prop
 | Rs, [] => (∀ (X : Nat → Value) w, RAll X w 0 Rs → Below w0.heap.size w0 w → wpSeq P Q [s0, s1] (putsFrom X a0 0 ds) w) ∧ (∀ (X : Nat → Value) w, RAll X w 0 (Rs.set f (IsV (slot a0 (ds.getD f 0)))) → Below w0.heap.size w0 w → wpSeq P Q [s0, fo, s1] (putsFrom X a0 0 ds) w)
 | Rs, o :: l => ∃ r, Stable r ∧ GStepG P ops Q ds (rAt (Rs ++ [r])) a0 w0 Rs.length o ∧ GChW P ops Q ds a0 w0 f fo s0 s1 (Rs ++ [r]) l

theorem GChW.all : ∀ (l : List Oper) (Rs : List (Value → World → Prop)), (∀ i o, l[i]? = some o → ∀ e ∈ o.after, Region.binds .any e = true → e.on < Rs.length + i) → (∀ r ∈ Rs, Stable r) → GChW P ops Q ds a0 w0 f fo s0 s1 Rs l →
  ∃ Ss, (Rs ++ Ss).length = Rs.length + l.length ∧ (∀ r ∈ Rs ++ Ss, Stable r) ∧ (∀ i o, l[i]? = some o → GStepG P ops Q ds (rAt (Rs ++ Ss)) a0 w0 (Rs.length + i) o) ∧ GChW P ops Q ds a0 w0 f fo s0 s1 (Rs ++ Ss) []
 | [], Rs, _, hst, h => ⟨[], by simp, by simpa using hst, fun i o ho => by simp at ho, by rw [List.append_nil]; exact h⟩
 | o :: l, Rs, ht, hst, ⟨r, hr, hs, hc⟩ => by
  obtain ⟨Ss, h1, h2, h3, h4⟩ := GChW.all l (Rs ++ [r]) (fun i o' ho e he hb => by
   have := ht (i + 1) o' (by simpa using ho) e he hb
   simp; omega) (fun x hx => by
   rcases List.mem_append.1 hx with hx | hx
   ·exact hst x hx
   ·simp at hx; subst hx; exact hr) hc
  refine ⟨r :: Ss, by simp at h1 ⊢; omega, by simpa using h2, fun i o' ho => ?_, by simpa using h4⟩
  have e : Rs ++ r :: Ss = Rs ++ [r] ++ Ss := by simp
  rw [e]
  cases i with
  | zero =>
   simp at ho
   subst ho
   refine GStepG.congr (ht 0 o rfl) (fun j hj => ?_) hs
   exact (rAt_left (by simp; omega)).symm
  | succ i =>
   have := h3 i o' (by simpa using ho)
   rwa [show (Rs ++ [r]).length + i = Rs.length + (i + 1) by simp; omega] at this

theorem wp_region_growW {id : Nat} (ds : List Tmp) (f : Nat) (fo s0 s1 : Oper) (hm : P.follows .mixedOrders = true) (hF : gformW ops ds a0.tmps.size f = true) (hof : ops[f]? = some fo) (hs0 : ops[ds.length]? = some s0) (hs1 : ops[ds.length + 1]? = some s1) (h : GChW P ops Q ds a0 w0.drew f fo s0 s1 [] (ops.toList.take ds.length)) :
  (Code.region id ops true).wp P Q a0 w0 := by
 have hG := GFormW.of hF
 have hle := hG.le
 obtain ⟨Ss, h1, h2, h3, h4, h5⟩ := GChW.all (ops.toList.take ds.length) [] (fun i o ho e he hb => by
  have hi : i < ds.length := by
   by_cases e2 : i < ds.length
   ·exact e2
   ·rw [List.getElem?_eq_none (by simp; omega)] at ho; simp at ho
  rw [List.getElem?_take, if_pos hi] at ho
  have := hG.topo i o (by simpa using ho) e he hb
  simpa using this) (fun r hr => by simp at hr) h
 simp only [List.nil_append, List.length_nil, Nat.zero_add] at h1 h2 h3 h4 h5
 have hlen : Ss.length = ds.length := by rw [h1]; simp; omega
 have hput : ∀ (a : Act), a.tmps.size = a0.tmps.size → a.defers = a0.defers → (∀ t, t ∉ ds → slot a t = slot a0 t) → putsFrom (fun i => slot a (ds.getD i 0)) a0 0 ds = a := fun a g1 g2 g3 => puts_eq ds a0 0 g1.symm g2.symm (fun i _ => by rw [Nat.zero_add]) (fun t ht => (g3 t ht).symm) (fun d hd => by rw [g1]; exact hG.fits d hd)
 refine wp_region_any hm (wpAny_growW (w0 := w0.drew) (R := rAt Ss) hG hof hs0 hs1 (fun i v w w' h hb => ?_) (fun i o hi ho => ?_) (fun a w g1 g2 g3 g4 g5 => ?_) (fun a w g1 g2 g3 g4 g6 g5 => ?_) ops.size _ a0 w0.drew (unl_le _ _) ⟨by simp, rfl, rfl, fun _ _ => rfl, fun i hi => ?_, Below.refl _ _⟩ (fun j hj _ => by simp [hj]) (fun _ => rfl))
 ·unfold rAt at *
  by_cases hi : i < Ss.length
  ·have e : Ss.getD i (fun _ _ => True) = Ss[i] := by simp [hi]
   rw [e] at h ⊢
   exact h2 _ (List.getElem_mem hi) v w w' h hb
  ·have e : Ss.getD i (fun _ _ => True) = fun _ _ => True := by simp [Nat.le_of_not_lt hi]
   rw [e]; trivial
 ·exact h3 i o (by rw [List.getElem?_take, if_pos hi]; simpa using ho)
 ·rw [← hput a g1 g2 g3]
  exact h4 (fun i => slot a (ds.getD i 0)) w (RAll.mk Ss 0 (fun i hi => by rw [Nat.zero_add]; exact g4 i (by omega))) g5
 ·rw [← hput a g1 g2 g3]
  refine h5 (fun i => slot a (ds.getD i 0)) w (RAll.mk (Ss.set f (IsV (slot a0 (ds.getD f 0)))) 0 (fun i hi => ?_)) g5
  rw [Nat.zero_add]
  have hi' : i < Ss.length := by simpa using hi
  unfold rAt
  by_cases e : i = f
  ·subst e
   have e2 : (Ss.set i (IsV (slot a0 (ds.getD i 0)))).getD i (fun _ _ => True) = IsV (slot a0 (ds.getD i 0)) := by simp [hi']
   rw [e2]
   exact g6
  ·have e2 : (Ss.set f (IsV (slot a0 (ds.getD f 0)))).getD i (fun _ _ => True) = Ss.getD i (fun _ _ => True) := by simp [List.getElem?_set_ne (Ne.symm e)]
   rw [e2]
   exact g4 i (by omega) e
 ·exfalso
  by_cases h : i < ops.size
  ·simp [h] at hi
  ·simp [h] at hi

theorem GChW.val {Rs : List (Value → World → Prop)} {n : Nat} {o : Oper} {l : List Oper} (Rs' : Value → List (Value → World → Prop)) (hR : ∀ v, Rs' v = Rs ++ [IsV v]) (hn : Rs.length = n) (h : ∃ v, GStepG P ops Q ds (rAt (Rs' v)) a0 w0 n o ∧ GChW P ops Q ds a0 w0 f fo s0 s1 (Rs' v) l) : GChW P ops Q ds a0 w0 f fo s0 s1 Rs (o :: l) := by
 obtain ⟨v, h1, h2⟩ := h
 rw [hR] at h1 h2
 subst hn
 exact ⟨IsV v, stable_isV v, h1, h2⟩
theorem GChW.rel {Rs : List (Value → World → Prop)} {n : Nat} {o : Oper} {l : List Oper} (r : Value → World → Prop) (hr : Stable r) (Rs' : List (Value → World → Prop)) (hR : Rs' = Rs ++ [r]) (hn : Rs.length = n) (h1 : GStepG P ops Q ds (rAt Rs') a0 w0 n o) (h2 : GChW P ops Q ds a0 w0 f fo s0 s1 Rs' l) : GChW P ops Q ds a0 w0 f fo s0 s1 Rs (o :: l) := by
 subst hR hn
 exact ⟨r, hr, h1, h2⟩
end
end Go.Proofs.YtdkepkaflielhaaGreatDoor
