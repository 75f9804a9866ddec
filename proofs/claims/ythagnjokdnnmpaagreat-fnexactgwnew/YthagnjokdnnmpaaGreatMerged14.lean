import Derived.Test.YthagnjokdnnmpaaGreatMerged1
import Derived.Maps.Keyed
import Derived.Maps.AppendAt
import Derived.Maps.OwnOps
import Derived.Test.YthagnjokdnnmpaaGreatMerged13
import Derived.DeepKeys5
import Derived.Deep.DeepCutAuto
import Derived.Test.YthagnjokdnnmpaaGreatMerged5
import Derived.Test.YthagnjokdnnmpaaGreatSAll
import Derived.Test.YthagnjokdnnmpaaGreatMerged7
import Derived.Test.YthagnjokdnnmpaaGreatMerged8
import Derived.Test.YthagnjokdnnmpaaGreatProg
import Derived.WalkLawsBesides
import Derived.OwnWalk
import Derived.Deep.RegionWith
import Derived.Lib.LazyBuf
set_option linter.unusedVariables false
set_option linter.unusedSimpArgs false
set_option maxRecDepth 100000
set_option maxHeartbeats 8000000
namespace Go.Proofs.YthagnjokdnnmpaaGreat
open Go.RowKit Go.MapKept
open Go.Maps (Keyed)
def MapAt (P:Program) (k:TypeId) (w:World) (b:Nat) (M:Value→Option Value):Prop :=
 ∃ es clock,w.heap[b]?=some (.map es clock)∧(∀ e∈es.toList,∃ l,keyOf P k e.key=some l)∧es.toList.Pairwise (fun x y=>x.key≠y.key)∧∀ x v,M x=some v↔∃ e∈es.toList,e.key=x∧e.val=v
section
variable {P:Program} {k t e:TypeId} {w W:World} {b:Nat} {M:Value→Option Value}
theorem MapAt.lt (h:MapAt P k w b M):b < w.heap.size:=by
 obtain ⟨es,clock,hb,_⟩:=h;exact (Array.getElem?_eq_some_iff.1 hb).1
theorem MapAt.of_block (h:MapAt P k w b M) (hb:W.heap[b]?=w.heap[b]?):MapAt P k W b M:=by
 obtain ⟨es,clock,h1,h2⟩:=h;exact ⟨es,clock,hb.trans h1,h2⟩
theorem MapAt.below (h:MapAt P k w b M) (hB:Below w.heap.size w W):MapAt P k W b M:=h.of_block (hB.block b h.lt)
theorem MapAt.grown {row:Option Nat} (h:MapAt P k w b M) (hg:w.grownBy W row) (hr:some b≠row):MapAt P k W b M:=h.of_block (hg.block b h.lt hr)
theorem MapAt.made (w:World):MapAt P k (w.alloc (.map #[] 0)) w.heap.size (fun _=>none) :=
 ⟨#[],0,heap_alloc_new w _,fun e he=>by simp at he,by simp,fun x v=>by simp⟩
theorem find_in (K:Keyed P k) {es:List MapEntry} (hk:∀ e∈es,∃ l,keyOf P k e.key=some l) (hp:es.Pairwise fun x y=>x.key≠y.key) (hM:∀ x v,M x=some v↔∃ e∈es,e.key=x∧e.val=v) {x:Value} {l:Lit} (hx:keyOf P k x=some l) (w:World) :
  ((Instr.findKey k x es).run P w=.ok none w∧M x=none∧∀ e∈es,e.key≠x)∨∃ j e,(Instr.findKey k x es).run P w=.ok (some (j,e.val)) w∧M x=some e.val∧es[j]?=some e∧e.key=x:=by
 rcases K.find w hx es hk with ⟨h1,h2⟩ | ⟨j,e,h1,h2,h3⟩
 ·refine .inl ⟨h1,?_,h2⟩
  cases hm:M x with
  | none=>rfl
  | some v =>
   obtain ⟨e,he,hkx,_⟩:=(hM x v).1 hm;exact absurd hkx (h2 e he)
 ·exact .inr ⟨j,e,h1,(hM x e.val).2 ⟨e,List.mem_of_getElem? h2,h3,rfl⟩,h2,h3⟩
theorem MapAt.look (K:Keyed P k) (ht:P.underlying t=some (.map k e)) (h:MapAt P k w b M) {x z:Value} {l:Lit} (hx:keyOf P k x=some l) (hz:(zeroValue e).run P w=.ok z w) :
  (Instr.lookup t (.map (some b)) x false).run P w=.ok ((M x).getD z) w∧(Instr.lookup t (.map (some b)) x true).run P w=.ok (.tuple #[(M x).getD z,.bool (M x).isSome]) w:=by
 obtain ⟨es,clock,hb,hk,hp,hM⟩:=h;rcases find_in K hk hp hM hx w with ⟨h1,h2,_⟩ | ⟨j,e0,h1,h2,_⟩
 ·constructor<;>simp [Instr.lookup,run_underlying ht,MapKept.run_getObj_map hb,K.check w _ hx,h1,h2,hz,Result.andThen]
 ·constructor<;>simp [Instr.lookup,run_underlying ht,MapKept.run_getObj_map hb,K.check w _ hx,h1,h2,hz,Result.andThen]
theorem grown_block (w:World) (b:Nat) (o:Obj):w.grownBy { w with heap:=w.heap.setIfInBounds b o } (some b) :=
 ⟨rfl,rfl,rfl,by simp,fun k hk hne=>by
  show (w.heap.setIfInBounds b o)[k]?=w.heap[k]?;rw [Array.getElem?_setIfInBounds_ne (fun e=>hne (by rw [e]))]⟩
theorem at_block (w:World) {b:Nat} (o:Obj) (hb:b < w.heap.size):({ w with heap:=w.heap.setIfInBounds b o }:World).heap[b]?=some o:=by
 show (w.heap.setIfInBounds b o)[b]?=some o;simp [hb]
open Classical in
theorem MapAt.put (K:Keyed P k) (ht:P.underlying t=some (.map k e)) (h:MapAt P k w b M) {x v:Value} {l:Lit} (hx:keyOf P k x=some l) :
  ∃ W M',(Instr.mapUpdate t (.map (some b)) x v).run P w=.ok () W∧MapAt P k W b M'∧M' x=some v∧(∀ y,y≠x→M' y=M y)∧w.grownBy W (some b)∧W.heap.size=w.heap.size:=by
 have hlt:=h.lt;obtain ⟨es,clock,hb,hk,hp,hM⟩:=h;rcases find_in K hk hp hM hx w with ⟨h1,h2,h3⟩ | ⟨j,e0,h1,h2,h3,h4⟩
 ·refine ⟨{ w with heap:=w.heap.setIfInBounds b (.map (es.push ⟨x,v,clock⟩) (clock+1)) },fun y=>if y=x then some v else M y,?_,⟨_,_,at_block w _ hlt,?_,?_,fun y u=>?_⟩,if_pos rfl,fun y hy=>if_neg hy,grown_block w b _,by simp⟩
  ·simp [Instr.mapUpdate,run_underlying ht,MapKept.run_getObj_map hb,K.check w false hx,h1,MapKept.run_setObj_map _ hb,Result.andThen]
  ·intro y hy;simp only [Array.toList_push,List.mem_append,List.mem_singleton] at hy;rcases hy with hy | rfl
   ·exact hk y hy
   ·exact ⟨l,hx⟩
  ·rw [Array.toList_push];refine List.pairwise_append.2 ⟨hp,by simp,fun a ha c hc=>?_⟩;obtain rfl:c=⟨x,v,clock⟩:=by simpa using hc
   exact h3 a ha
  ·rw [Array.toList_push];dsimp only;by_cases hy:y=x
   ·subst hy;rw [if_pos rfl];constructor
    ·intro hu;exact ⟨⟨y,v,clock⟩,by simp,rfl,by simpa using hu⟩
    ·rintro ⟨a,ha,ha1,ha2⟩;simp only [List.mem_append,List.mem_singleton] at ha;rcases ha with ha | rfl
     ·exact absurd ha1 (h3 a ha)
     ·simpa using ha2
   ·rw [if_neg hy,hM];constructor
    ·rintro ⟨a,ha,ha1,ha2⟩;exact ⟨a,by simp [ha],ha1,ha2⟩
    ·rintro ⟨a,ha,ha1,ha2⟩;simp only [List.mem_append,List.mem_singleton] at ha;rcases ha with ha | rfl
     ·exact ⟨a,ha,ha1,ha2⟩
     ·exact absurd ha1.symm hy
 ·have hj:es[j]?=some e0:=by simpa using h3
  have hjl:j < es.toList.length:=(List.getElem?_eq_some_iff.1 h3).1;have hlist:(es.modify j (fun e'=>{ e' with key:=x,val:=v })).toList=es.toList.set j { e0 with key:=x,val:=v }:=by rw [Array.toList_modify,Go.ChangeMaps.modify_eq_set _ _ _ _ h3]
  have hoth:∀ i (hi:i < es.toList.length),i≠j→es.toList[i].key≠x:=fun i hi hne=>by
   have hje:es.toList[j].key=x:=by
    have:=(List.getElem?_eq_some_iff.1 h3).2;rw [this]; exact h4
   rw [List.pairwise_iff_getElem] at hp;rcases Nat.lt_or_ge i j with hlt' | hge
   ·have:=hp i j hi hjl hlt';rw [hje] at this; exact this
   ·have:=hp j i hjl hi (by omega);rw [hje] at this; exact fun e=>this e.symm
  have who:∀ y∈es.toList.set j { e0 with key:=x,val:=v },y={ e0 with key:=x,val:=v }∨(y∈es.toList∧y.key≠x):=by
   intro y hy;obtain ⟨i,hi,ey⟩:=List.getElem_of_mem hy;rw [List.getElem_set] at ey;split at ey
   ·exact Or.inl ey.symm
   ·rename_i hne;have hi':i < es.toList.length:=by simpa using hi
    exact Or.inr ⟨ey ▸ List.getElem_mem hi',by rw [← ey]; exact hoth i hi' (fun e=>hne e.symm)⟩
  have wo:∀ y∈es.toList,y.key≠x→y∈es.toList.set j { e0 with key:=x,val:=v }:=by
   intro y hy hne;obtain ⟨i,hi,ey⟩:=List.getElem_of_mem hy;have hij:i≠j:=fun e=>by
    subst e;have:=(List.getElem?_eq_some_iff.1 h3).2;rw [ey] at this; rw [this] at hne; exact hne h4
   exact List.mem_iff_getElem.2 ⟨i,by simpa using hi,by rw [List.getElem_set_ne (fun e=>hij e.symm)]; exact ey⟩
  refine ⟨{ w with heap:=w.heap.setIfInBounds b (.map (es.modify j fun e'=>{ e' with key:=x,val:=v }) clock) },fun y=>if y=x then some v else M y,?_,⟨_,_,at_block w _ hlt,?_,?_,fun y u=>?_⟩,if_pos rfl,fun y hy=>if_neg hy,grown_block w b _,by simp⟩
  ·simp [Instr.mapUpdate,run_underlying ht,MapKept.run_getObj_map hb,K.check w false hx,h1,hj,h4,K.stays w hx,MapKept.run_setObj_map _ hb,Result.andThen]
  ·rw [hlist];intro y hy;rcases who y hy with rfl | ⟨hy',_⟩
   ·exact ⟨l,hx⟩
   ·exact hk y hy'
  ·rw [hlist,List.pairwise_iff_getElem];intro p q hpl hql hpq;rw [List.length_set] at hpl hql;rw [List.getElem_set,List.getElem_set];by_cases e1:j=p
   ·subst e1;rw [if_pos rfl,if_neg (by omega)];exact fun e=>hoth q hql (by omega) e.symm
   ·rw [if_neg e1];by_cases e2:j=q
    ·subst e2;rw [if_pos rfl];exact hoth p hpl (fun e=>e1 e.symm)
    ·rw [if_neg e2];exact (List.pairwise_iff_getElem.1 hp) p q hpl hql hpq
  ·rw [hlist];dsimp only;by_cases hy:y=x
   ·subst hy;rw [if_pos rfl];constructor
    ·intro hu;exact ⟨{ e0 with key:=y,val:=v },List.mem_iff_getElem.2 ⟨j,by simpa using hjl,by simp⟩,rfl,by simpa using hu⟩
    ·rintro ⟨a,ha,ha1,ha2⟩;rcases who a ha with rfl | ⟨_,hne⟩
     ·simpa using ha2
     ·exact absurd ha1 hne
   ·rw [if_neg hy,hM];constructor
    ·rintro ⟨a,ha,ha1,ha2⟩;exact ⟨a,wo a ha (by rw [ha1]; exact hy),ha1,ha2⟩
    ·rintro ⟨a,ha,ha1,ha2⟩;rcases who a ha with rfl | ⟨ha',_⟩
     ·exact absurd ha1.symm hy
     ·exact ⟨a,ha',ha1,ha2⟩
open Classical in
end
end Go.Proofs.YthagnjokdnnmpaaGreat
namespace Go.Proofs.YthagnjokdnnmpaaGreat
open Go.RowKit
theorem wp_look_val {P:Program} {o:Oper} {a:Act} {w:World} {v1 v2 v':Value} {K:Act→World→Prop} {Q:Exit→Act→World→Prop} (t:TypeId) (x ix:Operand) (ok:Bool) (hop:o.op=Op.lookup t x ix ok)
  (hs:a.eval x=v1) (hx:a.eval ix=v2) (hrun:(Instr.lookup t v1 v2 ok).run P w=.ok v' w) (hK:K (a.put o.dst v') w):Oper.wp P o a w K Q:=by
 unfold Oper.wp;simp [execOp,hop,hs,hx,hrun,Result.andThen];exact hK
theorem wpList_look_val {P:Program} {ops:Array Oper} {rest:List Oper} {o:Oper} {a:Act} {w:World} {v1 v2 v':Value} {Q:Exit→Act→World→Prop} (hg:o.guard=none) (t:TypeId) (x ix:Operand) (ok:Bool) (hop:o.op=Op.lookup t x ix ok)
  (hs:a.eval x=v1) (hx:a.eval ix=v2) (hrun:(Instr.lookup t v1 v2 ok).run P w=.ok v' w) (hK:wpList P ops Q rest (a.put o.dst v') w):wpList P ops Q (o::rest) a w :=
 wpList_plain hg fun K hK'=>wp_look_val t x ix ok hop hs hx hrun (hK' _ _ hK)
theorem wp_upd_val {P:Program} {o:Oper} {a:Act} {w w':World} {v1 v2 v3:Value} {K:Act→World→Prop} {Q:Exit→Act→World→Prop} (t:TypeId) (m x y:Operand) (hop:o.op=Op.mapUpdate t m x y)
  (hm:a.eval m=v1) (hx:a.eval x=v2) (hy:a.eval y=v3) (hrun:(Instr.mapUpdate t v1 v2 v3).run P w=.ok () w') (hK:K (a.put o.dst undef) w'):Oper.wp P o a w K Q:=by
 unfold Oper.wp;simp [execOp,hop,hm,hx,hy,hrun,Result.andThen];exact hK
open Go.PlainAid
open Go.Maps (Keyed)
def bkC (pa:Option Addr) (pc:Nat) (p:Pl) (a b:Option Addr) (ca cb:Nat) (x:Bb) (m1 m2:Nat):Value:=.agg #[.slice pa p.addrs.length pc,.int .i64 p.low,.int .i64 p.high,.int .i64 p.most,.int .i64 p.filter,.int .i64 p.lv.udp,.int .i64 p.lv.echo,.int .i64 p.lv.opening,.int .i64 p.lv.opn,.int .i64 p.lv.closing,.slice a x.binds.length ca,.slice b x.sess.length cb,.map (some m1),.map (some m2)]
def EnIn (e:En):Prop:=e.addr.size≤1048576∧In64t e.proto∧In64t e.port
def BdGood (q:Bd):Prop:=q.inn.size≤1048576∧q.out.size≤1048576∧In64t q.proto∧In64t q.inPort∧In64t q.outPort
def SsGood (s:Ss):Prop:=s.inn.size≤1048576∧s.peer.size≤1048576∧In64t s.proto∧In64t s.inPort
theorem hostE_in {q:Bd} (h:BdGood q):EnIn (hostE q):=⟨h.1,h.2.2.1,h.2.2.2.1⟩
theorem lentE_in {q:Bd} (h:BdGood q):EnIn (lentE q):=⟨h.2.1,h.2.2.1,h.2.2.2.2⟩
theorem sessE_in {s:Ss} (h:SsGood s):EnIn (sessE s):=⟨h.1,h.2.2.1,h.2.2.2⟩
theorem sameEn_iff (q p:En):sameEn q p=true↔q=p:=by
 rw [sameEn_eq];simp only [Bool.and_eq_true,decide_eq_true_iff];constructor
 ·rintro ⟨⟨h1,h2⟩,h3⟩;have h4:q.addr=p.addr:=by
   rw [ByteArray.toList_eq,ByteArray.toList_eq] at h2;apply ByteArray.ext;exact Array.toList_inj.1 h2
  cases q; cases p; simp_all
 ·rintro rfl; simp
theorem enC_inj {q p:En} (h:enC q=enC p):q=p:=by
 unfold enC at h;simp at h
 cases q; cases p; simp_all
theorem find_some_any {α:Type} (f:α→Bool) (xs:List α):(xs.find? f).isSome=xs.any f:=by
 rw [Bool.eq_iff_iff,List.find?_isSome,List.any_eq_true]
theorem keyed_en:Keyed Tryz.prog 168:=Keyed.of_law (deep_law_gate (by kernel_rfl) (of_decide_eq_true (by kernel_rfl)) (of_decide_eq_true (by kernel_rfl)) (by kernel_rfl) (by kernel_rfl))
theorem wf64b {n:Int} (h:In64t n):(Lit.int .i64 n).wf=true:=by
 simp [Lit.wf]; exact ⟨h.1,h.2⟩
theorem keyOf_en (e:En) (h:EnIn e):∃ l,keyOf Tryz.prog 168 (enC e)=some l:=by
 obtain ⟨h1,h3,h4⟩:=h;have h1:e.addr.size≤maxLen:=by unfold maxLen; omega
 have k1:Tryz.prog.keyType 168=true:=by kernel_rfl
 have k2:Tryz.prog.cellsOf 168=3:=by kernel_rfl
 have k3:Tryz.prog.cellsOf 9=1:=by kernel_rfl
 have k4:Tryz.prog.cellsOf 2=1:=by kernel_rfl
 have k5:∃ m,Tryz.prog.types.size+1=m+2:=⟨Tryz.prog.types.size-1,by have:1≤Tryz.prog.types.size:=of_decide_eq_true (by kernel_rfl); omega⟩;obtain ⟨m,k5⟩:=k5;have w3:=wf64b h3;have w4:=wf64b h4;unfold keyOf;rw [Tryz.underlying168];simp only [k1,Value.formed,enC,Tryz.underlying168,k2,Value.cells,k5];simp [Program.keyLits,Tryz.underlying168,Tryz.underlying9,Tryz.underlying2,k2,k3,k4,h1,w3,w4]
theorem zero_bd (w:World):(zeroValue 153).run Tryz.prog w=.ok (bdC bdZ) w:=by kernel_rfl
structure BookOf (w:World) (m1 m2:Nat) (xs ys:List Bd) (M1 M2:Value→Option Value):Prop where
 h1:MapAt Tryz.prog 168 w m1 M1
 h2:MapAt Tryz.prog 168 w m2 M2
 v1:∀ e:En,M1 (enC e)=(xs.find? fun q=>sameEn (hostE q) e).map bdC
 v2:∀ e:En,M2 (enC e)=(ys.find? fun q=>sameEn (lentE q) e).map bdC
 ne:m1≠m2
def BookAt (w:World) (m1 m2:Nat) (xs ys:List Bd):Prop:=∃ M1 M2,BookOf w m1 m2 xs ys M1 M2
section
variable {w W:World} {m1 m2:Nat} {xs ys:List Bd}
theorem BookAt.kept (h:BookAt w m1 m2 xs ys) (hb:Below w.heap.size w W):BookAt W m1 m2 xs ys:=by
 obtain ⟨M1,M2,h⟩:=h;exact ⟨M1,M2,h.h1.below hb,h.h2.below hb,h.v1,h.v2,h.ne⟩
theorem BookAt.lt (h:BookAt w m1 m2 xs ys):m1 < w.heap.size∧m2 < w.heap.size∧m1≠m2:=by
 obtain ⟨M1,M2,h⟩:=h;exact ⟨h.h1.lt,h.h2.lt,h.ne⟩
theorem BookAt.made {w:World}:BookAt ((w.alloc (.map #[] 0)).alloc (.map #[] 0)) w.heap.size (w.heap.size+1) [] []:=by
 have h2:=MapAt.made (P:=Tryz.prog) (k:=168) (w.alloc (.map #[] 0));rw [World.size_alloc] at h2;refine ⟨fun _=>none,fun _=>none,(MapAt.made w).below ((Below.refl _ _).alloc (Nat.le_refl _) _),h2,fun e=>rfl,fun e=>rfl,by omega⟩
theorem map_get (o:Option Bd):(o.map bdC).getD (bdC bdZ)=bdC (o.getD bdZ):=by cases o<;>rfl
theorem BookAt.look1 (h:BookAt w m1 m2 xs ys) {e:En} (he:EnIn e):(Instr.lookup 131 (.map (some m1)) (enC e) true).run Tryz.prog w=.ok (.tuple #[bdC ((xs.find? fun q=>sameEn (hostE q) e).getD bdZ),.bool (xs.find? fun q=>sameEn (hostE q) e).isSome]) w:=by
 obtain ⟨M1,M2,h⟩:=h;obtain ⟨l,hl⟩:=keyOf_en e he;have h1:=(h.h1.look (t:=131) keyed_en Tryz.underlying131 hl (zero_bd w)).2;rw [h.v1,map_get,Option.isSome_map] at h1;exact h1
theorem BookAt.look2 (h:BookAt w m1 m2 xs ys) {e:En} (he:EnIn e):(Instr.lookup 131 (.map (some m2)) (enC e) true).run Tryz.prog w=.ok (.tuple #[bdC ((ys.find? fun q=>sameEn (lentE q) e).getD bdZ),.bool (ys.find? fun q=>sameEn (lentE q) e).isSome]) w:=by
 obtain ⟨M1,M2,h⟩:=h;obtain ⟨l,hl⟩:=keyOf_en e he;have h1:=(h.h2.look (t:=131) keyed_en Tryz.underlying131 hl (zero_bd w)).2;rw [h.v2,map_get,Option.isSome_map] at h1;exact h1
theorem find_snoc (E:Bd→En) (xs:List Bd) (q:Bd) (hn:xs.any (fun c=>sameEn (E c) (E q))=false) (M M':Value→Option Value) (hM:∀ e:En,M (enC e)=(xs.find? fun c=>sameEn (E c) e).map bdC) (h1:M' (enC (E q))=some (bdC q)) (h2:∀ y,y≠enC (E q)→M' y=M y) (e:En):M' (enC e)=((xs++[q]).find? fun c=>sameEn (E c) e).map bdC:=by
 rw [List.find?_append];by_cases he:e=E q
 ·subst he;have h0:xs.find? (fun c=>sameEn (E c) (E q))=none:=List.find?_eq_none.2 (fun c hc=>List.any_eq_false.1 hn c hc);have hs:sameEn (E q) (E q)=true:=(sameEn_iff _ _).2 rfl;rw [h0,h1]; simp [hs]
 ·have hs:sameEn (E q) e=false:=by
   cases h:sameEn (E q) e with
   | false=>rfl
   | true=>exact absurd ((sameEn_iff _ _).1 h).symm he
  rw [h2 _ (fun h=>he (enC_inj h)),hM];simp [hs]
theorem BookAt.put1 (h:BookAt w m1 m2 xs ys) {q:Bd} (hq:EnIn (hostE q)) (hn:xs.any (fun c=>sameEn (hostE c) (hostE q))=false) :
  ∃ W,(Instr.mapUpdate 131 (.map (some m1)) (enC (hostE q)) (bdC q)).run Tryz.prog w=.ok () W∧BookAt W m1 m2 (xs++[q]) ys∧w.grownBy W (some m1):=by
 obtain ⟨M1,M2,h⟩:=h;obtain ⟨l,hl⟩:=keyOf_en _ hq;obtain ⟨W,M',hup,hM',hx,hoth,hg,hs⟩:=h.h1.put (v:=bdC q) keyed_en Tryz.underlying131 hl;exact ⟨W,hup,⟨M',M2,hM',h.h2.grown hg (by simp; exact fun e=>h.ne e.symm),find_snoc hostE xs q hn M1 M' h.v1 hx hoth,h.v2,h.ne⟩,hg⟩
theorem BookAt.put2 (h:BookAt w m1 m2 xs ys) {q:Bd} (hq:EnIn (lentE q)) (hn:ys.any (fun c=>sameEn (lentE c) (lentE q))=false) :
  ∃ W,(Instr.mapUpdate 131 (.map (some m2)) (enC (lentE q)) (bdC q)).run Tryz.prog w=.ok () W∧BookAt W m1 m2 xs (ys++[q])∧w.grownBy W (some m2):=by
 obtain ⟨M1,M2,h⟩:=h;obtain ⟨l,hl⟩:=keyOf_en _ hq;obtain ⟨W,M',hup,hM',hx,hoth,hg,hs⟩:=h.h2.put (v:=bdC q) keyed_en Tryz.underlying131 hl;exact ⟨W,hup,⟨M1,M',h.h1.grown hg (by simp; exact h.ne),hM',h.v1,find_snoc lentE ys q hn M2 M' h.v2 hx hoth,h.ne⟩,hg⟩
end
def IsZd (base:Nat):Value→World→Prop:=fun v w=>∃ g,v=.pointer (some ⟨g,0,none⟩)∧base≤g∧HoldsL w g (bdL bdZ)
theorem stable_isZd (base:Nat):Stable (IsZd base):=fun v w w' ⟨g,h1,h2,h3⟩ hb=>⟨g,h1,h2,h3.kept (by simp [bdL]) hb⟩
end Go.Proofs.YthagnjokdnnmpaaGreat
namespace Go.Proofs.YthagnjokdnnmpaaGreat
open Go.RowKit Go.PlainAid
structure Gw where
 routes:List Rt
 pool:Pl
 sixA:ByteArray
 sixB:Int
 four1:ByteArray
 six1:ByteArray
 mtu:Int
 bib:Bb
 pcs:List Pc
 bk:Bk
 now:Int
structure Ga where
 ra:Option Addr
 rc:Nat
 pa:Option Addr
 pc:Nat
 ba:Option Addr
 ca:Nat
 bo:Option Addr
 cb:Nat
 qa:Option Addr
 qc:Nat
def gwL (A:Ga) (g:Gw):List Value:=[.slice A.ra g.routes.length A.rc,.slice A.pa g.pool.addrs.length A.pc,.int .i64 g.pool.low,.int .i64 g.pool.high,.int .i64 g.pool.most,.int .i64 g.pool.filter,.int .i64 g.pool.lv.udp,.int .i64 g.pool.lv.echo,.int .i64 g.pool.lv.opening,.int .i64 g.pool.lv.opn,.int .i64 g.pool.lv.closing,.string g.sixA,.int .i64 g.sixB,.string g.four1,.string g.six1,.int .i64 g.mtu,.slice A.ba g.bib.binds.length A.ca,.slice A.bo g.bib.sess.length A.cb,.slice A.qa g.pcs.length A.qc,.int .i64 g.bk.left,.int .i64 g.bk.most,.int .i64 g.bk.each,.int .i64 g.bk.since,.int .i64 g.now]
def gwC (A:Ga) (g:Gw):Value:=.agg (gwL A g).toArray
def gwOk (g:Gw):Bool:=routesOk g.routes&&natOk g.sixA g.sixB&&decide (g.four1.size=4)&&decide (g.six1.size=16)&&isIn g.mtu 1280 1500&&bibOk g.pool g.bib&&piecesOk g.pcs&&bucketOk g.bk&&isTime g.now&&decide (g.bk.since≤g.now)
structure GwIs (w:World) (A:Ga) (g:Gw):Prop where
 rt:RtsIs w A.ra g.routes
 pl:SlIs strL1 1 w A.pa g.pool.addrs
 bb:BbIs w A.ba A.bo g.bib
 pc:SlIs pcL 8 w A.qa g.pcs
theorem GwIs.below {w W:World} {A:Ga} {g:Gw} (h:GwIs w A g) (hB:Below w.heap.size w W):GwIs W A g:=⟨h.rt.below hB,h.pl.below hB,h.bb.below hB,h.pc.below hB⟩
structure GwSm (A:Ga) (g:Gw):Prop where
 rl:g.routes.length≤1048576
 rc:g.routes.length≤A.rc
 rt:RtsIn g.routes
 pl:g.pool.addrs.length≤1048576
 pc:g.pool.addrs.length≤A.pc
 ps:∀ s∈g.pool.addrs,s.size≤1048576
 sx:g.sixA.size≤1048576
 f1:g.four1.size≤1048576
 s1:g.six1.size≤1048576
 b1:g.bib.binds.length≤1048576
 b2:g.bib.sess.length≤1048576
 gb:∀ q∈g.bib.binds,BdGood q
 gs:∀ s∈g.bib.sess,SsGood s
 pi:PcsIn g.pcs
open Go.ChangeShapes Go.WideShapes
def BkWf (p:Bk):Prop:=In64t p.left∧In64t p.most∧In64t p.each∧In64t p.since
structure BoxBucket (w:World) (B:Nat) (p:Bk):Prop where
 c0:w.cell? ⟨B,0,none⟩=some (.int .i64 p.left)
 c1:w.cell? ⟨B,1,none⟩=some (.int .i64 p.most)
 c2:w.cell? ⟨B,2,none⟩=some (.int .i64 p.each)
 c3:w.cell? ⟨B,3,none⟩=some (.int .i64 p.since)
theorem BoxBucket.kept {w W:World} {B:Nat} {p:Bk} (h:BoxBucket w B p) (hB:Below w.heap.size w W):BoxBucket W B p:=by
 have hb:=World.block_lt_of_cell? w _ h.c0;exact ⟨((bcell hB).1 B 0 hb).trans h.c0,((bcell hB).1 B 1 hb).trans h.c1,((bcell hB).1 B 2 hb).trans h.c2,((bcell hB).1 B 3 hb).trans h.c3⟩
theorem BoxBucket.new (w:World) (p:Bk) {t:TypeId}:BoxBucket (w.alloc (.cells #[.int .i64 p.left,.int .i64 p.most,.int .i64 p.each,.int .i64 p.since] t)) w.heap.size p:=⟨cell_new rfl,cell_new rfl,cell_new rfl,cell_new rfl⟩
section
variable {H:Type} {enc:TypeId × Value→H} {w:World} {base:Nat} {spare:Nat→Bool} {held:Bool}
end
theorem eqBucket_same (p:Bk) (w:World) :
  Calls Tryz.prog 52 #[buC p,buC p] w fun e w'=>e=.returned (.bool true)∧Below w.heap.size w w':=by
 obtain ⟨left,most,each,since⟩:=p;unfold buC;dsimp only;have HZ:Hid (Below w.heap.size w ((w.alloc (.cells #[.int .i64 left,.int .i64 most,.int .i64 each,.int .i64 since] 39)).alloc (.cells #[.int .i64 left,.int .i64 most,.int .i64 each,.int .i64 since] 39))):=((Below.refl _ _).alloc (Nat.le_refl _) _).alloc (by simp) _;go_enter Tryz.func52,Tryz.ntmps52
 go_wp2_with fail
 go_ret;exact ⟨rfl,HZ.out⟩
end Go.Proofs.YthagnjokdnnmpaaGreat
namespace Go.Proofs.YthagnjokdnnmpaaGreat
open Go.RowKit
theorem toPrefix_any (s:ByteArray) (b:Int) (w:World) :
  Calls Tryz.prog 15 #[.agg #[.string s,.int .i64 b]] w fun e w'=>e=.returned (.agg #[.string s,.int .i64 b])∧Below w.heap.size w w':=by
 go_enter Tryz.func15,Tryz.ntmps15
 go_wp2
 refine bodyPost_ret (v:=.agg #[.string s,.int .i64 b]) (by simp [results,Tryz.results15,go_sem]) rfl ⟨rfl,?_⟩;exact (((Below.refl _ _).alloc (Nat.le_refl _) _).alloc (by simp) _).alloc (by simp; omega) _
open Go.PlainAid
def szP (n:Nat) (left:Int):Int:=if left < (n:Int) then -1 else left-n
def szV:List Rt→Int→Int
 | [],left=>left
 | q::l,left=>if left < (q.addr.size:Int) then -1 else szV l (left-q.addr.size)
theorem szV_bound:∀ (rs:List Rt) (left:Int),0≤szV rs left→∀ q∈rs,(q.addr.size:Int)≤left
 | [],_,_,q,hq=>by simp at hq
 | p::l,left,h,q,hq=>by
  unfold szV at h;split at h
  ·omega
  ·simp only [List.mem_cons] at hq;rcases hq with rfl | hq
   ·omega
   ·have:=szV_bound l _ h q hq; omega
theorem szV_range:∀ (rs:List Rt) (left:Int),0≤left→-1≤szV rs left∧szV rs left≤left
 | [],left,h=>by unfold szV; omega
 | p::l,left,h=>by
  unfold szV;split
  ·omega
  ·have:=szV_range l (left-p.addr.size) (by omega); omega
theorem szPrefix_any (s:ByteArray) (b left:Int) (w:World) (hs:s.size≤maxLen) (h0:0≤left) (h1:left≤1048576) :
  Calls Tryz.prog 12 #[.agg #[.string s,.int .i64 b],.int .i64 left] w fun e w'=>e=.returned (.int .i64 (szP s.size left))∧Below w.heap.size w w':=by
 unfold maxLen at hs;by_cases h:left < (s.size:Int)
 ·have HV:Hid (szP s.size left=-1):=if_pos h;go_enter Tryz.func12,Tryz.ntmps12
  go_wp2
  go_ret;exact ⟨ret_int HV.out.symm,(Below.refl _ _).alloc (Nat.le_refl _) _⟩
 ·have HV:Hid (szP s.size left=left-s.size):=if_neg h;go_enter Tryz.func12,Tryz.ntmps12
  go_wp2
  go_ret;exact ⟨ret_int HV.out.symm,(Below.refl _ _).alloc (Nat.le_refl _) _⟩
theorem szRoute_any (q:Rt) (left:Int) (w:World) (hs:q.addr.size≤maxLen) (h0:0≤left) (h1:left≤1048576) :
  Calls Tryz.prog 44 #[.agg #[.string q.addr,.int .i64 q.bits,.int .i64 q.hop],.int .i64 left] w fun e w'=>e=.returned (.int .i64 (szP q.addr.size left))∧Below w.heap.size w w':=by
 have HB:Hid (Below w.heap.size w (w.alloc (.cells #[.string q.addr,.int .i64 q.bits,.int .i64 q.hop] 91))):=(Below.refl _ _).alloc (Nat.le_refl _) _;have HC:Hid (∀ W,Calls Tryz.prog 12 #[.agg #[.string q.addr,.int .i64 q.bits],.int .i64 left] W fun e w'=>e=.returned (.int .i64 (szP q.addr.size left))∧Below W.heap.size W w'):=fun W=>szPrefix_any q.addr q.bits left W hs h0 h1
 unfold maxLen at hs;by_cases h:left < (q.addr.size:Int)
 ·have HV:Hid (szP q.addr.size left=-1):=if_pos h;rw [HV.out] at HC ⊢;clear HV;go_enter Tryz.func44,Tryz.ntmps44
  go_wp2_with fail
  refine (HC.out _).mono ?_;rintro e w1 ⟨rfl,q1⟩;go_wp2_with fail
  go_ret;exact ⟨rfl,HB.out.trans (q1.mono (by simp))⟩
 ·have HV:Hid (szP q.addr.size left=left-q.addr.size):=if_neg h;rw [HV.out] at HC ⊢;clear HV;go_enter Tryz.func44,Tryz.ntmps44
  go_wp2_with fail
  refine (HC.out _).mono ?_;rintro e w1 ⟨rfl,q1⟩;go_wp2_with fail
  go_ret;exact ⟨rfl,HB.out.trans (q1.mono (by simp))⟩
def szS (rs:List Rt):Int:=if (1048576:Int) < (rs.length:Int) then -1 else szV rs (1048576-rs.length)
theorem szS_in {rs:List Rt} (h:0≤szS rs):rs.length≤1048576∧∀ q∈rs,q.addr.size≤1048576:=by
 unfold szS at h;split at h
 ·omega
 ·exact ⟨by omega,fun q hq=>by have:=szV_bound _ _ h q hq; omega⟩
theorem szV_drop {rs:List Rt} {k:Nat} (h:k < rs.length) (left:Int):szV (rs.drop k) left=if left < (rs[k].addr.size:Int) then -1 else szV (rs.drop (k+1)) (left-rs[k].addr.size):=by
 rw [List.drop_eq_getElem_cons h]; rfl
theorem szV_end {rs:List Rt} {k:Nat} (h:rs.length≤k) (left:Int):szV (rs.drop k) left=left:=by
 rw [List.drop_eq_nil_of_le h]; rfl
theorem szRouteS_any (rs:List Rt) (a:Option Addr) (cap:Nat) (w:World) (hwf:RtsWf rs) (hr:RtsIs w a rs) :
  Calls Tryz.prog 10 #[.slice a rs.length cap,.int .i64 1048576] w fun e w'=>e=.returned (.int .i64 (szS rs))∧Below w.heap.size w w':=by
 have hlm:=hwf.1;unfold maxLen at hlm;by_cases hlong:(1048576:Int) < (rs.length:Int)
 ·have HV:Hid (szS rs=-1):=if_pos hlong;clear hr hwf;go_enter Tryz.func10,Tryz.ntmps10
  go_wp2_with fail
  go_ret;exact ⟨ret_int HV.out.symm,Below.refl _ _⟩
 ·have HV:Hid (szS rs=szV rs (1048576-rs.length)):=if_neg hlong;have HR:Hid (RtsIs w a rs):=hr;have HW:Hid (RtsWf rs):=hwf;clear hr hwf;go_enter Tryz.func10,Tryz.ntmps10
  go_wp2_with fail
  go_loopw [1,5] (fun l i wr=>∃ (k:Nat) (left:Int),k≤rs.length∧i=.int .i64 k∧l=.int .i64 left∧0≤left∧left≤1048576∧szV rs (1048576-rs.length)=szV (rs.drop k) left∧Below w.heap.size w wr) (fun _ i _=>rs.length-(intOf i).toNat)
  case atStart=>exact ⟨0,1048576-rs.length,Nat.zero_le _,rfl,rfl,by omega,by omega,rfl,Below.refl _ _⟩
  case round =>
   obtain ⟨k,left,hk,rfl,rfl,hl0,hl1,hz,hbel⟩:=hrel;have HK:Hid _:=hz;have HL:Hid (Below w.heap.size w wr):=hbel;clear hz hbel;by_cases hlt:k < rs.length
   ·obtain ⟨b,off,rfl,hb,hat⟩ : ∃ b off,a=some ⟨b,off,none⟩∧b < w.heap.size∧RtsAt w b off rs:=by
     rcases HR.out with h | h
     ·rw [h] at hlt; simp at hlt
     ·exact h
    have HA:=hat.below hb HL.out;have c0:=HA.c0 k hlt;have c1:=HA.c1 k hlt;have c2:=HA.c2 k hlt;have hst:=szV_drop hlt left;have hq2:=HW.out.2 rs[k] (List.getElem_mem hlt);obtain ⟨q,hq⟩ : ∃ q,q=rs[k]:=⟨_,rfl⟩;rw [← hq] at c0 c1 c2 hst hq2;have HST:Hid _:=hst;obtain ⟨hq3,hq4,hq5⟩:=hq2;have HC:Hid (∀ W,Calls Tryz.prog 44 #[.agg #[.string q.addr,.int .i64 q.bits,.int .i64 q.hop],.int .i64 left] W fun e w'=>e=.returned (.int .i64 (szP q.addr.size left))∧Below W.heap.size W w'):=fun W=>szRoute_any q left W hq3 hl0 hl1
    clear hq HA hat hst hq3;by_cases hs:left < (q.addr.size:Int)
    ·have HX:Hid (szS rs=-1):=by unfold Hid; rw [HV.out,HK.out,HST.out,if_pos hs]
     have hsz:szP q.addr.size left=-1:=if_pos hs;rw [hsz] at HC;clear hsz hs;go_wp2_with fail
     refine (HC.out _).mono ?_;rintro e w1 ⟨rfl,q1⟩;go_wp2_with fail
     go_ret;exact ⟨ret_int HX.out.symm,HL.out.trans (q1.mono HL.out.size)⟩
    ·have HX:Hid (szV (rs.drop k) left=szV (rs.drop (k+1)) (left-q.addr.size)):=HST.out.trans (if_neg hs);have hsz:szP q.addr.size left=left-q.addr.size:=if_neg hs;rw [hsz] at HC;obtain ⟨left',hle⟩ : ∃ x,x=left-(q.addr.size:Int):=⟨_,rfl⟩;rw [← hle] at HC HX;have hl0':0≤left':=by omega
     have hl1':left'≤1048576:=by omega
     clear hsz hs hle;go_wp2_with fail
     refine (HC.out _).mono ?_;rintro e w1 ⟨rfl,q1⟩;have HL1:Hid (Below w.heap.size w w1):=HL.out.trans (q1.mono HL.out.size);clear q1;go_wp2_with fail
     go_roundw
     case rel=>exact ⟨k+1,left',by omega,by go_num,rfl,hl0',hl1',by rw [HK.out,HX.out],HL1.out⟩
     case measure=>simp [intOf]; omega
   ·have HX:Hid (szS rs=left):=by unfold Hid; rw [HV.out,HK.out,szV_end (by omega)]
    go_wp2_with fail
    go_ret;exact ⟨ret_int HX.out.symm,HL.out⟩
structure RtsLaid (w:World) (B:Nat) (rs:List Rt) (k:Nat):Prop where
 blk:B < w.heap.size
 c0:∀ i (h:i < rs.length),i < k→w.cell? ⟨B,i*3,none⟩=some (.string rs[i].addr)
 c1:∀ i (h:i < rs.length),i < k→w.cell? ⟨B,i*3+1,none⟩=some (.int .i64 rs[i].bits)
 c2:∀ i (h:i < rs.length),i < k→w.cell? ⟨B,i*3+2,none⟩=some (.int .i64 rs[i].hop)
 there:∀ i,i < rs.length*3→(w.cell? ⟨B,i,none⟩).isSome=true
 free:∀ i,i < rs.length*3→w.frozen? ⟨B,i,none⟩=false
theorem RtsLaid.at {w:World} {B:Nat} {rs:List Rt} (h:RtsLaid w B rs rs.length):RtsAt w B 0 rs :=
 ⟨fun i hi=>by rw [Nat.zero_add]; exact h.c0 i hi hi,fun i hi=>by rw [Nat.zero_add]; exact h.c1 i hi hi,fun i hi=>by rw [Nat.zero_add]; exact h.c2 i hi hi⟩
theorem RtsLaid.below {w W:World} {B:Nat} {rs:List Rt} {k:Nat} (h:RtsLaid w B rs k) {n:Nat} (hn:B < n) (hB:Below n w W):RtsLaid W B rs k:=by
 have hc:∀ b o,b < n→W.cell? ⟨b,o,none⟩=w.cell? ⟨b,o,none⟩:=fun b o hb=>hB.cell (p:=⟨b,o,none⟩) hb
 have hf:∀ b o,b < n→W.frozen? ⟨b,o,none⟩=w.frozen? ⟨b,o,none⟩:=fun b o hb=>hB.frozen (p:=⟨b,o,none⟩) hb
 exact ⟨Nat.lt_of_lt_of_le h.blk hB.size,fun i hi hk=>(hc B _ hn).trans (h.c0 i hi hk),fun i hi hk=>(hc B _ hn).trans (h.c1 i hi hk),fun i hi hk=>(hc B _ hn).trans (h.c2 i hi hk),fun i hi=>by rw [hc B _ hn]; exact h.there i hi,fun i hi=>by rw [hf B _ hn]; exact h.free i hi⟩
theorem RtsLaid.set {w:World} {B:Nat} {rs:List Rt} {k:Nat} (h:RtsLaid w B rs k) (hk:k < rs.length):RtsLaid (w.setCells B (k*3) [.string rs[k].addr,.int .i64 rs[k].bits,.int .i64 rs[k].hop]) B rs (k+1):=by
 have hin:=World.cell?_setCells_in B [.string rs[k].addr,.int .i64 rs[k].bits,.int .i64 rs[k].hop] (k*3) w (fun j hj=>h.there _ (by simp at hj; omega));have hout:∀ n,n < k*3→(w.setCells B (k*3) [.string rs[k].addr,.int .i64 rs[k].bits,.int .i64 rs[k].hop]).cell? ⟨B,n,none⟩=w.cell? ⟨B,n,none⟩:=fun n hn=>World.cell?_setCells_out B _ (k*3) w _ (fun _ _=>.inl hn)
 refine ⟨Nat.lt_of_lt_of_le h.blk (below_setCells (B:=0) (Nat.zero_le _) _ _ _ (Below.refl 0 w)).size,fun i hi hk'=>?_,fun i hi hk'=>?_,fun i hi hk'=>?_,fun i hi=>?_,fun i hi=>by rw [World.frozen?_setCells]; exact h.free i hi⟩
 ·by_cases e:i=k
  ·subst e; exact hin 0 (by simp)
  ·rw [hout _ (by omega)]; exact h.c0 i hi (by omega)
 ·by_cases e:i=k
  ·subst e; exact hin 1 (by simp)
  ·rw [hout _ (by omega)]; exact h.c1 i hi (by omega)
 ·by_cases e:i=k
  ·subst e; exact hin 2 (by simp)
  ·rw [hout _ (by omega)]; exact h.c2 i hi (by omega)
 ·by_cases e:k*3≤i∧i < k*3+3
  ·obtain ⟨j,rfl⟩ : ∃ j,i=k*3+j:=⟨i-k*3,by omega⟩;rw [hin j (by simp; omega)]; rfl
  ·rw [World.cell?_setCells_out B _ (k*3) w _ (fun _ _=>by show i < k*3∨k*3+3≤i; omega)]; exact h.there i hi
theorem RtsLaid.start {w:World} {base n cap:Nat} {g:Nat} {e:TypeId} {xs:List Value} {rs:List Rt} (hn:n=rs.length) (h:w.ownsRow base e 3 (.slice (some ⟨g,0,none⟩) n cap) n xs):RtsLaid w g rs 0:=by
 obtain ⟨hl,h | ⟨g',cap',cur,hv,_,hh,hc,_,hsz,_⟩⟩:=h
 ·simp at h
 ·injection hv with hv _ hv3
  injection hv with hv
  injection hv with hv _
  subst hv hn hv3;have hlt:g < w.heap.size:=by
   by_cases hb:g < w.heap.size
   ·exact hb
   ·rw [Array.getElem?_eq_none (by omega)] at hh; simp at hh
  refine ⟨hlt,fun i hi hk=>by omega,fun i hi hk=>by omega,fun i hi hk=>by omega,fun i hi=>?_,fun i hi=>?_⟩
  ·have:i < cur.size:=by rw [hsz]; have:=Nat.mul_le_mul_right 3 hc; omega
   simp [World.cell?,hh,this]
  ·simp [World.frozen?,hh]
theorem three_back {w wx:World} {o1 o2 o3:Obj} (h:Below (((w.alloc o1).alloc o2).alloc o3).heap.size (((w.alloc o1).alloc o2).alloc o3) wx):Below w.heap.size w wx :=
 ((((Below.refl _ w).alloc (Nat.le_refl _) o1).alloc (by simp) o2).alloc (by simp; omega) o3).trans (h.mono (by simp; omega))
theorem three_size {w:World} {o1 o2 o3:Obj}:(((w.alloc o1).alloc o2).alloc o3).heap.size=w.heap.size+3:=by simp
theorem mid_cell {w:World} (o1 o3:Obj) {cs:Array Value} (t:TypeId) (j:Nat):(((w.alloc o1).alloc (.cells cs t)).alloc o3).cell? ⟨w.heap.size+1,j,none⟩=cs[j]?:=by
 have h:Below (w.heap.size+2) ((w.alloc o1).alloc (.cells cs t)) (((w.alloc o1).alloc (.cells cs t)).alloc o3):=(Below.refl _ _).alloc (by simp) _;rw [h.cell (p:=⟨w.heap.size+1,j,none⟩) (show w.heap.size+1 < w.heap.size+2 by omega)];show (w.alloc o1 |>.alloc (.cells cs t)).cell? ⟨w.heap.size+1,j,none⟩=cs[j]?;have e:((w.alloc o1).alloc (.cells cs t)).heap[w.heap.size+1]?=some (.cells cs t (0,0)):=by
  show ((w.heap.push o1).push (.cells cs t))[w.heap.size+1]?=_;rw [Array.getElem?_push,if_pos (by simp)]
 unfold World.cell?;rw [show (⟨w.heap.size+1,j,none⟩ : Addr).block=w.heap.size+1 from rfl,e];rfl
theorem toRoute_any (q:Rt) (w:World) :
  Calls Tryz.prog 46 #[.agg #[.string q.addr,.int .i64 q.bits,.int .i64 q.hop]] w fun e w'=>e=.returned (.agg #[.string q.addr,.int .i64 q.bits,.int .i64 q.hop])∧Below w.heap.size w w':=by
 have HC:Hid (∀ W,Calls Tryz.prog 15 #[.agg #[.string q.addr,.int .i64 q.bits]] W fun e w'=>e=.returned (.agg #[.string q.addr,.int .i64 q.bits])∧Below W.heap.size W w'):=fun W=>toPrefix_any q.addr q.bits W
 go_enter Tryz.func46,Tryz.ntmps46
 go_wp2_with fail
 refine (HC.out _).mono ?_;rintro e w1 ⟨rfl,q1⟩;have HQ:Hid _:=q1;obtain ⟨hc,hf⟩:=bcell q1;have r0:w1.cell? ⟨w.heap.size+1,0,none⟩=some (.string ⟨#[]⟩):=(hc (w.heap.size+1) 0 (by rw [three_size]; omega)).trans (mid_cell _ _ _ 0);have r1:w1.cell? ⟨w.heap.size+1,1,none⟩=some (.int .i64 0):=(hc (w.heap.size+1) 1 (by rw [three_size]; omega)).trans (mid_cell _ _ _ 1);have r2:w1.cell? ⟨w.heap.size+1,2,none⟩=some (.int .i64 0):=(hc (w.heap.size+1) 2 (by rw [three_size]; omega)).trans (mid_cell _ _ _ 2);go_wp2_with fail
 exact bodyPost_ret (v:=.agg #[.string q.addr,.int .i64 q.bits,.int .i64 q.hop]) (by simp [results,Tryz.results46,go_sem,r0,r1,r2]) rfl ⟨rfl,((((((three_back HQ.out).setCell (show w.heap.size≤w.heap.size+1+1 by omega) _).setCell (show w.heap.size≤w.heap.size+1+1 by omega) _).setCell (show w.heap.size≤w.heap.size+1+1 by omega) _).setCell (show w.heap.size≤w.heap.size+1 by omega) _).setCell (show w.heap.size≤w.heap.size+1 by omega) _).setCell (show w.heap.size≤w.heap.size+1 by omega) _⟩
theorem Tryz.infoR:(Tryz.prog.info? 94).map (fun i=>(i.zero,i.size,i.bytes))=some (some (.agg #[.string ⟨#[]⟩,.int .i64 0,.int .i64 0]),3,32):=by kernel_rfl
theorem toRouteS_any (rs:List Rt) (a:Option Addr) (cap:Nat) (w:World) (hwf:RtsWf rs) (hlen:rs.length≤1048576) (hr:RtsIs w a rs) :
  Calls Tryz.prog 13 #[.slice a rs.length cap] w fun e w'=>e=.returned (.slice (some ⟨w.heap.size,0,none⟩) rs.length rs.length)∧Below w.heap.size w w'∧RtsLaid w' w.heap.size rs rs.length:=by
 have HR:Hid (RtsIs w a rs):=hr;have HW:Hid (RtsWf rs):=hwf;clear hr hwf;obtain ⟨i0,hi,hz0,hz1,hz2⟩:=info_parts Tryz.infoR;go_enter Tryz.func13,Tryz.ntmps13
 go_wp2_with (at_make; refine wpList_make_full _ rfl _ _ 23 rfl w.heap.size 94 i0 (.agg #[.string ⟨#[]⟩,.int .i64 0,.int .i64 0]) 3 Tryz.underlying23 hi hz0 hz1 .i64 .i64 _ _ rs.length rfl rfl (by omega) (by omega) (by rw [hz2]; omega) (by unfold maxLen; omega) (Nat.le_refl _) ?_; intro w1 hown hgrow)
 have hlaid:=RtsLaid.start (rs:=rs) rfl hown;have hbel:Below w.heap.size w w1:=⟨hgrow.os,hgrow.tape,hgrow.output,hgrow.size,fun k hk=>hgrow.block k hk (by simp)⟩;have HY:Hid (RtsLaid w1 w.heap.size rs 0):=hlaid;have HB:Hid (Below w.heap.size w w1):=hbel;clear hown hgrow hlaid hbel hi hz0 hz1 hz2;go_wp2_with fail
 go_loopw [4] (fun i wr=>∃ k:Nat,k≤rs.length∧i=.int .i64 k∧RtsLaid wr w.heap.size rs k∧Below w.heap.size w wr) (fun i _=>rs.length-(intOf i).toNat)
 case atStart=>exact ⟨0,Nat.zero_le _,rfl,HY.out,HB.out⟩
 case round =>
  obtain ⟨k,hk,rfl,hy,hbel⟩:=hrel;have HK:Hid (RtsLaid wr w.heap.size rs k):=hy;have HL:Hid (Below w.heap.size w wr):=hbel;clear hy hbel;by_cases hlt:k < rs.length
  ·obtain ⟨b,off,rfl,hb,hat⟩ : ∃ b off,a=some ⟨b,off,none⟩∧b < w.heap.size∧RtsAt w b off rs:=by
    rcases HR.out with h | h
    ·rw [h] at hlt; simp at hlt
    ·exact h
   have HA:=hat.below hb HL.out;have c0:=HA.c0 k hlt;have c1:=HA.c1 k hlt;have c2:=HA.c2 k hlt;obtain ⟨q,hq⟩ : ∃ q,q=rs[k]:=⟨_,rfl⟩;rw [← hq] at c0 c1 c2;have HQ:Hid (q=rs[k]):=hq;have HC:Hid (∀ W,Calls Tryz.prog 46 #[.agg #[.string q.addr,.int .i64 q.bits,.int .i64 q.hop]] W fun e w'=>e=.returned (.agg #[.string q.addr,.int .i64 q.bits,.int .i64 q.hop])∧Below W.heap.size W w'):=fun W=>toRoute_any q W
   clear hq HA hat;go_wp2_with fail
   refine (HC.out _).mono ?_;rintro e w2 ⟨rfl,q2⟩;have HL2:Hid (Below w.heap.size w w2):=HL.out.trans (q2.mono HL.out.size);have HK2:Hid (RtsLaid w2 w.heap.size rs k):=HK.out.below HK.out.blk q2;clear q2 c0 c1 c2;obtain ⟨v0,t0⟩:=Option.isSome_iff_exists.1 (HK2.out.there (k*3) (by omega));obtain ⟨v1,t1⟩:=Option.isSome_iff_exists.1 (HK2.out.there (k*3+1) (by omega));obtain ⟨v2,t2⟩:=Option.isSome_iff_exists.1 (HK2.out.there (k*3+2) (by omega));have f0:=HK2.out.free (k*3) (by omega);have f1:=HK2.out.free (k*3+1) (by omega);have f2:=HK2.out.free (k*3+2) (by omega);go_wp2_with fail
   go_roundw
   case rel =>
    have hset:=HK2.out.set hlt;rw [← HQ.out] at hset;exact ⟨k+1,by omega,by go_num,hset,((HL2.out.setCell (Nat.le_refl _) _).setCell (Nat.le_refl _) _).setCell (Nat.le_refl _) _⟩
   case measure=>simp [intOf]; omega
  ·have hkl:k=rs.length:=by omega
   have HE:Hid (RtsLaid wr w.heap.size rs rs.length):=by unfold Hid; rw [← hkl]; exact HK.out
   clear HK;go_wp2_with fail
   go_ret;exact ⟨rfl,HL.out,HE.out⟩
theorem eqPrefix_same (s:ByteArray) (c:Int) (w:World) :
  Calls Tryz.prog 49 #[.agg #[.string s,.int .i64 c],.agg #[.string s,.int .i64 c]] w fun e w'=>e=.returned (.bool true)∧Below w.heap.size w w':=by
 go_enter Tryz.func49,Tryz.ntmps49
 go_wp2
 go_ret;exact ⟨rfl,((Below.refl _ _).alloc (Nat.le_refl _) _).alloc (by simp) _⟩
theorem two_back {w wx:World} {o1 o2:Obj} (h:Below ((w.alloc o1).alloc o2).heap.size ((w.alloc o1).alloc o2) wx):Below w.heap.size w wx :=
 (((Below.refl _ w).alloc (Nat.le_refl _) o1).alloc (by simp) o2).trans (h.mono (by simp; omega))
theorem eqRoute_same (q:Rt) (w:World) :
  Calls Tryz.prog 53 #[.agg #[.string q.addr,.int .i64 q.bits,.int .i64 q.hop],.agg #[.string q.addr,.int .i64 q.bits,.int .i64 q.hop]] w fun e w'=>e=.returned (.bool true)∧Below w.heap.size w w':=by
 have HC:Hid (∀ W,Calls Tryz.prog 49 #[.agg #[.string q.addr,.int .i64 q.bits],.agg #[.string q.addr,.int .i64 q.bits]] W fun e w'=>e=.returned (.bool true)∧Below W.heap.size W w'):=fun W=>eqPrefix_same q.addr q.bits W
 go_enter Tryz.func53,Tryz.ntmps53
 go_wp2_with fail
 refine (HC.out _).mono ?_;rintro e w1 ⟨rfl,q1⟩;have HQ:Hid _:=q1;obtain ⟨hc,hf⟩:=bcell q1;go_wp2_with fail
 go_ret;exact ⟨rfl,two_back HQ.out⟩
end Go.Proofs.YthagnjokdnnmpaaGreat
