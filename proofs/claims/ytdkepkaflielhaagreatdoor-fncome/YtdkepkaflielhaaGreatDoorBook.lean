import Derived.Test.YtdkepkaflielhaaGreatDoorSz
import Derived.Test.YtdkepkaflielhaaGreatDoorAb
import Derived.Test.YtdkepkaflielhaaGreatDoorIBk4
import Derived.Test.YtdkepkaflielhaaGreatDoorMapRun
import Derived.DeepKeys5
import Derived.Deep.DeepCutAuto
set_option linter.unusedVariables false
set_option linter.unusedSimpArgs false
set_option maxRecDepth 100000
set_option maxHeartbeats 8000000
namespace Go.Proofs.YtdkepkaflielhaaGreatDoor
open Go.RowKit Go.PlainAid
open Go.Maps (Keyed)
def bkC (pa:Option Addr) (pc:Nat) (p:Pl) (a b:Option Addr) (ca cb:Nat) (x:Bb) (m1 m2:Nat):Value:=.agg (KkV pa pc p a ca b cb x m1 m2).toArray
def EnIn (e:En):Prop:=e.addr.size≤1048576∧In64t e.proto∧In64t e.port
def BdGood (q:Bd):Prop:=q.inn.size≤1048576∧q.out.size≤1048576∧In64t q.proto∧In64t q.inPort∧In64t q.outPort
def SsGood (s:Ss):Prop:=s.inn.size≤1048576∧s.peer.size≤1048576∧In64t s.proto∧In64t s.inPort
theorem hostE_in {q:Bd} (h:BdGood q):EnIn (hostE q):=⟨h.1,h.2.2.1,h.2.2.2.1⟩
theorem lentE_in {q:Bd} (h:BdGood q):EnIn (lentE q):=⟨h.2.1,h.2.2.1,h.2.2.2.2⟩
theorem sessE_in {s:Ss} (h:SsGood s):EnIn (sessE s):=⟨h.1,h.2.2.1,h.2.2.2⟩
theorem sameEn_iff (q p:En):sameEn q p=true↔q=p:=by
 rw [sameEn_eq];simp only [Bool.and_eq_true,decide_eq_true_iff];constructor
 ·rintro ⟨⟨h1,h2⟩,h3⟩;have h4:q.addr=p.addr:=by
   rw [ByteArray.toList_eq,ByteArray.toList_eq] at h2;apply ByteArray.ext;exact Array.toList_inj.1 h2
  cases q; cases p; simp_all
 ·rintro rfl; simp
theorem enC_inj {q p:En} (h:enC q=enC p):q=p:=by
 unfold enC at h;simp at h
 cases q; cases p; simp_all
theorem find_some_any {α:Type} (f:α→Bool) (xs:List α):(xs.find? f).isSome=xs.any f:=by
 rw [Bool.eq_iff_iff,List.find?_isSome,List.any_eq_true]
theorem keyed_en:Keyed Tryz.prog 86:=Keyed.of_law (deep_law_gate (by kernel_rfl) (of_decide_eq_true (by kernel_rfl)) (of_decide_eq_true (by kernel_rfl)) (by kernel_rfl) (by kernel_rfl))
theorem wf64b {n:Int} (h:In64t n):(Lit.int .i64 n).wf=true:=by
 simp [Lit.wf]; exact ⟨h.1,h.2⟩
theorem keyOf_en (e:En) (h:EnIn e):∃ l,keyOf Tryz.prog 86 (enC e)=some l:=by
 obtain ⟨h1,h3,h4⟩:=h;have h1:e.addr.size≤maxLen:=by unfold maxLen; omega
 have k1:Tryz.prog.keyType 86=true:=by kernel_rfl
 have k2:Tryz.prog.cellsOf 86=3:=by kernel_rfl
 have k3:Tryz.prog.cellsOf 9=1:=by kernel_rfl
 have k4:Tryz.prog.cellsOf 2=1:=by kernel_rfl
 have k5:∃ m,Tryz.prog.types.size+1=m+2:=⟨Tryz.prog.types.size-1,by have:1≤Tryz.prog.types.size:=of_decide_eq_true (by kernel_rfl); omega⟩;obtain ⟨m,k5⟩:=k5;have w3:=wf64b h3;have w4:=wf64b h4;unfold keyOf;rw [Tryz.underlying86];simp only [k1,Value.formed,enC,Tryz.underlying86,k2,Value.cells,k5];simp [Program.keyLits,Tryz.underlying86,Tryz.underlying9,Tryz.underlying2,k2,k3,k4,h1,w3,w4]
theorem zero_bd (w:World):(zeroValue 48).run Tryz.prog w=.ok (bdC bdZ) w:=by kernel_rfl
structure BookOf (w:World) (m1 m2:Nat) (xs ys:List Bd) (M1 M2:Value→Option Value):Prop where
 h1:MapAt Tryz.prog 86 w m1 M1
 h2:MapAt Tryz.prog 86 w m2 M2
 v1:∀ e:En,M1 (enC e)=(xs.find? fun q=>sameEn (hostE q) e).map bdC
 v2:∀ e:En,M2 (enC e)=(ys.find? fun q=>sameEn (lentE q) e).map bdC
 ne:m1≠m2
def BookAt (w:World) (m1 m2:Nat) (xs ys:List Bd):Prop:=∃ M1 M2,BookOf w m1 m2 xs ys M1 M2
section
variable {w W:World} {m1 m2:Nat} {xs ys:List Bd}
theorem BookAt.kept (h:BookAt w m1 m2 xs ys) (hb:Below w.heap.size w W):BookAt W m1 m2 xs ys:=by
 obtain ⟨M1,M2,h⟩:=h;exact ⟨M1,M2,h.h1.below hb,h.h2.below hb,h.v1,h.v2,h.ne⟩
theorem BookAt.lt (h:BookAt w m1 m2 xs ys):m1 < w.heap.size∧m2 < w.heap.size∧m1≠m2:=by
 obtain ⟨M1,M2,h⟩:=h;exact ⟨h.h1.lt,h.h2.lt,h.ne⟩
theorem BookAt.made {w:World}:BookAt ((w.alloc (.map #[] 0)).alloc (.map #[] 0)) w.heap.size (w.heap.size+1) [] []:=by
 have h2:=MapAt.made (P:=Tryz.prog) (k:=86) (w.alloc (.map #[] 0));rw [World.size_alloc] at h2;refine ⟨fun _=>none,fun _=>none,(MapAt.made w).below (bR.alloc lR _),h2,fun e=>rfl,fun e=>rfl,by omega⟩
theorem map_get (o:Option Bd):(o.map bdC).getD (bdC bdZ)=bdC (o.getD bdZ):=by cases o<;>rfl
theorem BookAt.look1 (h:BookAt w m1 m2 xs ys) {e:En} (he:EnIn e):(Instr.lookup 137 (.map (some m1)) (enC e) true).run Tryz.prog w=.ok (.tuple #[bdC ((xs.find? fun q=>sameEn (hostE q) e).getD bdZ),.bool (xs.find? fun q=>sameEn (hostE q) e).isSome]) w:=by
 obtain ⟨M1,M2,h⟩:=h;obtain ⟨l,hl⟩:=keyOf_en e he;have h1:=(h.h1.look (t:=137) keyed_en Tryz.underlying137 hl (zero_bd w)).2;rw [h.v1,map_get,Option.isSome_map] at h1;exact h1
theorem BookAt.get1 (h:BookAt w m1 m2 xs ys) {e:En} (he:EnIn e):(Instr.lookup 137 (.map (some m1)) (enC e) false).run Tryz.prog w=.ok (bdC ((xs.find? fun q=>sameEn (hostE q) e).getD bdZ)) w:=by
 obtain ⟨M1,M2,h⟩:=h;obtain ⟨l,hl⟩:=keyOf_en e he;have h1:=(h.h1.look (t:=137) keyed_en Tryz.underlying137 hl (zero_bd w)).1;rw [h.v1,map_get] at h1;exact h1
theorem BookAt.look2 (h:BookAt w m1 m2 xs ys) {e:En} (he:EnIn e):(Instr.lookup 137 (.map (some m2)) (enC e) true).run Tryz.prog w=.ok (.tuple #[bdC ((ys.find? fun q=>sameEn (lentE q) e).getD bdZ),.bool (ys.find? fun q=>sameEn (lentE q) e).isSome]) w:=by
 obtain ⟨M1,M2,h⟩:=h;obtain ⟨l,hl⟩:=keyOf_en e he;have h1:=(h.h2.look (t:=137) keyed_en Tryz.underlying137 hl (zero_bd w)).2;rw [h.v2,map_get,Option.isSome_map] at h1;exact h1
theorem find_snoc (E:Bd→En) (xs:List Bd) (q:Bd) (hn:xs.any (fun c=>sameEn (E c) (E q))=false) (M M':Value→Option Value) (hM:∀ e:En,M (enC e)=(xs.find? fun c=>sameEn (E c) e).map bdC) (h1:M' (enC (E q))=some (bdC q)) (h2:∀ y,y≠enC (E q)→M' y=M y) (e:En):M' (enC e)=((xs++[q]).find? fun c=>sameEn (E c) e).map bdC:=by
 rw [List.find?_append];by_cases he:e=E q
 ·subst he;have h0:xs.find? (fun c=>sameEn (E c) (E q))=none:=List.find?_eq_none.2 (fun c hc=>List.any_eq_false.1 hn c hc);have hs:sameEn (E q) (E q)=true:=(sameEn_iff _ _).2 rfl;rw [h0,h1]; simp [hs]
 ·have hs:sameEn (E q) e=false:=by
   cases h:sameEn (E q) e with
   | false=>rfl
   | true=>exact absurd ((sameEn_iff _ _).1 h).symm he
  rw [h2 _ (fun h=>he (enC_inj h)),hM];simp [hs]
theorem BookAt.put1 (h:BookAt w m1 m2 xs ys) {q:Bd} (hq:EnIn (hostE q)) (hn:xs.any (fun c=>sameEn (hostE c) (hostE q))=false) :
  ∃ W,(Instr.mapUpdate 137 (.map (some m1)) (enC (hostE q)) (bdC q)).run Tryz.prog w=.ok () W∧BookAt W m1 m2 (xs++[q]) ys∧w.grownBy W (some m1):=by
 obtain ⟨M1,M2,h⟩:=h;obtain ⟨l,hl⟩:=keyOf_en _ hq;obtain ⟨W,M',hup,hM',hx,hoth,hg,hs⟩:=h.h1.put (v:=bdC q) keyed_en Tryz.underlying137 hl;exact ⟨W,hup,⟨M',M2,hM',h.h2.grown hg (by simp; exact fun e=>h.ne e.symm),find_snoc hostE xs q hn M1 M' h.v1 hx hoth,h.v2,h.ne⟩,hg⟩
theorem BookAt.put2 (h:BookAt w m1 m2 xs ys) {q:Bd} (hq:EnIn (lentE q)) (hn:ys.any (fun c=>sameEn (lentE c) (lentE q))=false) :
  ∃ W,(Instr.mapUpdate 137 (.map (some m2)) (enC (lentE q)) (bdC q)).run Tryz.prog w=.ok () W∧BookAt W m1 m2 xs (ys++[q])∧w.grownBy W (some m2):=by
 obtain ⟨M1,M2,h⟩:=h;obtain ⟨l,hl⟩:=keyOf_en _ hq;obtain ⟨W,M',hup,hM',hx,hoth,hg,hs⟩:=h.h2.put (v:=bdC q) keyed_en Tryz.underlying137 hl;exact ⟨W,hup,⟨M1,M',h.h1.grown hg (by simp; exact h.ne),hM',h.v1,find_snoc lentE ys q hn M2 M' h.v2 hx hoth,h.ne⟩,hg⟩
end
def IsZd (base:Nat):Value→World→Prop:=fun v w=>∃ g,v=.pointer (some ⟨g,0,none⟩)∧base≤g∧HoldsL w g (bdL bdZ)
theorem stable_isZd (base:Nat):Stable (IsZd base):=fun v w w' ⟨g,h1,h2,h3⟩ hb=>⟨g,h1,h2,h3.kept (by simp [bdL]) hb⟩
end Go.Proofs.YtdkepkaflielhaaGreatDoor
