import Derived.Test.YthagnjokdnnmpaaGreatMerged7
import Derived.Test.YthagnjokdnnmpaaGreatGrowV
import Derived.Test.YthagnjokdnnmpaaGreatMerged3
import Derived.Laws.IdiomStrings
import Derived.Test.YthagnjokdnnmpaaGreatMerged1
import Derived.ChangeArms
import Derived.WideShapes
import Derived.ChangeShapes
import Derived.Test.YthagnjokdnnmpaaGreatMerged4
import Derived.BigQuiet
import Derived.Deep.DeepCutAuto
import Derived.Deep.RegionWith
import Derived.RegionTactic
set_option linter.unusedVariables false
set_option linter.unusedSimpArgs false
set_option maxRecDepth 100000
set_option maxHeartbeats 8000000
namespace Go.Proofs.YthagnjokdnnmpaaGreat
open Go.RowKit Go.ChangeShapes
section
variable {P:Program} {ops:Array Oper} {Q:Exit→Act→World→Prop} {ds:List Tmp} {R:Nat→Value→World→Prop} {a0:Act} {w0:World} {E:World→World→Prop} {I:World→Prop}
def GStepX (E:World→World→Prop) (I:World→Prop) (P:Program) (ops:Array Oper) (Q:Exit→Act→World→Prop) (ds:List Tmp) (R:Nat→Value→World→Prop) (a0:Act) (i:Nat) (o:Oper):Prop :=
 ∀ (K':Act→World→Prop) (a:Act) (w:World),(∀ t,t ∉ ds→slot a t=slot a0 t)→(∀ e∈o.after,Region.binds .any e=true→R e.on (slot a (ds.getD e.on 0)) w) →
  I w→(∀ v w',R i v w'→E w w'→I w'→K' (a.put o.dst v) w')→if Region.wanted o (yielded ops a.tmps)=true then Oper.wp P o a w K' Q else K' (a.put o.dst undef) w
theorem GStepX.congr {R R':Nat→Value→World→Prop} {i:Nat} {o:Oper} (ht:∀ e∈o.after,Region.binds .any e=true→e.on < i) (h:∀ j,j≤i→R j=R' j) (hs:GStepX E I P ops Q ds R a0 i o):GStepX E I P ops Q ds R' a0 i o:=by
 intro K' a w ho hd hb hK;refine hs K' a w ho (fun e he hbd=>?_) hb (fun v w' hr=>?_)
 ·rw [h e.on (Nat.le_of_lt (ht e he hbd))]; exact hd e he hbd
 ·rw [h i (Nat.le_refl _)] at hr; exact hK v w' hr
theorem wpAny_growXV (hF:GFormV ops ds a0.tmps.size) (hst:∀ i v w w',R i v w→E w w'→R i v w')
  (hstep:∀ i o,i < ds.length→ops[i]?=some o→GStepX E I P ops Q ds R a0 i o)
  (hdone:∀ a w,a.tmps.size=a0.tmps.size→a.defers=a0.defers→(∀ t,t ∉ ds→slot a t=slot a0 t)→(∀ i,i < ds.length→R i (slot a (ds.getD i 0)) w)→I w→wpSeq P Q (ops.toList.drop ds.length) a w) :
  ∀ (fuel:Nat) (listed:Array Bool) (a:Act) (w:World),unl listed ops.size≤fuel→XInv E I ops ds R a0 w0 listed a w→(∀ j,j < ops.size→ds.length≤j→listed.getD j false=false)→(∀ i o,ops[i]?=some o→listed.getD i false=true→∀ e∈o.after,Region.binds .any e=true→listed.getD e.on false=true)→wpAny P .any ops Q fuel listed a w:=by
 have ft:∀ (listed:Array Bool) (j:Nat),j < listed.size→(listed.getD j true=listed.getD j false):=fun listed j hj=>by simp [hj]
 intro fuel;induction fuel with
 | zero =>
  intro listed a w hu hI hs hcl;exfalso
  have:=unl_zero (listed:=listed) ops.size (by omega) ds.length hF.le;rw [ft listed _ (by rw [hI.size]; exact hF.le),hs _ hF.le (Nat.le_refl _)] at this;simp at this
 | succ fuel ih =>
  intro listed a w hu hI hs hcl;by_cases hall:∀ j,j < ds.length→listed.getD j false=true
  ·refine wpAny_seq hF (fuel+1) ds.length listed a w (Nat.le_refl _) (Nat.le_of_lt hF.le) hI.size (fun j hj=>⟨fun h=>?_,fun h=>hall j h⟩) ?_ (hdone a w hI.tsize hI.defers hI.outer (fun j hj=>hI.inner j (hall j hj)) hI.inv)
   ·by_cases e:j < ds.length
    ·exact e
    ·rw [hs j hj (by omega)] at h; simp at h
   ·refine Nat.le_trans ?_ hu;have key:∀ n,n≤ops.size→n-ds.length≤unl listed n:=by
     intro n;induction n with
     | zero=>intro _; omega
     | succ n ihn =>
      intro hn;have h1:=ihn (by omega);unfold unl;by_cases e:n < ds.length
      ·omega
      ·rw [if_neg (by rw [ft listed n (by rw [hI.size]; omega),hs n (by omega) (by omega)]; simp)];omega
    exact key ops.size (Nat.le_refl _)
  ·refine ⟨fun hr=>?_,fun i hi=>?_⟩
   ·exfalso
    refine hall (fun i=>?_);induction i using Nat.strongRecOn with
    | ind i ih2 =>
     intro hil;have hio:i < ops.size:=Nat.lt_trans hil hF.le;by_cases hh:listed.getD i true=true
     ·rw [ft listed i (by rw [hI.size]; exact hio)] at hh; exact hh
     ·exfalso
      have hmem:i∈Region.ready .any ops listed:=by
       rw [mem_ready];refine ⟨by simpa using hh,ops[i],by simp [hio],fun e he hb=>?_⟩;have hlt:=hF.topo i ops[i] (by simp [hio]) e he hb;exact ih2 _ hlt (by omega)
      rw [hr] at hmem;simp at hmem
   ·rw [mem_ready] at hi;obtain ⟨h0,o,ho,hdeps⟩:=hi;have hio:i < ops.size:=(Array.getElem?_eq_some_iff.1 ho).1;have hil:i < ds.length:=by
     by_cases e:i < ds.length
     ·exact e
     ·exfalso
      by_cases e2:ds.length < i
      ·obtain ⟨e1,he,hb,hon⟩:=hF.swait i o e2 ho;have h1:=hdeps e1 he hb;rw [hs e1.on (by omega) (by omega)] at h1;simp at h1
      ·have hin:i=ds.length:=by omega
       refine hall ?_;have key:∀ d j,ds.length-j≤d→j < ds.length→listed.getD j false=true:=by
        intro d;induction d with
        | zero=>intro j h1 h2; omega
        | succ d ihd =>
         intro j h1 h2;obtain ⟨q,oq,hq1,hq2,hoq,ed,he,hb,hon⟩:=hF.lall j h2;by_cases e3:q=ds.length
         ·subst hin;subst e3;obtain rfl:o=oq:=by rw [ho] at hoq; exact Option.some.inj hoq
          rw [← hon]; exact hdeps ed he hb
         ·rw [← hon]; exact hcl q oq hoq (ihd q (by omega) (by omega)) ed he hb
       exact fun j hj=>key ds.length j (by omega) hj
    have hd:=hF.dst i o hil ho;have hmem:ds.getD i 0∈ds:=by rw [getD_at hil]; exact List.getElem_mem hil
    refine wpOp_step ho (fun K' hK=>?_);refine hstep i o hil ho K' a w hI.outer (fun e he hb=>hI.inner _ (hdeps e he hb)) hI.inv (fun v w' hR hB hI'=>hK _ _ ?_);refine ih _ _ _ (by have:=unl_set h0 ops.size hio; omega) ⟨by simp [hI.size],?_,?_,fun t ht=>?_,fun j hj=>?_,hI'⟩ (fun j hj hn=>by rw [getD_set_ne false (by omega)]; exact hs j hj hn) ?_
    ·rw [hd]; simp [Act.put,hI.tsize]
    ·rw [hd]; simp [Act.put,hI.defers]
    ·rw [hd,slot_put_ne (show ds.getD i 0≠t from fun e=>ht (e ▸ hmem))]; exact hI.outer t ht
    ·rw [hd];by_cases e:i=j
     ·subst e;rw [slot_put_eq (by rw [hI.tsize]; exact hF.fits _ hmem)];exact hR
     ·rw [getD_set_ne false e] at hj;have hjo:j < ops.size:=by
       rw [← hI.size];rcases Nat.lt_or_ge j listed.size with h' | h'
       ·exact h'
       ·simp [Array.getElem?_eq_none h'] at hj
      have hjl:j < ds.length:=by
       by_cases e2:j < ds.length
       ·exact e2
       ·rw [hs j hjo (by omega)] at hj; simp at hj
      rw [slot_put_ne (nodup_ne hF.nodup hil hjl e)];exact hst _ _ _ _ (hI.inner j hj) hB
    ·have hset:∀ j,listed.getD j false=true→(listed.setIfInBounds i true).getD j false=true:=fun j hj=>by
      by_cases e:i=j
      ·subst e; have hsz:i < listed.size:=by rw [hI.size]; exact hio
       simp [hsz]
      ·rw [getD_set_ne false e]; exact hj
     intro j o' ho' hj e he hb;by_cases hij:i=j
     ·subst hij;obtain rfl:o=o':=by rw [ho] at ho'; exact Option.some.inj ho'
      exact hset _ (hdeps e he hb)
     ·rw [getD_set_ne false hij] at hj;exact hset _ (hcl j o' ho' hj e he hb)
def XChV (E:World→World→Prop) (I:World→Prop) (P:Program) (ops:Array Oper) (Q:Exit→Act→World→Prop) (ds:List Tmp) (a0:Act) (suf:List Oper):List (Value→World→Prop)→List Oper→Prop
 | Rs,[]=>∀ (X:Nat→Value) w,RAll X w 0 Rs→I w→wpSeq P Q suf (putsFrom X a0 0 ds) w
 | Rs,o::l=>∃ r,StableX E r∧GStepX E I P ops Q ds (rAt (Rs++[r])) a0 Rs.length o∧XChV E I P ops Q ds a0 suf (Rs++[r]) l
theorem XChV.all {suf:List Oper}:∀ (l:List Oper) (Rs:List (Value→World→Prop)),(∀ i o,l[i]?=some o→∀ e∈o.after,Region.binds .any e=true→e.on < Rs.length+i)→(∀ r∈Rs,StableX E r)→XChV E I P ops Q ds a0 suf Rs l →
  ∃ Ss,(Rs++Ss).length=Rs.length+l.length∧(∀ r∈Rs++Ss,StableX E r)∧(∀ i o,l[i]?=some o→GStepX E I P ops Q ds (rAt (Rs++Ss)) a0 (Rs.length+i) o)∧(∀ (X:Nat→Value) w,RAll X w 0 (Rs++Ss)→I w→wpSeq P Q suf (putsFrom X a0 0 ds) w)
 | [],Rs,_,hst,h=>⟨[],by simp,by simpa using hst,fun i o ho=>by simp at ho,by rw [List.append_nil]; exact h⟩
 | o::l,Rs,ht,hst,⟨r,hr,hs,hc⟩=>by
  obtain ⟨Ss,h1,h2,h3,h4⟩:=XChV.all l (Rs++[r]) (fun i o' ho e he hb=>by
   have:=ht (i+1) o' (by simpa using ho) e he hb;simp; omega) (fun x hx=>by
   rcases List.mem_append.1 hx with hx | hx
   ·exact hst x hx
   ·simp at hx; subst hx; exact hr) hc
  refine ⟨r::Ss,by simp at h1 ⊢; omega,by simpa using h2,fun i o' ho=>?_,by simpa using h4⟩;have e:Rs++r::Ss=Rs++[r]++Ss:=by simp
  rw [e]
  cases i with
  | zero =>
   simp at ho;subst ho;refine GStepX.congr (ht 0 o rfl) (fun j hj=>?_) hs;exact (rAt_left (by simp; omega)).symm
  | succ i =>
   have:=h3 i o' (by simpa using ho);rwa [show (Rs++[r]).length+i=Rs.length+(i+1) by simp; omega] at this
theorem wp_region_growXV {id:Nat} (E:World→World→Prop) (I:World→Prop) (ds:List Tmp) (hm:P.follows .mixedOrders=true) (hF:gformV ops ds a0.tmps.size=true) (hI0:I w0.drew) (h:XChV E I P ops Q ds a0 (ops.toList.drop ds.length) [] (ops.toList.take ds.length)) :
  (Code.region id ops true).wp P Q a0 w0:=by
 have hG:=GFormV.of hF;have hle:=hG.le;obtain ⟨Ss,h1,h2,h3,h4⟩:=XChV.all (ops.toList.take ds.length) [] (fun i o ho e he hb=>by
  have hi:i < ds.length:=by
   by_cases e2:i < ds.length
   ·exact e2
   ·rw [List.getElem?_eq_none (by simp; omega)] at ho; simp at ho
  rw [List.getElem?_take,if_pos hi] at ho;have:=hG.topo i o (by simpa using ho) e he hb;simpa using this) (fun r hr=>by simp at hr) h
 simp only [List.nil_append,List.length_nil,Nat.zero_add] at h1 h2 h3 h4;have hlen:Ss.length=ds.length:=by rw [h1]; simp; omega
 refine wp_region_any hm (wpAny_growXV (E:=E) (I:=I) (w0:=w0.drew) (R:=rAt Ss) hG (fun i v w w' h hb=>?_) (fun i o hi ho=>?_) (fun a w g1 g2 g3 g4 g5=>?_) ops.size _ a0 w0.drew (unl_le _ _) ⟨by simp,rfl,rfl,fun _ _=>rfl,fun i hi=>?_,hI0⟩ (fun j hj _=>by simp [hj]) (fun i o ho hi=>?_))
 ·unfold rAt at *;by_cases hi:i < Ss.length
  ·have e:Ss.getD i (fun _ _=>True)=Ss[i]:=by simp [hi]
   rw [e] at h ⊢;exact h2 _ (List.getElem_mem hi) v w w' h hb
  ·have e:Ss.getD i (fun _ _=>True)=fun _ _=>True:=by simp [Nat.le_of_not_lt hi]
   rw [e]; trivial
 ·exact h3 i o (by rw [List.getElem?_take,if_pos hi]; simpa using ho)
 ·have hp:putsFrom (fun i=>slot a (ds.getD i 0)) a0 0 ds=a:=puts_eq ds a0 0 g1.symm g2.symm (fun i _=>by rw [Nat.zero_add]) (fun t ht=>(g3 t ht).symm) (fun d hd=>by rw [g1]; exact hG.fits d hd);rw [← hp];exact h4 (fun i=>slot a (ds.getD i 0)) w (RAll.mk Ss 0 (fun i hi=>by rw [Nat.zero_add]; exact g4 i (by omega))) g5
 ·exfalso
  by_cases h:i < ops.size
  ·simp [h] at hi
  ·simp [h] at hi
 ·exfalso
  by_cases h:i < ops.size
  ·simp [h] at hi
  ·simp [h] at hi
theorem XChV.val {suf:List Oper} {Rs:List (Value→World→Prop)} {n:Nat} {o:Oper} {l:List Oper} (Rs':Value→List (Value→World→Prop)) (hR:∀ v,Rs' v=Rs++[IsV v]) (hn:Rs.length=n) (h:∃ v,GStepX E I P ops Q ds (rAt (Rs' v)) a0 n o∧XChV E I P ops Q ds a0 suf (Rs' v) l):XChV E I P ops Q ds a0 suf Rs (o::l):=by
 obtain ⟨v,h1,h2⟩:=h;rw [hR] at h1 h2;subst hn;exact ⟨IsV v,fun _ _ _ h _=>h,h1,h2⟩
theorem XChV.rel {suf:List Oper} {Rs:List (Value→World→Prop)} {n:Nat} {o:Oper} {l:List Oper} (r:Value→World→Prop) (hr:StableX E r) (Rs':List (Value→World→Prop)) (hR:Rs'=Rs++[r]) (hn:Rs.length=n) (h1:GStepX E I P ops Q ds (rAt Rs') a0 n o) (h2:XChV E I P ops Q ds a0 suf Rs' l):XChV E I P ops Q ds a0 suf Rs (o::l):=by
 subst hR hn;exact ⟨r,hr,h1,h2⟩
end
end Go.Proofs.YthagnjokdnnmpaaGreat
namespace Go.Proofs.YthagnjokdnnmpaaGreat
open Go.RowKit Go.PlainAid
def isW (n:Int):Bool:=decide (0≤n)&&decide (n≤65535)
theorem isW_yes {n:Int} (h0:0≤n) (h1:n≤65535):isW n=true:=by simp [isW,h0,h1]
theorem isW_no {n:Int} (h:¬ (0≤n∧n≤65535)):isW n=false:=by
 rw [Bool.eq_false_iff]; intro hh; simp [isW] at hh; exact h hh
theorem specWordIs_any (n:Int) (w:World) :
  Calls Tryz.prog 142 #[.int .i64 n] w fun e w'=>e=.returned (.bool (isW n))∧w'=w:=by
 by_cases h0:0≤n
 ·by_cases h1:n≤65535
  ·have HV:Hid (isW n=true):=isW_yes h0 h1;go_enter Tryz.func142,Tryz.ntmps142
   go_wp2
   go_ret;exact ⟨ret_bool HV.out.symm,rfl⟩
  ·have HV:Hid (isW n=false):=isW_no (fun h=>h1 h.2);go_enter Tryz.func142,Tryz.ntmps142
   go_wp2
   go_ret;exact ⟨ret_bool HV.out.symm,rfl⟩
 ·have HV:Hid (isW n=false):=isW_no (fun h=>h0 h.1);go_enter Tryz.func142,Tryz.ntmps142
  go_wp2
  go_ret;exact ⟨ret_bool HV.out.symm,rfl⟩
theorem implWordIs_any (n:Int) (w:World) :
  Calls Tryz.prog 151 #[.int .i64 n] w fun e w'=>e=.returned (.bool (isW n))∧w'=w:=by
 by_cases h0:0≤n
 ·by_cases h1:n≤65535
  ·have HV:Hid (isW n=true):=isW_yes h0 h1;go_enter Tryz.func151,Tryz.ntmps151
   go_wp2
   go_ret;exact ⟨ret_bool HV.out.symm,rfl⟩
  ·have HV:Hid (isW n=false):=isW_no (fun h=>h1 h.2);go_enter Tryz.func151,Tryz.ntmps151
   go_wp2
   go_ret;exact ⟨ret_bool HV.out.symm,rfl⟩
 ·have HV:Hid (isW n=false):=isW_no (fun h=>h0 h.1);go_enter Tryz.func151,Tryz.ntmps151
  go_wp2
  go_ret;exact ⟨ret_bool HV.out.symm,rfl⟩
section
variable {t:ByteArray} {j K:Nat} {n:Int}
end
end Go.Proofs.YthagnjokdnnmpaaGreat
namespace Go.Proofs.YthagnjokdnnmpaaGreat
open Go.RowKit Go.ChangeShapes Go.WideShapes
def In64t (n:Int):Prop:=-9223372036854775808≤n∧n≤9223372036854775807
theorem cell_new {w:World} {cs:Array Value} {t:TypeId} {j:Nat} {v:Value} (h:cs[j]?=some v):(w.alloc (.cells cs t)).cell? ⟨w.heap.size,j,none⟩=some v:=by
 simp [h]
section
variable {H:Type} {enc:TypeId × Value→H} {P:Program} {w:World} {base:Nat} {spare:Nat→Bool} {held:Bool}
end
end Go.Proofs.YthagnjokdnnmpaaGreat
namespace Go.Proofs.YthagnjokdnnmpaaGreat
open Go.RowKit Go.PlainAid
structure P4 where
 tos:Int
 id:Int
 whole:Bool
 more:Bool
 off:Int
 ttl:Int
 proto:Int
 src:ByteArray
 dst:ByteArray
 opts:ByteArray
 data:ByteArray
structure P6 where
 cls:Int
 flow:Int
 next:Int
 hops:Int
 src:ByteArray
 dst:ByteArray
 piece:Bool
 more:Bool
 off:Int
 id:Int
 data:ByteArray
def isIn (n lo hi:Int):Bool:=decide (lo≤n)&&decide (n≤hi)
theorem isIn_parts {n lo hi:Int} (h:isIn n lo hi=true):lo≤n∧n≤hi:=by simpa [isIn] using h
def hlen (p:P4):Int:=20+p.opts.size
open Go.ChangeShapes Go.WideShapes
structure BoxV4 (w:World) (B:Nat) (p:P4):Prop where
 c0:w.cell? ⟨B,0,none⟩=some (.int .i64 p.tos)
 c1:w.cell? ⟨B,1,none⟩=some (.int .i64 p.id)
 c2:w.cell? ⟨B,2,none⟩=some (.bool p.whole)
 c3:w.cell? ⟨B,3,none⟩=some (.bool p.more)
 c4:w.cell? ⟨B,4,none⟩=some (.int .i64 p.off)
 c5:w.cell? ⟨B,5,none⟩=some (.int .i64 p.ttl)
 c6:w.cell? ⟨B,6,none⟩=some (.int .i64 p.proto)
 c7:w.cell? ⟨B,7,none⟩=some (.string p.src)
 c8:w.cell? ⟨B,8,none⟩=some (.string p.dst)
 c9:w.cell? ⟨B,9,none⟩=some (.string p.opts)
 c10:w.cell? ⟨B,10,none⟩=some (.string p.data)
theorem BoxV4.kept {w W:World} {B:Nat} {p:P4} (h:BoxV4 w B p) (hB:Below w.heap.size w W):BoxV4 W B p:=by
 have hb:=World.block_lt_of_cell? w _ h.c0;exact ⟨((bcell hB).1 B 0 hb).trans h.c0,((bcell hB).1 B 1 hb).trans h.c1,((bcell hB).1 B 2 hb).trans h.c2,((bcell hB).1 B 3 hb).trans h.c3,((bcell hB).1 B 4 hb).trans h.c4,((bcell hB).1 B 5 hb).trans h.c5,((bcell hB).1 B 6 hb).trans h.c6,((bcell hB).1 B 7 hb).trans h.c7,((bcell hB).1 B 8 hb).trans h.c8,((bcell hB).1 B 9 hb).trans h.c9,((bcell hB).1 B 10 hb).trans h.c10⟩
theorem BoxV4.new (w:World) (p:P4) {t:TypeId}:BoxV4 (w.alloc (.cells #[.int .i64 p.tos,.int .i64 p.id,.bool p.whole,.bool p.more,.int .i64 p.off,.int .i64 p.ttl,.int .i64 p.proto,.string p.src,.string p.dst,.string p.opts,.string p.data] t)) w.heap.size p:=⟨cell_new rfl,cell_new rfl,cell_new rfl,cell_new rfl,cell_new rfl,cell_new rfl,cell_new rfl,cell_new rfl,cell_new rfl,cell_new rfl,cell_new rfl⟩
structure BoxV6 (w:World) (B:Nat) (p:P6):Prop where
 c0:w.cell? ⟨B,0,none⟩=some (.int .i64 p.cls)
 c1:w.cell? ⟨B,1,none⟩=some (.int .i64 p.flow)
 c2:w.cell? ⟨B,2,none⟩=some (.int .i64 p.next)
 c3:w.cell? ⟨B,3,none⟩=some (.int .i64 p.hops)
 c4:w.cell? ⟨B,4,none⟩=some (.string p.src)
 c5:w.cell? ⟨B,5,none⟩=some (.string p.dst)
 c6:w.cell? ⟨B,6,none⟩=some (.bool p.piece)
 c7:w.cell? ⟨B,7,none⟩=some (.bool p.more)
 c8:w.cell? ⟨B,8,none⟩=some (.int .i64 p.off)
 c9:w.cell? ⟨B,9,none⟩=some (.int .i64 p.id)
 c10:w.cell? ⟨B,10,none⟩=some (.string p.data)
theorem BoxV6.kept {w W:World} {B:Nat} {p:P6} (h:BoxV6 w B p) (hB:Below w.heap.size w W):BoxV6 W B p:=by
 have hb:=World.block_lt_of_cell? w _ h.c0;exact ⟨((bcell hB).1 B 0 hb).trans h.c0,((bcell hB).1 B 1 hb).trans h.c1,((bcell hB).1 B 2 hb).trans h.c2,((bcell hB).1 B 3 hb).trans h.c3,((bcell hB).1 B 4 hb).trans h.c4,((bcell hB).1 B 5 hb).trans h.c5,((bcell hB).1 B 6 hb).trans h.c6,((bcell hB).1 B 7 hb).trans h.c7,((bcell hB).1 B 8 hb).trans h.c8,((bcell hB).1 B 9 hb).trans h.c9,((bcell hB).1 B 10 hb).trans h.c10⟩
theorem BoxV6.new (w:World) (p:P6) {t:TypeId}:BoxV6 (w.alloc (.cells #[.int .i64 p.cls,.int .i64 p.flow,.int .i64 p.next,.int .i64 p.hops,.string p.src,.string p.dst,.bool p.piece,.bool p.more,.int .i64 p.off,.int .i64 p.id,.string p.data] t)) w.heap.size p:=⟨cell_new rfl,cell_new rfl,cell_new rfl,cell_new rfl,cell_new rfl,cell_new rfl,cell_new rfl,cell_new rfl,cell_new rfl,cell_new rfl,cell_new rfl⟩
end Go.Proofs.YthagnjokdnnmpaaGreat
namespace Go.Proofs.YthagnjokdnnmpaaGreat
open Go.RowKit Go.PlainAid
theorem specIs_any (n lo hi:Int) (w:World) :
  Calls Tryz.prog 66 #[.int .i64 n,.int .i64 lo,.int .i64 hi] w fun e w'=>e=.returned (.bool (isIn n lo hi))∧w'=w:=by
 by_cases h1:lo≤n
 ·by_cases h2:n≤hi
  ·have HV:Hid (isIn n lo hi=true):=by unfold Hid isIn; simp [h1,h2]
   go_enter Tryz.func66,Tryz.ntmps66
   go_wp2_with fail
   go_ret;exact ⟨ret_bool (by rw [HV.out]),rfl⟩
  ·have HV:Hid (isIn n lo hi=false):=by unfold Hid isIn; simp [h2]
   go_enter Tryz.func66,Tryz.ntmps66
   go_wp2_with fail
   go_ret;exact ⟨ret_bool (by rw [HV.out]),rfl⟩
 ·have HV:Hid (isIn n lo hi=false):=by unfold Hid isIn; simp [h1]
  have h1':n < lo:=by omega
  go_enter Tryz.func66,Tryz.ntmps66
  go_wp2_with fail
  go_ret;exact ⟨ret_bool (by rw [HV.out]),rfl⟩
theorem specByte_any (n:Int) (w:World) :
  Calls Tryz.prog 165 #[.int .i64 n] w fun e w'=>e=.returned (.bool (isIn n 0 255))∧w'=w:=by
 have HC:Hid (∀ W,Calls Tryz.prog 66 #[.int .i64 n,.int .i64 0,.int .i64 255] W fun e w'=>e=.returned (.bool (isIn n 0 255))∧w'=W):=fun W=>specIs_any n 0 255 W
 generalize isIn n 0 255=b at *;go_enter Tryz.func165,Tryz.ntmps165
 go_wp2_with fail
 refine (HC.out _).mono ?_;rintro e w2 ⟨rfl,rfl⟩;go_wp2_with fail
 go_ret;exact ⟨rfl,rfl⟩
def EB (B:Nat) (w w':World):Prop:=w.grownBy w' (some B)
theorem EB.cell {B:Nat} {w w':World} (h:EB B w w') {b o:Nat} {v:Value} (hc:w.cell? ⟨b,o,none⟩=some v) (hb:b≠B):w'.cell? ⟨b,o,none⟩=some v:=World.grownBy.cell h hc (by simp; exact hb)
theorem EB.of {B:Nat} {w w':World} (h:Below w.heap.size w w'):EB B w w':=grown_of_below h
def XR (lo hi:Int):Value→World→Prop:=fun v _=>∃ r,v=.int .i64 r∧lo≤r∧r≤hi
theorem st_XR (B:Nat) (lo hi:Int):StableX (EB B) (XR lo hi):=fun _ _ _ h _=>h
structure BoxF (w:World) (X:Nat) (p:Int) (s d:ByteArray) (x y:Int):Prop where
 c0:w.cell? ⟨X,0,none⟩=some (.int .i64 p)
 f0:w.frozen? ⟨X,0,none⟩=false
 c1:w.cell? ⟨X,1,none⟩=some (.string s)
 f1:w.frozen? ⟨X,1,none⟩=false
 c2:w.cell? ⟨X,2,none⟩=some (.string d)
 f2:w.frozen? ⟨X,2,none⟩=false
 c3:w.cell? ⟨X,3,none⟩=some (.int .i64 x)
 f3:w.frozen? ⟨X,3,none⟩=false
 c4:w.cell? ⟨X,4,none⟩=some (.int .i64 y)
 f4:w.frozen? ⟨X,4,none⟩=false
section
variable {w w':World} {X B:Nat} {p x y:Int} {s d:ByteArray}
theorem BoxF.new (w:World) {t:TypeId}:BoxF (w.alloc (.cells #[.int .i64 p,.string s,.string d,.int .i64 x,.int .i64 y] t)) w.heap.size p s d x y:=⟨cell_new rfl,by simp,cell_new rfl,by simp,cell_new rfl,by simp,cell_new rfl,by simp,cell_new rfl,by simp⟩
theorem BoxF.drawn (h:BoxF w X p s d x y) (he:EB B w w') (hX:X≠B):BoxF w' X p s d x y:=by
 have hb:=World.block_lt_of_cell? w _ h.c0;have hk:w'.heap[X]?=w.heap[X]?:=World.grownBy.block he X hb (by simp; exact hX);have hc:∀ j,w'.cell? ⟨X,j,none⟩=w.cell? ⟨X,j,none⟩:=fun j=>World.cell?_of_block hk
 have hf:∀ j,w'.frozen? ⟨X,j,none⟩=w.frozen? ⟨X,j,none⟩:=fun j=>World.frozen?_of_block hk
 exact ⟨(hc 0).trans h.c0,(hf 0).trans h.f0,(hc 1).trans h.c1,(hf 1).trans h.f1,(hc 2).trans h.c2,(hf 2).trans h.f2,(hc 3).trans h.c3,(hf 3).trans h.f3,(hc 4).trans h.c4,(hf 4).trans h.f4⟩
theorem BoxF.other (h:BoxF w X p s d x y) {C o:Nat} (v:Value) (hC:C≠X):BoxF (w.setCell ⟨C,o,none⟩ v) X p s d x y:=by
 have hc:∀ j,(w.setCell ⟨C,o,none⟩ v).cell? ⟨X,j,none⟩=w.cell? ⟨X,j,none⟩:=fun j=>World.cell?_setCell_other w _ _ v (fun e=>hC (congrArg Addr.block e))
 have hf:∀ j,(w.setCell ⟨C,o,none⟩ v).frozen? ⟨X,j,none⟩=w.frozen? ⟨X,j,none⟩:=fun j=>by simp
 exact ⟨(hc 0).trans h.c0,(hf 0).trans h.f0,(hc 1).trans h.c1,(hf 1).trans h.f1,(hc 2).trans h.c2,(hf 2).trans h.f2,(hc 3).trans h.c3,(hf 3).trans h.f3,(hc 4).trans h.c4,(hf 4).trans h.f4⟩
theorem BoxF.set0 (h:BoxF w X p s d x y) (q:Int):BoxF (w.setCell ⟨X,0,none⟩ (.int .i64 q)) X q s d x y:=by
 obtain ⟨c0,f0,c1,f1,c2,f2,c3,f3,c4,f4⟩:=h;constructor<;>simp [go_sem,c0,f0,c1,f1,c2,f2,c3,f3,c4,f4]
end
end Go.Proofs.YthagnjokdnnmpaaGreat
