import Derived.Test.YtdkepkaflielhaaGreatDoorSz
import Derived.Test.YtdkepkaflielhaaGreatDoorAb
import Derived.Test.YtdkepkaflielhaaGreatDoorGrowG
set_option linter.unusedVariables false
set_option linter.unusedSimpArgs false
set_option maxRecDepth 100000
set_option maxHeartbeats 8000000
namespace Go.Proofs.YtdkepkaflielhaaGreatDoor
open Go.RowKit Go.ChangeShapes
section
variable {P:Program} {ops:Array Oper} {Q:Exit→Act→World→Prop} {ds:List Tmp} {a0:Act} {w0:World}
theorem rAt_left {Rs Ss:List (Value→World→Prop)} {i:Nat} (h:i < Rs.length):rAt (Rs++Ss) i=rAt Rs i:=by
 unfold rAt;simp [List.getElem?_append_left h]
theorem GStepG.congr {R R':Nat→Value→World→Prop} {i:Nat} {o:Oper} (ht:∀ e∈o.after,Region.binds .any e=true→e.on < i) (h:∀ j,j≤i→R j=R' j) (hs:GStepG P ops Q ds R a0 w0 i o):GStepG P ops Q ds R' a0 w0 i o:=by
 intro K' a w ho hd hb hK;refine hs K' a w ho (fun e he hbd=>?_) hb (fun v w' hr=>?_)
 ·rw [h e.on (Nat.le_of_lt (ht e he hbd))]; exact hd e he hbd
 ·rw [h i lR] at hr; exact hK v w' hr
def GCh (P:Program) (ops:Array Oper) (Q:Exit→Act→World→Prop) (ds:List Tmp) (a0:Act) (w0:World):List (Value→World→Prop)→List Oper→Prop
 | Rs,[]=>∀ (X:Nat→Value) w,RAll X w 0 Rs→Below w0.heap.size w0 w→Q .normal (putsFrom X a0 0 ds) w
 | Rs,o::l=>∃ r,Stable r∧GStepG P ops Q ds (rAt (Rs++[r])) a0 w0 Rs.length o∧GCh P ops Q ds a0 w0 (Rs++[r]) l
theorem GCh.all:∀ (l:List Oper) (Rs:List (Value→World→Prop)),(∀ i o,l[i]?=some o→∀ e∈o.after,Region.binds .any e=true→e.on < Rs.length+i)→(∀ r∈Rs,Stable r)→GCh P ops Q ds a0 w0 Rs l →
  ∃ Ss,(Rs++Ss).length=Rs.length+l.length∧(∀ r∈Rs++Ss,Stable r)∧(∀ i o,l[i]?=some o→GStepG P ops Q ds (rAt (Rs++Ss)) a0 w0 (Rs.length+i) o)∧(∀ (X:Nat→Value) w,RAll X w 0 (Rs++Ss)→Below w0.heap.size w0 w→Q .normal (putsFrom X a0 0 ds) w)
 | [],Rs,_,hst,h=>⟨[],by simp,by simpa using hst,fun i o ho=>by simp at ho,by rw [List.append_nil]; exact h⟩
 | o::l,Rs,ht,hst,⟨r,hr,hs,hc⟩=>by
  obtain ⟨Ss,h1,h2,h3,h4⟩:=GCh.all l (Rs++[r]) (fun i o' ho e he hb=>by
   have:=ht (i+1) o' (by simpa using ho) e he hb;simp; omega) (fun x hx=>by
   rcases List.mem_append.1 hx with hx | hx
   ·exact hst x hx
   ·simp at hx; subst hx; exact hr) hc
  refine ⟨r::Ss,by simp at h1 ⊢; omega,by simpa using h2,fun i o' ho=>?_,by simpa using h4⟩;have e:Rs++r::Ss=Rs++[r]++Ss:=by simp
  rw [e]
  cases i with
  | zero =>
   simp at ho;subst ho;refine GStepG.congr (ht 0 o rfl) (fun j hj=>?_) hs;exact (rAt_left (by simp; omega)).symm
  | succ i =>
   have:=h3 i o' (by simpa using ho);rwa [show (Rs++[r]).length+i=Rs.length+(i+1) by simp; omega] at this
theorem wp_region_growH {id:Nat} (ds:List Tmp) (hm:P.follows .mixedOrders=true) (hF:gformG ops ds a0.tmps.size=true) (h:GCh P ops Q ds a0 w0.drew [] ops.toList) :
  (Code.region id ops true).wp P Q a0 w0:=by
 have hG:=GFormG.of hF;obtain ⟨Ss,h1,h2,h3,h4⟩:=GCh.all ops.toList [] (fun i o ho e he hb=>by
  have:=hG.topo i o (by simpa using ho) e he hb;simpa using this) (fun r hr=>by simp at hr) h
 simp only [List.nil_append,List.length_nil,Nat.zero_add] at h1 h2 h3 h4;refine wp_region_growG0 (ds:=ds) (R:=rAt Ss) hm hG (fun i v w w' h hb=>?_) (fun i o ho=>?_) (fun a w g1 g2 g3 g4 g5=>?_)
 ·unfold rAt at *;by_cases hi:i < Ss.length
  ·have e:Ss.getD i (fun _ _=>True)=Ss[i]:=by simp [hi]
   rw [e] at h ⊢;exact h2 _ (List.getElem_mem hi) v w w' h hb
  ·have e:Ss.getD i (fun _ _=>True)=fun _ _=>True:=by simp [Nat.le_of_not_lt hi]
   rw [e]; trivial
 ·exact h3 i o (by simpa using ho)
 ·have hp:putsFrom (fun i=>slot a (ds.getD i 0)) a0 0 ds=a:=puts_eq ds a0 0 g1.symm g2.symm (fun i _=>by rw [Nat.zero_add]) (fun t ht=>(g3 t ht).symm) (fun d hd=>by rw [g1]; exact hG.fits d hd);rw [← hp];exact h4 (fun i=>slot a (ds.getD i 0)) w (RAll.mk Ss 0 (fun i hi=>by rw [Nat.zero_add]; exact g4 i (by rw [← Array.length_toList,← h1]; exact hi))) g5
theorem GCh.val {Rs:List (Value→World→Prop)} {n:Nat} {o:Oper} {l:List Oper} (Rs':Value→List (Value→World→Prop)) (hR:∀ v,Rs' v=Rs++[IsV v]) (hn:Rs.length=n) (h:∃ v,GStepG P ops Q ds (rAt (Rs' v)) a0 w0 n o∧GCh P ops Q ds a0 w0 (Rs' v) l):GCh P ops Q ds a0 w0 Rs (o::l):=by
 obtain ⟨v,h1,h2⟩:=h;rw [hR] at h1 h2;subst hn;exact ⟨IsV v,stable_isV v,h1,h2⟩
theorem GCh.rel {Rs:List (Value→World→Prop)} {n:Nat} {o:Oper} {l:List Oper} (r:Value→World→Prop) (hr:Stable r) (Rs':List (Value→World→Prop)) (hR:Rs'=Rs++[r]) (hn:Rs.length=n) (h1:GStepG P ops Q ds (rAt Rs') a0 w0 n o) (h2:GCh P ops Q ds a0 w0 Rs' l):GCh P ops Q ds a0 w0 Rs (o::l):=by
 subst hR hn;exact ⟨r,hr,h1,h2⟩
def GW (P:Program) (Q:Exit→Act→World→Prop) (ds:List Tmp) (Rs:List (Value→World→Prop)) (a0:Act) (w0:World) (i:Nat) (o:Oper):Prop :=
 ∀ (K':Act→World→Prop) (a:Act) (w:World),(∀ t,t ∉ ds→slot a t=slot a0 t)→(∀ e∈o.after,Region.binds .any e=true→rAt Rs e.on (slot a (ds.getD e.on 0)) w) →
  Below w0.heap.size w0 w→(∀ v w',rAt Rs i v w'→Below w.z w w'→K' (a.put o.dst v) w')→(∀ v,rAt Rs i v w→K' (a.put o.dst v) w)→Oper.wp P o a w K' Q
theorem GW.step {Rs:List (Value→World→Prop)} {i:Nat} {o:Oper} (hg:o.guard=none) (h:GW P Q ds Rs a0 w0 i o):GStepG P ops Q ds (rAt Rs) a0 w0 i o:=fun K' a w ho hd hb hK=>by
 rw [if_pos (wanted_none hg)];exact h K' a w ho hd hb hK (fun v hv=>hK v w hv bR)
theorem GCh.vv {Rs Rs':List (Value→World→Prop)} {n:Nat} {o:Oper} {l:List Oper} {v:Value} (hR:Rs'=Rs++[IsV v]) (hn:Rs.length=n) (hg:o.guard=none) (h1:GW P Q ds Rs' a0 w0 n o) (h2:GCh P ops Q ds a0 w0 Rs' l):GCh P ops Q ds a0 w0 Rs (o::l):=by
 subst hR hn;exact ⟨IsV v,stable_isV v,h1.step hg,h2⟩
variable {R0 R1 R2 R3 R4 R5 R6 R7 R8 R9 R10 R11 R12 R13 R14 R15 R16 R17 R18 R19 R20 R21 R22 R23 R24 R25 R26 R27 R28 R29 R30 R31 R32 R33 R34 R35 R36 R37 R38 R39 R40 R41 R42 R43 R44 R45:Value→World→Prop} {o:Oper} {l:List Oper} {v:Value}
theorem GCh.v2 (hg:o.guard=none) (h1:GW P Q ds [R0,R1,IsV v] a0 w0 2 o) (h2:GCh P ops Q ds a0 w0 [R0,R1,IsV v] l):GCh P ops Q ds a0 w0 [R0,R1] (o::l):=.vv rfl rfl hg h1 h2
theorem GCh.v3 (hg:o.guard=none) (h1:GW P Q ds [R0,R1,R2,IsV v] a0 w0 3 o) (h2:GCh P ops Q ds a0 w0 [R0,R1,R2,IsV v] l):GCh P ops Q ds a0 w0 [R0,R1,R2] (o::l):=.vv rfl rfl hg h1 h2
theorem GCh.v4 (hg:o.guard=none) (h1:GW P Q ds [R0,R1,R2,R3,IsV v] a0 w0 4 o) (h2:GCh P ops Q ds a0 w0 [R0,R1,R2,R3,IsV v] l):GCh P ops Q ds a0 w0 [R0,R1,R2,R3] (o::l):=.vv rfl rfl hg h1 h2
theorem GCh.v8 (hg:o.guard=none) (h1:GW P Q ds [R0,R1,R2,R3,R4,R5,R6,R7,IsV v] a0 w0 8 o) (h2:GCh P ops Q ds a0 w0 [R0,R1,R2,R3,R4,R5,R6,R7,IsV v] l):GCh P ops Q ds a0 w0 [R0,R1,R2,R3,R4,R5,R6,R7] (o::l):=.vv rfl rfl hg h1 h2
theorem GCh.v10 (hg:o.guard=none) (h1:GW P Q ds [R0,R1,R2,R3,R4,R5,R6,R7,R8,R9,IsV v] a0 w0 10 o) (h2:GCh P ops Q ds a0 w0 [R0,R1,R2,R3,R4,R5,R6,R7,R8,R9,IsV v] l):GCh P ops Q ds a0 w0 [R0,R1,R2,R3,R4,R5,R6,R7,R8,R9] (o::l):=.vv rfl rfl hg h1 h2
theorem GCh.v12 (hg:o.guard=none) (h1:GW P Q ds [R0,R1,R2,R3,R4,R5,R6,R7,R8,R9,R10,R11,IsV v] a0 w0 12 o) (h2:GCh P ops Q ds a0 w0 [R0,R1,R2,R3,R4,R5,R6,R7,R8,R9,R10,R11,IsV v] l):GCh P ops Q ds a0 w0 [R0,R1,R2,R3,R4,R5,R6,R7,R8,R9,R10,R11] (o::l):=.vv rfl rfl hg h1 h2
end
end Go.Proofs.YtdkepkaflielhaaGreatDoor
