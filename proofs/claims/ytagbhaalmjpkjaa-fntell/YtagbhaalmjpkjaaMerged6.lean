import Derived.Test.YtagbhaalmjpkjaaGrowX
import Derived.Test.YtagbhaalmjpkjaaGrowV
import Derived.Test.YtagbhaalmjpkjaaGrowH
set_option linter.unusedVariables false
set_option linter.unusedSimpArgs false
set_option maxRecDepth 100000
set_option maxHeartbeats 8000000
namespace Go.Proofs.Ytagbhaalmjpkjaa
open Go.RowKit Go.ChangeShapes
section
variable {P:Program} {ops:Array Oper} {Q:Exit→Act→World→Prop} {ds:List Tmp} {R:Nat→Value→World→Prop} {a0:Act} {w0:World} {E:World→World→Prop} {I:World→Prop}
def GStepX (E:World→World→Prop) (I:World→Prop) (P:Program) (ops:Array Oper) (Q:Exit→Act→World→Prop) (ds:List Tmp) (R:Nat→Value→World→Prop) (a0:Act) (i:Nat) (o:Oper):Prop :=
 ∀ (K':Act→World→Prop) (a:Act) (w:World),(∀ t,t ∉ ds→slot a t=slot a0 t)→(∀ e∈o.after,Region.binds .any e=true→R e.on (slot a (ds.getD e.on 0)) w) →
  I w→(∀ v w',R i v w'→E w w'→I w'→K' (a.put o.dst v) w')→if Region.wanted o (yielded ops a.tmps)=true then Oper.wp P o a w K' Q else K' (a.put o.dst undef) w
theorem GStepX.congr {R R':Nat→Value→World→Prop} {i:Nat} {o:Oper} (ht:∀ e∈o.after,Region.binds .any e=true→e.on < i) (h:∀ j,j≤i→R j=R' j) (hs:GStepX E I P ops Q ds R a0 i o):GStepX E I P ops Q ds R' a0 i o:=by
 intro K' a w ho hd hb hK;refine hs K' a w ho (fun e he hbd=>?_) hb (fun v w' hr=>?_)
 ·rw [h e.on (Nat.le_of_lt (ht e he hbd))]; exact hd e he hbd
 ·rw [h i (Nat.le_refl _)] at hr; exact hK v w' hr
def XChV (E:World→World→Prop) (I:World→Prop) (P:Program) (ops:Array Oper) (Q:Exit→Act→World→Prop) (ds:List Tmp) (a0:Act) (suf:List Oper):List (Value→World→Prop)→List Oper→Prop
 | Rs,[]=>∀ (X:Nat→Value) w,RAll X w 0 Rs→I w→wpSeq P Q suf (putsFrom X a0 0 ds) w
 | Rs,o::l=>∃ r,StableX E r∧GStepX E I P ops Q ds (rAt (Rs++[r])) a0 Rs.length o∧XChV E I P ops Q ds a0 suf (Rs++[r]) l
theorem XChV.all {suf:List Oper}:∀ (l:List Oper) (Rs:List (Value→World→Prop)),(∀ i o,l[i]?=some o→∀ e∈o.after,Region.binds .any e=true→e.on < Rs.length+i)→(∀ r∈Rs,StableX E r)→XChV E I P ops Q ds a0 suf Rs l →
  ∃ Ss,(Rs++Ss).length=Rs.length+l.length∧(∀ r∈Rs++Ss,StableX E r)∧(∀ i o,l[i]?=some o→GStepX E I P ops Q ds (rAt (Rs++Ss)) a0 (Rs.length+i) o)∧(∀ (X:Nat→Value) w,RAll X w 0 (Rs++Ss)→I w→wpSeq P Q suf (putsFrom X a0 0 ds) w)
 | [],Rs,_,hst,h=>⟨[],by simp,by simpa using hst,fun i o ho=>by simp at ho,by rw [List.append_nil]; exact h⟩
 | o::l,Rs,ht,hst,⟨r,hr,hs,hc⟩=>by
  obtain ⟨Ss,h1,h2,h3,h4⟩:=XChV.all l (Rs++[r]) (fun i o' ho e he hb=>by
   have:=ht (i+1) o' (by simpa using ho) e he hb;simp; omega) (fun x hx=>by
   rcases List.mem_append.1 hx with hx | hx
   ·exact hst x hx
   ·simp at hx; subst hx; exact hr) hc
  refine ⟨r::Ss,by simp at h1 ⊢; omega,by simpa using h2,fun i o' ho=>?_,by simpa using h4⟩;have e:Rs++r::Ss=Rs++[r]++Ss:=by simp
  rw [e]
  cases i with
  | zero =>
   simp at ho;subst ho;refine GStepX.congr (ht 0 o rfl) (fun j hj=>?_) hs;exact (rAt_left (by simp; omega)).symm
  | succ i =>
   have:=h3 i o' (by simpa using ho);rwa [show (Rs++[r]).length+i=Rs.length+(i+1) by simp; omega] at this
theorem XChV.val {suf:List Oper} {Rs:List (Value→World→Prop)} {n:Nat} {o:Oper} {l:List Oper} (Rs':Value→List (Value→World→Prop)) (hR:∀ v,Rs' v=Rs++[IsV v]) (hn:Rs.length=n) (h:∃ v,GStepX E I P ops Q ds (rAt (Rs' v)) a0 n o∧XChV E I P ops Q ds a0 suf (Rs' v) l):XChV E I P ops Q ds a0 suf Rs (o::l):=by
 obtain ⟨v,h1,h2⟩:=h;rw [hR] at h1 h2;subst hn;exact ⟨IsV v,fun _ _ _ h _=>h,h1,h2⟩
theorem XChV.rel {suf:List Oper} {Rs:List (Value→World→Prop)} {n:Nat} {o:Oper} {l:List Oper} (r:Value→World→Prop) (hr:StableX E r) (Rs':List (Value→World→Prop)) (hR:Rs'=Rs++[r]) (hn:Rs.length=n) (h1:GStepX E I P ops Q ds (rAt Rs') a0 n o) (h2:XChV E I P ops Q ds a0 suf Rs' l):XChV E I P ops Q ds a0 suf Rs (o::l):=by
 subst hR hn;exact ⟨r,hr,h1,h2⟩
end
end Go.Proofs.Ytagbhaalmjpkjaa
namespace Go.Proofs.Ytagbhaalmjpkjaa
open Go.RowKit
section
variable {P:Program} {ops:Array Oper} {Q:Exit→Act→World→Prop} {ds:List Tmp} {a0:Act} {w0:World} {last:Oper} {E:World→World→Prop} {I:World→Prop}
theorem XStep.congr {R R':Nat→Value→World→Prop} {i:Nat} {o:Oper} (ht:∀ e∈o.after,Region.binds .any e=true→e.on < i) (h:∀ j,j≤i→R j=R' j) (hs:XStep E I P Q ds R a0 i o):XStep E I P Q ds R' a0 i o:=by
 intro K' a w ho hd hI hK;refine hs K' a w ho (fun e he hbd=>?_) hI (fun v w' hr=>?_)
 ·rw [h e.on (Nat.le_of_lt (ht e he hbd))]; exact hd e he hbd
 ·rw [h i (Nat.le_refl _)] at hr; exact hK v w' hr
def XCh (E:World→World→Prop) (I:World→Prop) (P:Program) (Q:Exit→Act→World→Prop) (ds:List Tmp) (a0:Act) (last:Oper):List (Value→World→Prop)→List Oper→Prop
 | Rs,[]=>∀ (X:Nat→Value) (a:Act) (K':Act→World→Prop) w,a=putsFrom X a0 0 ds→(∀ i,i < ds.length→slot a (ds.getD i 0)=X i)→RAll X w 0 Rs→I w→(∀ a' w',Q .normal a' w'→K' a' w')→Oper.wp P last a w K' Q
 | Rs,o::l=>∃ r,StableX E r∧XStep E I P Q ds (rAt (Rs++[r])) a0 Rs.length o∧XCh E I P Q ds a0 last (Rs++[r]) l
theorem XCh.all:∀ (l:List Oper) (Rs:List (Value→World→Prop)),(∀ i o,l[i]?=some o→∀ e∈o.after,Region.binds .any e=true→e.on < Rs.length+i)→(∀ r∈Rs,StableX E r)→XCh E I P Q ds a0 last Rs l →
  ∃ Ss,(Rs++Ss).length=Rs.length+l.length∧(∀ r∈Rs++Ss,StableX E r)∧(∀ i o,l[i]?=some o→XStep E I P Q ds (rAt (Rs++Ss)) a0 (Rs.length+i) o)∧(∀ (X:Nat→Value) (a:Act) (K':Act→World→Prop) w,a=putsFrom X a0 0 ds→(∀ i,i < ds.length→slot a (ds.getD i 0)=X i)→RAll X w 0 (Rs++Ss)→I w→(∀ a' w',Q .normal a' w'→K' a' w')→Oper.wp P last a w K' Q)
 | [],Rs,_,hst,h=>⟨[],by simp,by simpa using hst,fun i o ho=>by simp at ho,by rw [List.append_nil]; exact h⟩
 | o::l,Rs,ht,hst,⟨r,hr,hs,hc⟩=>by
  obtain ⟨Ss,h1,h2,h3,h4⟩:=XCh.all l (Rs++[r]) (fun i o' ho e he hb=>by
   have:=ht (i+1) o' (by simpa using ho) e he hb;simp; omega) (fun x hx=>by
   rcases List.mem_append.1 hx with hx | hx
   ·exact hst x hx
   ·simp at hx; subst hx; exact hr) hc
  refine ⟨r::Ss,by simp at h1 ⊢; omega,by simpa using h2,fun i o' ho=>?_,by simpa using h4⟩;have e:Rs++r::Ss=Rs++[r]++Ss:=by simp
  rw [e]
  cases i with
  | zero =>
   simp at ho;subst ho;refine XStep.congr (ht 0 o rfl) (fun j hj=>?_) hs;exact (rAt_left (by simp; omega)).symm
  | succ i =>
   have:=h3 i o' (by simpa using ho);rwa [show (Rs++[r]).length+i=Rs.length+(i+1) by simp; omega] at this
theorem XSteps.of {R:Nat→Value→World→Prop}:∀ (l:List Oper) (n:Nat),(∀ i o,l[i]?=some o→XStep E I P Q ds R a0 (n+i) o)→XSteps E I P Q ds R a0 n l
 | [],_,_=>trivial
 | o::l,n,h=>⟨by simpa using h 0 o rfl,XSteps.of l (n+1) (fun i o' ho=>by have:=h (i+1) o' (by simpa using ho); rwa [show n+(i+1)=n+1+i by omega] at this)⟩
theorem XCh.val {Rs:List (Value→World→Prop)} {n:Nat} {o:Oper} {l:List Oper} (Rs':Value→List (Value→World→Prop)) (hR:∀ v,Rs' v=Rs++[IsV v]) (hn:Rs.length=n) (h:∃ v,XStep E I P Q ds (rAt (Rs' v)) a0 n o∧XCh E I P Q ds a0 last (Rs' v) l):XCh E I P Q ds a0 last Rs (o::l):=by
 obtain ⟨v,h1,h2⟩:=h;rw [hR] at h1 h2;subst hn;exact ⟨IsV v,fun _ _ _ h _=>h,h1,h2⟩
theorem XCh.rel {Rs:List (Value→World→Prop)} {n:Nat} {o:Oper} {l:List Oper} (r:Value→World→Prop) (hr:StableX E r) (Rs':List (Value→World→Prop)) (hR:Rs'=Rs++[r]) (hn:Rs.length=n) (h1:XStep E I P Q ds (rAt Rs') a0 n o) (h2:XCh E I P Q ds a0 last Rs' l):XCh E I P Q ds a0 last Rs (o::l):=by
 subst hR hn;exact ⟨r,hr,h1,h2⟩
end
end Go.Proofs.Ytagbhaalmjpkjaa
