import Derived.Test.YtdkepkaflielhaaGreatDoorAb
import Derived.Test.YtdkepkaflielhaaGreatDoorGrowV
set_option linter.unusedVariables false
set_option linter.unusedSimpArgs false
set_option maxRecDepth 100000
set_option maxHeartbeats 8000000
namespace Go.Proofs.YtdkepkaflielhaaGreatDoor
open Go.RowKit Go.ChangeShapes
theorem nA {α:Type} (l:List α):[]++l=l:=rfl
theorem cA {α:Type} (a:α) (l m:List α):a::l++m=a::(l++m):=rfl
theorem bQ {w:World} {n:Nat}:Below n w w:=Below.refl _ _
section
variable {P:Program} {ops:Array Oper} {Q:Exit→Act→World→Prop} {ds:List Tmp} {a0:Act} {w0:World}
def GU (P:Program) (Q:Exit→Act→World→Prop) (ds:List Tmp) (Rs:List (Value→World→Prop)) (a0:Act) (w0:World) (v:Value) (o:Oper):Prop :=
 ∀ (K':Act→World→Prop) (a:Act) (wy:World),(∀ t,t ∉ ds→slot a t=slot a0 t)→(∀ e∈o.after,Region.binds .any e=true→rAt (Rs++[IsV v]) e.on (slot a (ds.getD e.on 0)) wy) →
  Below w0.heap.size w0 wy→(∀ x wz,x=v→Below wy.heap.size wy wz→K' (a.put o.dst x) wz)→Oper.wp P o a wy K' Q
theorem GU.k {Rs:List (Value→World→Prop)} {v:Value} {o:Oper} {K':Act→World→Prop} {a:Act} {wy:World} (hK:∀ x w',rAt (Rs++[IsV v]) Rs.length x w'→Below wy.heap.size wy w'→K' (a.put o.dst x) w'):∀ x wz,x=v→Below wy.heap.size wy wz→K' (a.put o.dst x) wz :=
 fun x wz hx hz=>hK x wz (by simp [rAt,IsV,hx]) hz
theorem GU.step {Rs:List (Value→World→Prop)} {v:Value} {o:Oper} (hg:o.guard=none) (h:GU P Q ds Rs a0 w0 v o):GStepG P ops Q ds (rAt (Rs++[IsV v])) a0 w0 Rs.length o :=
 GW.step hg fun K' a w ho hd hb hk _=>h K' a w ho hd hb (GU.k hk)
theorem rAt_of {Rs:List (Value→World→Prop)} {r s:Value→World→Prop} {k:Nat} (h:Rs[k]?=some r) (v:Value) (w:World):rAt (Rs++[s]) k v w=r v w:=by
 obtain ⟨hk,_⟩:=List.getElem?_eq_some_iff.1 h;rw [rAt_left hk]; unfold rAt; rw [List.getD_eq_getElem?_getD,h]; rfl
theorem GU.stepG {Rs:List (Value→World→Prop)} {v:Value} {o oj:Oper} {k:Nat} {b want:Bool} (hg:o.guard=some (k,want)) (hk:ops[k]?=some oj) (hj:oj.dst=some (ds.getD k 0)) (hR:Rs[k]?=some (IsV (.bool b))) (hb:(b==want)=true) (hm:⟨k,.guard⟩∈o.after) (h:GU P Q ds Rs a0 w0 v o):GStepG P ops Q ds (rAt (Rs++[IsV v])) a0 w0 Rs.length o:=fun K' a w ho hd hB hK=>by
 have hs:=hd _ hm rfl;rw [rAt_of hR] at hs;exact wants k _ b want hg hk hj hs hb (h K' a w ho hd hB (GU.k hK))
theorem stepN {Rs:List (Value→World→Prop)} {o oj:Oper} {k:Nat} {b want:Bool} (hg:o.guard=some (k,want)) (hk:ops[k]?=some oj) (hj:oj.dst=some (ds.getD k 0)) (hR:Rs[k]?=some (IsV (.bool b))) (hb:(b==want)=false) (hm:⟨k,.guard⟩∈o.after):GStepG P ops Q ds (rAt (Rs++[IsV undef])) a0 w0 Rs.length o:=fun K' a w ho hd hB hK=>by
 have hs:=hd _ hm rfl;rw [rAt_of hR] at hs;exact wantsN k _ b want hg hk hj hs hb (GU.k hK _ _ rfl bQ)
theorem stepM {Rs:List (Value→World→Prop)} {o oj:Oper} {k:Nat} {want:Bool} (hg:o.guard=some (k,want)) (hk:ops[k]?=some oj) (hj:oj.dst=some (ds.getD k 0)) (hR:Rs[k]?=some (IsV undef)) (hm:⟨k,.guard⟩∈o.after):GStepG P ops Q ds (rAt (Rs++[IsV undef])) a0 w0 Rs.length o:=fun K' a w ho hd hB hK=>by
 have hs:=hd _ hm rfl;rw [rAt_of hR] at hs;exact wantsU k _ hg hk hj hs (GU.k hK _ _ rfl bQ)
variable {suf:List Oper} {Rs:List (Value→World→Prop)} {o oj:Oper} {l:List Oper} {v:Value} {k:Nat} {b want:Bool}
theorem GChV.u (hg:o.guard=none) (h1:GU P Q ds Rs a0 w0 v o) (h2:GChV P ops Q ds a0 w0 suf (Rs++[IsV v]) l):GChV P ops Q ds a0 w0 suf Rs (o::l):=⟨IsV v,stable_isV v,h1.step hg,h2⟩
theorem GChV.g (hg:o.guard=some (k,want)) (hk:ops[k]?=some oj) (hj:oj.dst=some (ds.getD k 0)) (hR:Rs[k]?=some (IsV (.bool b))) (hb:(b==want)=true) (hm:⟨k,.guard⟩∈o.after) (h1:GU P Q ds Rs a0 w0 v o) (h2:GChV P ops Q ds a0 w0 suf (Rs++[IsV v]) l):GChV P ops Q ds a0 w0 suf Rs (o::l):=⟨IsV v,stable_isV v,h1.stepG hg hk hj hR hb hm,h2⟩
theorem GChV.n (hg:o.guard=some (k,want)) (hk:ops[k]?=some oj) (hj:oj.dst=some (ds.getD k 0)) (hR:Rs[k]?=some (IsV (.bool b))) (hb:(b==want)=false) (hm:⟨k,.guard⟩∈o.after) (h2:GChV P ops Q ds a0 w0 suf (Rs++[IsV undef]) l):GChV P ops Q ds a0 w0 suf Rs (o::l):=⟨IsV undef,stable_isV _,stepN hg hk hj hR hb hm,h2⟩
theorem GChV.m (hg:o.guard=some (k,want)) (hk:ops[k]?=some oj) (hj:oj.dst=some (ds.getD k 0)) (hR:Rs[k]?=some (IsV undef)) (hm:⟨k,.guard⟩∈o.after) (h2:GChV P ops Q ds a0 w0 suf (Rs++[IsV undef]) l):GChV P ops Q ds a0 w0 suf Rs (o::l):=⟨IsV undef,stable_isV _,stepM hg hk hj hR hm,h2⟩
theorem GCh.u (hg:o.guard=none) (h1:GU P Q ds Rs a0 w0 v o) (h2:GCh P ops Q ds a0 w0 (Rs++[IsV v]) l):GCh P ops Q ds a0 w0 Rs (o::l):=⟨IsV v,stable_isV v,h1.step hg,h2⟩
theorem GCh.g (hg:o.guard=some (k,want)) (hk:ops[k]?=some oj) (hj:oj.dst=some (ds.getD k 0)) (hR:Rs[k]?=some (IsV (.bool b))) (hb:(b==want)=true) (hm:⟨k,.guard⟩∈o.after) (h1:GU P Q ds Rs a0 w0 v o) (h2:GCh P ops Q ds a0 w0 (Rs++[IsV v]) l):GCh P ops Q ds a0 w0 Rs (o::l):=⟨IsV v,stable_isV v,h1.stepG hg hk hj hR hb hm,h2⟩
theorem GCh.n (hg:o.guard=some (k,want)) (hk:ops[k]?=some oj) (hj:oj.dst=some (ds.getD k 0)) (hR:Rs[k]?=some (IsV (.bool b))) (hb:(b==want)=false) (hm:⟨k,.guard⟩∈o.after) (h2:GCh P ops Q ds a0 w0 (Rs++[IsV undef]) l):GCh P ops Q ds a0 w0 Rs (o::l):=⟨IsV undef,stable_isV _,stepN hg hk hj hR hb hm,h2⟩
theorem GCh.m (hg:o.guard=some (k,want)) (hk:ops[k]?=some oj) (hj:oj.dst=some (ds.getD k 0)) (hR:Rs[k]?=some (IsV undef)) (hm:⟨k,.guard⟩∈o.after) (h2:GCh P ops Q ds a0 w0 (Rs++[IsV undef]) l):GCh P ops Q ds a0 w0 Rs (o::l):=⟨IsV undef,stable_isV _,stepM hg hk hj hR hm,h2⟩
end
end Go.Proofs.YtdkepkaflielhaaGreatDoor
