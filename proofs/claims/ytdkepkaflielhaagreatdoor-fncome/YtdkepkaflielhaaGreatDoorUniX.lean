import Derived.Test.YtdkepkaflielhaaGreatDoorAb
import Derived.Test.YtdkepkaflielhaaGreatDoorUni
import Derived.Test.YtdkepkaflielhaaGreatDoorGrowXV
import Derived.Test.YtdkepkaflielhaaGreatDoorDrawFlow
set_option linter.unusedVariables false
set_option linter.unusedSimpArgs false
set_option maxRecDepth 100000
set_option maxHeartbeats 8000000
namespace Go.Proofs.YtdkepkaflielhaaGreatDoor
open Go.RowKit Go.ChangeShapes
theorem xQ {B:Nat}:∀ w,EB B w w:=fun _=>EB.of bR
variable {E:World→World→Prop} {I:World→Prop} {P:Program} {ops:Array Oper} {Q:Exit→Act→World→Prop} {ds:List Tmp} {a0:Act} {suf:List Oper} {Rs:List (Value→World→Prop)} {o:Oper} {l:List Oper} {v:Value}
theorem XChV.u (hr:∀ w,E w w) (hg:o.guard=none) (h1:∀ (K':Act→World→Prop) (a:Act) (wy:World),(∀ t,t ∉ ds→slot a t=slot a0 t)→(∀ e∈o.after,Region.binds .any e=true→rAt (Rs++[IsV v]) e.on (slot a (ds.getD e.on 0)) wy)→I wy→(∀ x,x=v→K' (a.put o.dst x) wy)→Oper.wp P o a wy K' Q) (h2:XChV E I P ops Q ds a0 suf (Rs++[IsV v]) l):XChV E I P ops Q ds a0 suf Rs (o::l) :=
 ⟨IsV v,fun _ _ _ h _=>h,fun K' a w ho hd hI hK=>by
  rw [if_pos (wanted_none hg)];exact h1 K' a w ho hd hI fun x hx=>hK x w (by simp [rAt,IsV,hx]) (hr w) hI,h2⟩
end Go.Proofs.YtdkepkaflielhaaGreatDoor
