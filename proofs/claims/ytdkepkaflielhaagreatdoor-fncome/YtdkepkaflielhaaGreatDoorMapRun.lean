import Derived.Test.YtdkepkaflielhaaGreatDoorAb
import Derived.Test.YtdkepkaflielhaaGreatDoorMapG
import Derived.Maps.OwnOps
set_option linter.unusedVariables false
set_option linter.unusedSimpArgs false
set_option maxRecDepth 100000
set_option maxHeartbeats 8000000
namespace Go.Proofs.YtdkepkaflielhaaGreatDoor
open Go.RowKit
theorem wp_look_val {P:Program} {o:Oper} {a:Act} {w:World} {v1 v2 v':Value} {K:Act→World→Prop} {Q:Exit→Act→World→Prop} (t:TypeId) (x ix:Operand) (ok:Bool) (hop:o.op=Op.lookup t x ix ok)
  (hs:a.eval x=v1) (hx:a.eval ix=v2) (hrun:(Instr.lookup t v1 v2 ok).run P w=.ok v' w) (hK:K (a.put o.dst v') w):Oper.wp P o a w K Q:=by
 unfold Oper.wp;simp [execOp,hop,hs,hx,hrun,Result.andThen];exact hK
theorem wpList_look_val {P:Program} {ops:Array Oper} {rest:List Oper} {o:Oper} {a:Act} {w:World} {v1 v2 v':Value} {Q:Exit→Act→World→Prop} (hg:o.guard=none) (t:TypeId) (x ix:Operand) (ok:Bool) (hop:o.op=Op.lookup t x ix ok)
  (hs:a.eval x=v1) (hx:a.eval ix=v2) (hrun:(Instr.lookup t v1 v2 ok).run P w=.ok v' w) (hK:wpList P ops Q rest (a.put o.dst v') w):wpList P ops Q (o::rest) a w :=
 wpList_plain hg fun K hK'=>wp_look_val t x ix ok hop hs hx hrun (hK' _ _ hK)
theorem wp_upd_val {P:Program} {o:Oper} {a:Act} {w w':World} {v1 v2 v3:Value} {K:Act→World→Prop} {Q:Exit→Act→World→Prop} (t:TypeId) (m x y:Operand) (hop:o.op=Op.mapUpdate t m x y)
  (hm:a.eval m=v1) (hx:a.eval x=v2) (hy:a.eval y=v3) (hrun:(Instr.mapUpdate t v1 v2 v3).run P w=.ok () w') (hK:K (a.put o.dst undef) w'):Oper.wp P o a w K Q:=by
 unfold Oper.wp;simp [execOp,hop,hm,hx,hy,hrun,Result.andThen];exact hK
end Go.Proofs.YtdkepkaflielhaaGreatDoor
