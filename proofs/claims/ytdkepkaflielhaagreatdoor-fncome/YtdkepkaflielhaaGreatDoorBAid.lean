import Derived.Test.YtdkepkaflielhaaGreatDoorAb
import Derived.Test.YtdkepkaflielhaaGreatDoorBBr
import Derived.Test.YtdkepkaflielhaaGreatDoorGrowV
import Derived.Test.YtdkepkaflielhaaGreatDoorOpRun
import Derived.Great.BuildSlice
set_option linter.unusedVariables false
set_option linter.unusedSimpArgs false
set_option maxRecDepth 100000
set_option maxHeartbeats 8000000
namespace Go.Proofs.YtdkepkaflielhaaGreatDoor
open Go.RowKit Go.PlainAid
theorem wpSeq_store {P:Program} {Q:Exit→Act→World→Prop} {op:Oper} {a:Act} {w:World} (ty:TypeId) (x y:Operand) (ho:op.op=.store ty x y) (b o:Nat) (cells:Array Value) (hx:a.eval x=.pointer (some ⟨b,o,none⟩)) (hy:a.eval y=.agg cells)
  (ht:w.there b o cells.size) (hi:(P.info? ty).map (·.size)=some cells.size) (h1:cells.all (·.oneCell')=true) (h:Q .normal (a.put op.dst undef) (w.setCells b o cells.toList)):wpSeq P Q [op] a w :=
 fun K' hK=>wp_store_mid ty x y ho b o cells hx hy ht hi h1 (hK _ _ h)
end Go.Proofs.YtdkepkaflielhaaGreatDoor
