import Derived.Test.YtdkepkaflielhaaGreatDoorAb
import Derived.Test.YtdkepkaflielhaaGreatDoorCarry
import Derived.Test.YtdkepkaflielhaaGreatDoorProg
import Derived.WalkKit
set_option linter.unusedVariables false
set_option linter.unusedSimpArgs false
set_option maxRecDepth 100000
set_option maxHeartbeats 8000000
namespace Go.Proofs.YtdkepkaflielhaaGreatDoor
open Go.RowKit Go.PlainAid
theorem field_flow (a:Int) (b c:ByteArray) (d e f:Int) (W:World):(Instr.field 45 (.agg #[iV a,.string b,.string c,iV d,iV e,iV f]) 0).run Tryz.prog W=.ok (.agg (FlR a b c d e).toArray) W:=by
 have h3:((Tryz.prog.fieldsOf 45)[0]?).map (fun f=>(f.type,f.offset))=some (43,0):=by kernel_rfl
 obtain ⟨fd,h4,h5⟩:=Option.map_eq_some_iff.1 h3;obtain ⟨h6,h7⟩:=Prod.mk.inj h5;unfold Instr.field;simp [go_sem,Tryz.underlying45,h4,h6,h7];rfl
end Go.Proofs.YtdkepkaflielhaaGreatDoor
