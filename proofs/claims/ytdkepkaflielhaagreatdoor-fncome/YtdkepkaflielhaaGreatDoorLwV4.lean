import Derived.Test.YtdkepkaflielhaaGreatDoorSz
import Derived.Test.YtdkepkaflielhaaGreatDoorAb
import Derived.Test.YtdkepkaflielhaaGreatDoorV4Same
import Derived.Test.YtdkepkaflielhaaGreatDoorBoxes
import Derived.Test.YtdkepkaflielhaaGreatDoorHoldL
set_option linter.unusedVariables false
set_option linter.unusedSimpArgs false
set_option maxRecDepth 100000
set_option maxHeartbeats 8000000
namespace Go.Proofs.YtdkepkaflielhaaGreatDoor
open Go.RowKit Go.PlainAid
theorem lwV4_same (q:P4) (s d t:ByteArray) (w:World) :
  Cb 12 #[.agg (P4R q.tos q.id q.whole q.more q.off q.ttl q.proto s d q.opts t).toArray,.agg (P4V q).toArray] w (.bool true):=by
 have HS0:=bx2 w (P4R q.tos q.id q.whole q.more q.off q.ttl q.proto s d q.opts t) 33 (P4V q) 33 (by simp) (by simp)
 skip;go_enter Tryz.func12,Tryz.ntmps12
 go_upto_region 1 with fail
 generalize World.alloc _ _=W0 at *;have HHk:HoldsL W0 (w.z) (P4R q.tos q.id q.whole q.more q.off q.ttl q.proto s d q.opts t):=HS0.out.at mE0;have HHl:HoldsL W0 (w.z+1) (P4V q):=HS0.out.at mE1;have hB0:=HS0.out.b;obtain ⟨-,-,-,-,-,-,-,l7,l8,-,l10⟩:=HHl.c11;obtain ⟨-,-,-,-,-,-,-,kf7,kf8,-,kf10⟩:=HHk.f11;obtain ⟨-,-,-,-,-,-,-,k7,k8,-,k10⟩:=HHk.c11;have G0:Hid (HoldsL ((sW (sW W0 w.z 7 (.string q.src)) w.z 8 (.string q.dst)).setCell ⟨w.z,10,none⟩ (.string q.data)) (w.z) (P4V q)):=((HHk.set 7 (.string q.src)).set 8 (.string q.dst)).set 10 (.string q.data);have G1:Hid (HoldsL ((sW (sW W0 w.z 7 (.string q.src)) w.z 8 (.string q.dst)).setCell ⟨w.z,10,none⟩ (.string q.data)) (w.z+1) (P4V q)):=((HHl.setOther (by omega) _).setOther (by omega) _).setOther (by omega) _;have G2:Hid (Below w.z w ((sW (sW W0 w.z 7 (.string q.src)) w.z 8 (.string q.dst)).setCell ⟨w.z,10,none⟩ (.string q.data))):=((hB0.setCell (p:=⟨w.z,7,none⟩) lR _).setCell (p:=⟨w.z,8,none⟩) lR _).setCell (p:=⟨w.z,10,none⟩) lR _;clear HHk HHl hB0 HS0;go_upto_region 4 with fail
 generalize ((sW (sW W0 w.z 7 (.string q.src)) w.z 8 (.string q.dst)).setCell ⟨w.z,10,none⟩ (.string q.data))=W1 at *;clear k7 k8 k10 kf7 kf8 kf10 l7 l8 l10;obtain ⟨k0,k1,k2,k3,k4,k5,k6,k7,k8,k9,k10⟩:=G0.out.c11;obtain ⟨l0,l1,l2,l3,l4,l5,l6,l7,l8,l9,l10⟩:=G1.out.c11;have hsq:sameV4 q q=true:=(sameV4_iff q q).2 rfl;have heq:(binOp .eql 33 (.agg (P4V q).toArray) (.agg (P4V q).toArray)).run Tryz.prog W1=.ok (.bool true) W1:=by rw [eqV4_bin q q W1,hsq]
 clear hsq G0 G1;go_wp2_with fail
 go_ret;exact ⟨rfl,G2.out⟩
end Go.Proofs.YtdkepkaflielhaaGreatDoor
