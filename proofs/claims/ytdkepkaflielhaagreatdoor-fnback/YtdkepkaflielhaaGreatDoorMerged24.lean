import Derived.Test.YtdkepkaflielhaaGreatDoorMerged20
import Derived.Test.YtdkepkaflielhaaGreatDoorMerged19
set_option linter.unusedVariables false
set_option linter.unusedSimpArgs false
set_option maxRecDepth 100000
set_option maxHeartbeats 8000000
namespace Go.Proofs.YtdkepkaflielhaaGreatDoor
open Go.RowKit
theorem kD{n b:Nat}{w W:World}(h:aA W b (fW none none 0 0 (eW 0)))(hb:Below n w W)(hn:n≤b)(a a':OA)(ca cb:Nat)(o:No):Hid (W.there b 0 (fW a a' ca cb o).toArray.size)∧Hid (aA (W.setCells b 0 (fW a a' ca cb o).toArray.toList) b (fW a a' ca cb o))∧Hid (Below n w (W.setCells b 0 (fW a a' ca cb o).toArray.toList)):=⟨mP h _ _ _ _ _,h.mid rfl,Below.mid hb hn _⟩
open Go.PlainAid
theorem FO{p:Pl}{xs:List Bd}{h:En}(hps:∀s∈p.VL,s.size≤1048576)(hgb:∀q∈xs,fG q)(he:qX h):(cP p xs h).1.inn.size≤1048576∧(cP p xs h).1.out.size≤1048576:=by
 unfold cP;split
 ·cases hf:xs.find? (cD h.VF h.addr h.port) with
  | none=>exact⟨VC _,VC _⟩
  | some c=>exact⟨(hgb c (VA hf)).1,(hgb c (VA hf)).2.1⟩
 ·exact⟨he.1,DR hps hgb⟩
end Go.Proofs.YtdkepkaflielhaaGreatDoor
