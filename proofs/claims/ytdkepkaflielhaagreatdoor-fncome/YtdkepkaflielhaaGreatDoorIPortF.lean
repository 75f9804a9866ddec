import Derived.Test.YtdkepkaflielhaaGreatDoorAb
import Derived.Test.YtdkepkaflielhaaGreatDoorIOpen
import Derived.Test.YtdkepkaflielhaaGreatDoorIBindF
import Derived.Test.YtdkepkaflielhaaGreatDoorSPortFor
set_option linter.unusedVariables false
set_option linter.unusedSimpArgs false
set_option maxRecDepth 100000
set_option maxHeartbeats 8000000
namespace Go.Proofs.YtdkepkaflielhaaGreatDoor
open Go.RowKit Go.PlainAid
theorem bindFor_sz {p:Pl} {xs:List Bd} {h:En} (hps:∀ s∈p.addrs,s.size≤1048576) (hgb:∀ q∈xs,BdGood q) (he:EnIn h):(bindForV p xs h).1.inn.size≤1048576∧(bindForV p xs h).1.out.size≤1048576:=by
 unfold bindForV;split
 ·cases hf:xs.find? (ofIn h.proto h.addr h.port) with
  | none=>exact ⟨Nat.zero_le _,Nat.zero_le _⟩
  | some c=>exact ⟨(hgb c (List.mem_of_find?_eq_some hf)).1,(hgb c (List.mem_of_find?_eq_some hf)).2.1⟩
 ·exact ⟨he.1,outIn_sz hps hgb⟩
end Go.Proofs.YtdkepkaflielhaaGreatDoor
