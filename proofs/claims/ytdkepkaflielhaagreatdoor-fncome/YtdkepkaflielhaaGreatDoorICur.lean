import Derived.Test.YtdkepkaflielhaaGreatDoorAb
import Derived.Test.YtdkepkaflielhaaGreatDoorSumMath
import Derived.Test.YtdkepkaflielhaaGreatDoorFlat
import Derived.Test.YtdkepkaflielhaaGreatDoorEmbed
import Derived.WalkLawsBesides
import Derived.RegionTactic
import Derived.Deep.QuietTactic
import Derived.Deep.RegionWith
import Derived.Deep.DeepCutAuto
set_option linter.unusedVariables false
set_option linter.unusedSimpArgs false
set_option maxRecDepth 100000
set_option maxHeartbeats 8000000
namespace Go.Proofs.YtdkepkaflielhaaGreatDoor
open Go.RowKit Go.PlainAid
structure CurAt (w:World) (B b cap:Nat) (t:ByteArray) (k:Nat):Prop where
 c0:w.cell? ⟨B,0,none⟩=some (.slice (some ⟨b,0,none⟩) t.size cap)
 f0:w.frozen? ⟨B,0,none⟩=false
 c1:w.cell? ⟨B,1,none⟩=some (iV k)
 f1:w.frozen? ⟨B,1,none⟩=false
 bs:∀ i,i < t.size→w.cell? ⟨b,i,none⟩=some (.int .u8 (bt t i))
 ne:b≠B
 lt:b < w.heap.size
 cp:t.size≤cap
theorem bt_list {s:ByteArray} {j:Nat} (h:j < s.data.toList.length):(s.data.toList[j].toNat:Int)=bt s j:=by
 have h':j < s.size:=by rw [Array.length_toList] at h; exact h
 unfold bt;rw [dif_pos h',ByteArray.getElem_eq_getElem_data];simp
end Go.Proofs.YtdkepkaflielhaaGreatDoor
