import Derived.Test.YtdkepkaflielhaaGreatDoorAb
import Derived.Test.YtdkepkaflielhaaGreatDoorDrawTickF
import Derived.Test.YtdkepkaflielhaaGreatDoorDrawBib
set_option linter.unusedVariables false
set_option linter.unusedSimpArgs false
set_option maxRecDepth 100000
set_option maxHeartbeats 8000000
namespace Go.Proofs.YtdkepkaflielhaaGreatDoor
open Go.RowKit Go.PlainAid
theorem bel_grownT {n:Nat} {w w1 W:World} {B:Nat} (h:Below n w w1) (hg:w1.grownBy W (some B)) (hB:n≤B) (hn:n≤w1.heap.size):Below n w W :=
 ⟨hg.os.trans h.os,hg.tape.trans h.tape,hg.output.trans h.output,Nat.le_trans h.size hg.size,fun k hk=>by rw [hg.block k (by omega) (by simp; omega),h.block k hk]⟩
end Go.Proofs.YtdkepkaflielhaaGreatDoor
