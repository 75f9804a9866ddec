import Derived.Test.YtdkepkaflielhaaGreatDoorProg
import Derived.WalkKit
import Derived.Below
import Derived.RegionTactic
import Derived.Deep.MidRow
set_option linter.unusedVariables false
set_option linter.unusedSimpArgs false
set_option maxRecDepth 100000
set_option maxHeartbeats 8000000
namespace Go
abbrev World.z (w:World):Nat:=w.heap.size
end Go
namespace Go.Proofs.YtdkepkaflielhaaGreatDoor
open Go.RowKit
abbrev eS:Value:=.string ⟨#[]⟩
theorem lR {n:Nat}:n≤n:=Nat.le_refl n
theorem rc3 {W:World} {b o:Nat} {v0 v1 v2:Value} (h:W.rangeAt b o [v0,v1,v2]):W.cell? ⟨b,o,none⟩=some v0∧W.cell? ⟨b,o+1,none⟩=some v1∧W.cell? ⟨b,o+2,none⟩=some v2:=⟨h 0 _ rfl,h 1 _ rfl,h 2 _ rfl⟩
theorem rc5 {W:World} {b o:Nat} {v0 v1 v2 v3 v4:Value} (h:W.rangeAt b o [v0,v1,v2,v3,v4]):W.cell? ⟨b,o,none⟩=some v0∧W.cell? ⟨b,o+1,none⟩=some v1∧W.cell? ⟨b,o+2,none⟩=some v2∧W.cell? ⟨b,o+3,none⟩=some v3∧W.cell? ⟨b,o+4,none⟩=some v4:=⟨h 0 _ rfl,h 1 _ rfl,h 2 _ rfl,h 3 _ rfl,h 4 _ rfl⟩
theorem rc7 {W:World} {b o:Nat} {v0 v1 v2 v3 v4 v5 v6:Value} (h:W.rangeAt b o [v0,v1,v2,v3,v4,v5,v6]):W.cell? ⟨b,o,none⟩=some v0∧W.cell? ⟨b,o+1,none⟩=some v1∧W.cell? ⟨b,o+2,none⟩=some v2∧W.cell? ⟨b,o+3,none⟩=some v3∧W.cell? ⟨b,o+4,none⟩=some v4∧W.cell? ⟨b,o+5,none⟩=some v5∧W.cell? ⟨b,o+6,none⟩=some v6:=⟨h 0 _ rfl,h 1 _ rfl,h 2 _ rfl,h 3 _ rfl,h 4 _ rfl,h 5 _ rfl,h 6 _ rfl⟩
end Go.Proofs.YtdkepkaflielhaaGreatDoor
