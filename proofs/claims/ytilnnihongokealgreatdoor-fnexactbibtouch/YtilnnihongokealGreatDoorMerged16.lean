/- IBibR, STickR, ITick9, in one text. -/
import Derived.Test.YtilnnihongokealGreatDoorIOpen
import Derived.Test.YtilnnihongokealGreatDoorMerged9
import Derived.Test.YtilnnihongokealGreatDoorMerged10
import Derived.Test.YtilnnihongokealGreatDoorMerged15
import Derived.Great.BuildSlice

/- IBibR: what the program's BibRight answers. Printed by mkibk7.py. -/
namespace Go.Proofs.YtilnnihongokealGreatDoor
open Go.RowKit Go.PlainAid
set_option linter.unusedVariables false
set_option linter.unusedSimpArgs false

end Go.Proofs.YtilnnihongokealGreatDoor

/- STickR: what the specification's BibTick answers. Printed by mkstickr.py. -/
namespace Go.Proofs.YtilnnihongokealGreatDoor
open Go.RowKit Go.PlainAid
set_option linter.unusedVariables false
set_option linter.unusedSimpArgs false

/- ITick9: what the program's BibTick answers. Printed by mkibk10.py. -/
namespace Go.Proofs.YtilnnihongokealGreatDoor
open Go.RowKit Go.PlainAid
set_option linter.unusedVariables false
set_option linter.unusedSimpArgs false

end Go.Proofs.YtilnnihongokealGreatDoor
