/- The door's own world meets the row's conditions. -/
import Derived.Test.YtmmojboagplopaaGreatDoorRows
import Derived.Test.YtmmojboagplopaaGreatDoorWrap
import Derived.OpenVars
import Derived.WalkKit
import Derived.ProofKit
import Derived.OpenShut
import Derived.ShutString
import Derived.ChangeOld
import Derived.Below
import Derived.Lib.SmallJoins
import Derived.Lib.LaidTab
import Derived.Lay
import Derived.SevenTiedAt
import Derived.LaidHandle
import Derived.LaidLaws
import Derived.LaidMore
namespace Go.Proofs.YtmmojboagplopaaGreatDoor.fnExactDeskWords
open Go.ChangeShapes Go.WideShapes Go.ChangeAt Go.RowKit
set_option linter.unusedVariables false
set_option maxRecDepth 100000
open Go.ChangeMaps (open_string shut_string)
open Go.Joins
theorem door_met (os : Os) (args : Array Value) : laidMetH Tryz.prog Rows.fnExactDeskWordsRow.laid ((World.doorLaid Tryz.prog 195 os).forCall (fun _ _ => 0) ⟨#[], args, []⟩).memory :=
  laidMetH_of_parts3 (fuel := 8) (laidMet_of_run' 8 (by kernel_rfl) (by kernel_rfl)) (by kernel_rfl) (by kernel_rfl)


end Go.Proofs.YtmmojboagplopaaGreatDoor.fnExactDeskWords
