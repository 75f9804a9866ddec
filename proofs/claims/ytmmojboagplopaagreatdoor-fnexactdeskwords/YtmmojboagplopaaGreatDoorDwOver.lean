/- The row holds. -/
import Derived.Test.YtmmojboagplopaaGreatDoorRows
import Derived.Test.YtmmojboagplopaaGreatDoorCards
import Derived.Test.YtmmojboagplopaaGreatDoorTie
import Derived.Test.YtmmojboagplopaaGreatDoorDwLift
import Derived.Test.YtmmojboagplopaaGreatDoorDwKa
import Derived.Test.YtmmojboagplopaaGreatDoorDwKb
import Derived.Test.YtmmojboagplopaaGreatDoorDwKc
import Derived.Test.YtmmojboagplopaaGreatDoorDwKd
import Derived.Test.YtmmojboagplopaaGreatDoorDwKe
import Derived.Test.YtmmojboagplopaaGreatDoorDwKf
import Derived.Test.YtmmojboagplopaaGreatDoorDwKh
import Derived.OpenVars
import Derived.WalkKit
import Derived.ProofKit
import Derived.OpenShut
import Derived.ShutString
import Derived.ChangeOld
import Derived.Below
import Derived.Lib.SmallJoins
import Derived.Lib.LaidTab
import Derived.Lay
import Derived.SevenTiedAt
import Derived.LaidHandle
import Derived.LaidLaws
import Derived.LaidMore
namespace Go.Proofs.YtmmojboagplopaaGreatDoor.fnExactDeskWords
open Go.ChangeShapes Go.WideShapes Go.ChangeAt Go.RowKit
set_option linter.unusedVariables false
set_option maxRecDepth 100000
open Go.ChangeMaps (open_string shut_string)
open Go.Joins
theorem and2 {a b : Bool} (ha : a = true) (hb : b = true) : (a && b) = true := by rw [ha, hb]; rfl
theorem closed : joinedFacts Tryz.prog 3 Tryz.f3 Rows.fnExactDeskWordsSpec Rows.fnExactDeskWordsRow = true :=
  (and2 (and2 (and2 (and2 (and2 (and2 (and2 (and2 (and2 (and2 (and2 (and2 (and2 (and2 (and2 (and2 (and2 (and2 (and2 (and2 (and2 (and2 (and2 (and2 (and2 (and2 (and2 (and2 (and2 (and2 (and2 k0 k1) k2) k3) k4) k5) k6) k7) k8) k9) k10) k11) k12) k13) k14) k15) k16) k17) k18) k19) k20) k21) k22) k23) k24) k25) k26) k27) k28) k29) k30) k31)
theorem over : Rows.fnExactDeskWordsRow.holds Tryz.pinned (OpenSpec.ofChange Rows.fnExactDeskWordsSpec) :=
  OpenClaim.holds_of_wide 3 Tryz.f3 rfl rfl rfl rfl rfl rfl rfl ⟨rfl, rfl, rfl, rfl, rfl⟩ rfl rfl rfl rfl rfl h5 Tryz.func3 closed
    h6 h7
    (fun os started H enc _ => lifted os started H enc)


end Go.Proofs.YtmmojboagplopaaGreatDoor.fnExactDeskWords
