/- The program's DeskWords answers as the specification's: the five words rising, in a row of their own, at every call: the law FnExactDeskWords returns true, and writes nothing that was there. No condition of its own. -/
import Derived.Test.YtmmojboagplopaaGreatDoorRows
import Derived.Test.YtmmojboagplopaaGreatDoorCards
import Derived.Test.YtmmojboagplopaaGreatDoorTie
import Derived.Test.YtmmojboagplopaaGreatDoorDwOver
import Derived.Test.YtmmojboagplopaaGreatDoorDwKg
import Derived.Test.YtmmojboagplopaaGreatDoorDwKh
import Derived.OpenVars
import Derived.WalkKit
import Derived.ProofKit
import Derived.OpenShut
import Derived.ShutString
import Derived.ChangeOld
import Derived.Below
import Derived.Lib.SmallJoins
import Derived.Lib.LaidTab
import Derived.Lay
import Derived.SevenTiedAt
import Derived.LaidHandle
import Derived.LaidLaws
import Derived.LaidMore
set_option linter.unusedVariables false
set_option maxRecDepth 100000
namespace Go.Proofs.YtmmojboagplopaaGreatDoor
open Go
theorem fnExactDeskWords_holds : Rows.FnExactDeskWordsCardSaid :=
  Claim7.holds_tied_plain_at .later [] [.data, .data, .data, .handle, .wider, .sentinel, .sentinel, .sentinel, .sentinel, .sentinel, .sentinel, .sentinel, .sentinel] true (true, "bc6e1b07842b5cbb078c987e0312a2181f2ef4133c88d1a00808739433269aa1") true
    fnExactDeskWords.over (fun _ h => by cases h) fnExactDeskWords.h1 (fun _ h => by cases h) fnExactDeskWords_row_tie rfl ⟨rfl, rfl⟩ fnExactDeskWords.h2 rfl
    (fun f fn hf hfn => by
      obtain rfl : f = 3 := Option.some.inj (fnExactDeskWords.h5.symm.trans hf) |>.symm
      obtain rfl : fn = Tryz.f3 := (Option.some.inj (Tryz.func3.symm.trans hfn)).symm
      exact ⟨fnExactDeskWords.h3, fun j t ht => by
        rw [Tryz.params3] at ht
        have hm : t ∈ [] := by simpa using Array.mem_of_getElem? ht
        have hall : ([].all fun u => !Tryz.prog.wantsStandIn u) = true := by kernel_rfl
        exact (show Tryz.prog.wantsStandIn t = false by simpa using List.all_eq_true.1 hall t hm)⟩)
    fnExactDeskWords.h4
#print axioms fnExactDeskWords_holds
end Go.Proofs.YtmmojboagplopaaGreatDoor
