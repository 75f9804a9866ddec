/-
  DERIVED. GIVEN WITH THE SEED: THE CARDS: each row of YtdkepkaflielhaaGreatDoorRows.lean that lists a variable, with what it lists TIED to the program's text (the seventh form; the later family's looks); each row that meets fmt, with fmt's text TOLD by the authors' own Lean function (tested against real Go, not proved from fmt's source: count such statements apart). THE CARD IS WHAT COUNTS. Prove the row's statement (the work); the ties are given (YtdkepkaflielhaaGreatDoorTie.lean); close each card by the builder's one call (the guide's Derived/Test/ToyasCard.lean, 'card_holds'). Laid BY PROGRAM, IN A SANDBOX (cutbox-door.mjs). By AI agents, Wed Nov 11 2026. No macro, syntax, notation, axiom, sorry.
-/
import Derived.Test.YtdkepkaflielhaaGreatDoorRows
import GoSem.ClaimSeven
namespace Go.Proofs.YtdkepkaflielhaaGreatDoor
namespace Rows

/-- THE TIED CARD OF 'laws.FnGo'. -/
def fnGoCard : Claim7 := { stood := { row := fnGoRow, standIns := [], harness := (true, "4ba0d35d57976872f66edd96653c7376c249ce14df1076f59219f745aebf041b"), looks := true }, kinds := [], alts := [], laidByText := true, laidKinds := [.wider], laidTests := true, laidLooks := .later }
def FnGoCardSaid : Prop := Claim7.holds Tryz.pinned (.plain (OpenSpec.ofChange fnGoSpec)) fnGoCard

/-- THE TIED CARD OF 'laws.FnCome'. -/
def fnComeCard : Claim7 := { stood := { row := fnComeRow, standIns := [], harness := (true, "4ba0d35d57976872f66edd96653c7376c249ce14df1076f59219f745aebf041b"), looks := true }, kinds := [], alts := [], laidByText := true, laidKinds := [.wider], laidTests := true, laidLooks := .later }
def FnComeCardSaid : Prop := Claim7.holds Tryz.pinned (.plain (OpenSpec.ofChange fnComeSpec)) fnComeCard

/-- THE TIED CARD OF 'laws.FnBack'. -/
def fnBackCard : Claim7 := { stood := { row := fnBackRow, standIns := [], harness := (true, "4ba0d35d57976872f66edd96653c7376c249ce14df1076f59219f745aebf041b"), looks := true }, kinds := [], alts := [], laidByText := true, laidKinds := [.wider], laidTests := true, laidLooks := .later }
def FnBackCardSaid : Prop := Claim7.holds Tryz.pinned (.plain (OpenSpec.ofChange fnBackSpec)) fnBackCard

/-- THE SECOND FORM's CARD OF 'laws.FnGo'. -/
def fnGoUptoCard : Claim7 := { stood := { row := fnGoUptoRow, standIns := [], harness := (true, "4ba0d35d57976872f66edd96653c7376c249ce14df1076f59219f745aebf041b"), looks := true }, kinds := [], alts := [], laidByText := true, laidKinds := [.wider], laidTests := true, laidLooks := .later }
def FnGoUptoCardSaid : Prop := Claim7.holds Tryz.pinned (.plain (OpenSpec.upto fnGoSpec)) fnGoUptoCard

/-- THE SECOND FORM's CARD OF 'laws.FnCome'. -/
def fnComeUptoCard : Claim7 := { stood := { row := fnComeUptoRow, standIns := [], harness := (true, "4ba0d35d57976872f66edd96653c7376c249ce14df1076f59219f745aebf041b"), looks := true }, kinds := [], alts := [], laidByText := true, laidKinds := [.wider], laidTests := true, laidLooks := .later }
def FnComeUptoCardSaid : Prop := Claim7.holds Tryz.pinned (.plain (OpenSpec.upto fnComeSpec)) fnComeUptoCard

/-- THE SECOND FORM's CARD OF 'laws.FnBack'. -/
def fnBackUptoCard : Claim7 := { stood := { row := fnBackUptoRow, standIns := [], harness := (true, "4ba0d35d57976872f66edd96653c7376c249ce14df1076f59219f745aebf041b"), looks := true }, kinds := [], alts := [], laidByText := true, laidKinds := [.wider], laidTests := true, laidLooks := .later }
def FnBackUptoCardSaid : Prop := Claim7.holds Tryz.pinned (.plain (OpenSpec.upto fnBackSpec)) fnBackUptoCard
end Rows
end Go.Proofs.YtdkepkaflielhaaGreatDoor
