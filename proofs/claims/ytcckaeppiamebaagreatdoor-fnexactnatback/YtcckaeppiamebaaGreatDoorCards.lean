/-
  DERIVED. GIVEN WITH THE SEED: THE CARDS: each row of YtcckaeppiamebaaGreatDoorRows.lean that lists a variable, with what it lists TIED to the program's text (the seventh form; the later family's looks); each row that meets fmt, with fmt's text TOLD by the authors' own Lean function (tested against real Go, not proved from fmt's source: count such statements apart). THE CARD IS WHAT COUNTS. Prove the row's statement (the work); the ties are given (YtcckaeppiamebaaGreatDoorTie.lean); close each card by the builder's one call (the guide's Derived/Test/ToyasCard.lean, 'card_holds'). Laid BY PROGRAM, IN A SANDBOX (cutbox-door.mjs). By AI agents, Wed Nov 11 2026. No macro, syntax, notation, axiom, sorry.
-/
import Derived.Test.YtcckaeppiamebaaGreatDoorRows
import GoSem.ClaimSeven
namespace Go.Proofs.YtcckaeppiamebaaGreatDoor
namespace Rows

/-- THE TIED CARD OF 'laws.FnExactNatGo'. -/
def fnExactNatGoCard : Claim7 := { stood := { row := fnExactNatGoRow, standIns := [], harness := (true, "e23d972265ce71b6fb90ff22783794b56e9c917d37351dde351a3e65dcf1fa2b"), looks := true }, kinds := [], alts := [], laidByText := true, laidKinds := [.wider], laidTests := true, laidLooks := .later }
def FnExactNatGoCardSaid : Prop := Claim7.holds Tryz.pinned (.plain (OpenSpec.ofChange fnExactNatGoSpec)) fnExactNatGoCard

/-- THE TIED CARD OF 'laws.FnExactNatCome'. -/
def fnExactNatComeCard : Claim7 := { stood := { row := fnExactNatComeRow, standIns := [], harness := (true, "e23d972265ce71b6fb90ff22783794b56e9c917d37351dde351a3e65dcf1fa2b"), looks := true }, kinds := [], alts := [], laidByText := true, laidKinds := [.wider], laidTests := true, laidLooks := .later }
def FnExactNatComeCardSaid : Prop := Claim7.holds Tryz.pinned (.plain (OpenSpec.ofChange fnExactNatComeSpec)) fnExactNatComeCard

/-- THE TIED CARD OF 'laws.FnExactNatBack'. -/
def fnExactNatBackCard : Claim7 := { stood := { row := fnExactNatBackRow, standIns := [], harness := (true, "e23d972265ce71b6fb90ff22783794b56e9c917d37351dde351a3e65dcf1fa2b"), looks := true }, kinds := [], alts := [], laidByText := true, laidKinds := [.wider], laidTests := true, laidLooks := .later }
def FnExactNatBackCardSaid : Prop := Claim7.holds Tryz.pinned (.plain (OpenSpec.ofChange fnExactNatBackSpec)) fnExactNatBackCard

/-- THE SECOND FORM's CARD OF 'laws.FnExactNatGo'. -/
def fnExactNatGoUptoCard : Claim7 := { stood := { row := fnExactNatGoUptoRow, standIns := [], harness := (true, "e23d972265ce71b6fb90ff22783794b56e9c917d37351dde351a3e65dcf1fa2b"), looks := true }, kinds := [], alts := [], laidByText := true, laidKinds := [.wider], laidTests := true, laidLooks := .later }
def FnExactNatGoUptoCardSaid : Prop := Claim7.holds Tryz.pinned (.plain (OpenSpec.upto fnExactNatGoSpec)) fnExactNatGoUptoCard

/-- THE SECOND FORM's CARD OF 'laws.FnExactNatCome'. -/
def fnExactNatComeUptoCard : Claim7 := { stood := { row := fnExactNatComeUptoRow, standIns := [], harness := (true, "e23d972265ce71b6fb90ff22783794b56e9c917d37351dde351a3e65dcf1fa2b"), looks := true }, kinds := [], alts := [], laidByText := true, laidKinds := [.wider], laidTests := true, laidLooks := .later }
def FnExactNatComeUptoCardSaid : Prop := Claim7.holds Tryz.pinned (.plain (OpenSpec.upto fnExactNatComeSpec)) fnExactNatComeUptoCard

/-- THE SECOND FORM's CARD OF 'laws.FnExactNatBack'. -/
def fnExactNatBackUptoCard : Claim7 := { stood := { row := fnExactNatBackUptoRow, standIns := [], harness := (true, "e23d972265ce71b6fb90ff22783794b56e9c917d37351dde351a3e65dcf1fa2b"), looks := true }, kinds := [], alts := [], laidByText := true, laidKinds := [.wider], laidTests := true, laidLooks := .later }
def FnExactNatBackUptoCardSaid : Prop := Claim7.holds Tryz.pinned (.plain (OpenSpec.upto fnExactNatBackSpec)) fnExactNatBackUptoCard
end Rows
end Go.Proofs.YtcckaeppiamebaaGreatDoor
