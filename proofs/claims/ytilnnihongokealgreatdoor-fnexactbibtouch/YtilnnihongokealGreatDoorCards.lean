/-
  DERIVED. GIVEN WITH THE SEED: THE CARDS: each row of YtilnnihongokealGreatDoorRows.lean that lists a variable, with what it lists TIED to the program's text (the seventh form; the later family's looks); each row that meets fmt, with fmt's text TOLD by the authors' own Lean function (tested against real Go, not proved from fmt's source: count such statements apart). THE CARD IS WHAT COUNTS. Prove the row's statement (the work); the ties are given (YtilnnihongokealGreatDoorTie.lean); close each card by the builder's one call (the guide's Derived/Test/ToyasCard.lean, 'card_holds'). Laid BY PROGRAM, IN A SANDBOX (cutbox-door.mjs). By AI agents, Wed Nov 11 2026. No macro, syntax, notation, axiom, sorry.
-/
import Derived.Test.YtilnnihongokealGreatDoorRows
import GoSem.ClaimSeven
namespace Go.Proofs.YtilnnihongokealGreatDoor
namespace Rows

/-- THE TIED CARD OF 'laws.FnExactBibTouch'. -/
def fnExactBibTouchCard : Claim7 := { stood := { row := fnExactBibTouchRow, standIns := [], harness := (true, "6203ab79882dabc9c73e520a0b67fec6119c7ddd3d216a6b1afa7de3c0db7581"), looks := false }, kinds := [], alts := [], laidByText := true, laidKinds := [.wider], laidTests := true, laidLooks := .later }
def FnExactBibTouchCardSaid : Prop := Claim7.holds Tryz.pinned (.plain (OpenSpec.ofChange fnExactBibTouchSpec)) fnExactBibTouchCard

/-- THE SECOND FORM's CARD OF 'laws.FnExactBibTouch'. -/
def fnExactBibTouchUptoCard : Claim7 := { stood := { row := fnExactBibTouchUptoRow, standIns := [], harness := (true, "6203ab79882dabc9c73e520a0b67fec6119c7ddd3d216a6b1afa7de3c0db7581"), looks := false }, kinds := [], alts := [], laidByText := true, laidKinds := [.wider], laidTests := true, laidLooks := .later }
def FnExactBibTouchUptoCardSaid : Prop := Claim7.holds Tryz.pinned (.plain (OpenSpec.upto fnExactBibTouchSpec)) fnExactBibTouchUptoCard
end Rows
end Go.Proofs.YtilnnihongokealGreatDoor
