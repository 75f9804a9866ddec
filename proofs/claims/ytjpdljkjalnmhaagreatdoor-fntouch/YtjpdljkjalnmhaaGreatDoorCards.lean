/-
  DERIVED. GIVEN WITH THE SEED: THE CARDS: each row of YtjpdljkjalnmhaaGreatDoorRows.lean that lists a variable, with what it lists TIED to the program's text (the seventh form; the later family's looks); each row that meets fmt, with fmt's text TOLD by the authors' own Lean function (tested against real Go, not proved from fmt's source: count such statements apart). THE CARD IS WHAT COUNTS. Prove the row's statement (the work); the ties are given (YtjpdljkjalnmhaaGreatDoorTie.lean); close each card by the builder's one call (the guide's Derived/Test/ToyasCard.lean, 'card_holds'). Laid BY PROGRAM, IN A SANDBOX (cutbox-door.mjs). By AI agents, Wed Nov 11 2026. No macro, syntax, notation, axiom, sorry.
-/
import Derived.Test.YtjpdljkjalnmhaaGreatDoorRows
import GoSem.ClaimSeven
namespace Go.Proofs.YtjpdljkjalnmhaaGreatDoor
namespace Rows

/-- THE TIED CARD OF 'laws.FnTouch'. -/
def fnTouchCard : Claim7 := { stood := { row := fnTouchRow, standIns := [], harness := (true, "120ea886c3407d93283b56018b864866792ba392c24a0c78e28cdc749b3da6c4"), looks := false }, kinds := [], alts := [], laidByText := true, laidKinds := [.wider], laidTests := true, laidLooks := .later }
def FnTouchCardSaid : Prop := Claim7.holds Tryz.pinned (.plain (OpenSpec.ofChange fnTouchSpec)) fnTouchCard

/-- THE SECOND FORM's CARD OF 'laws.FnTouch'. -/
def fnTouchUptoCard : Claim7 := { stood := { row := fnTouchUptoRow, standIns := [], harness := (true, "120ea886c3407d93283b56018b864866792ba392c24a0c78e28cdc749b3da6c4"), looks := false }, kinds := [], alts := [], laidByText := true, laidKinds := [.wider], laidTests := true, laidLooks := .later }
def FnTouchUptoCardSaid : Prop := Claim7.holds Tryz.pinned (.plain (OpenSpec.upto fnTouchSpec)) fnTouchUptoCard
end Rows
end Go.Proofs.YtjpdljkjalnmhaaGreatDoor
