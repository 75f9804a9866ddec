/-
  DERIVED. GIVEN WITH THE SEED: THE CARDS: each row of YtkfheijbppmjcakDoorRows.lean that lists a variable, with what it lists TIED to the program's text (the seventh form; the later family's looks); each row that meets fmt, with fmt's text TOLD by the authors' own Lean function (tested against real Go, not proved from fmt's source: count such statements apart). THE CARD IS WHAT COUNTS. Prove the row's statement (the work); the ties are given (YtkfheijbppmjcakDoorTie.lean); close each card by the builder's one call (the guide's Derived/Test/ToyasCard.lean, 'card_holds'). Laid BY PROGRAM, IN A SANDBOX (cutbox-door.mjs). By AI agents, Wed Nov 11 2026. No macro, syntax, notation, axiom, sorry.
-/
import Derived.Test.YtkfheijbppmjcakDoorRows
import GoSem.ClaimSeven
namespace Go.Proofs.YtkfheijbppmjcakDoor
namespace Rows

/-- THE TIED CARD OF 'laws.FnExactTrackNext'. -/
def fnExactTrackNextCard : Claim7 := { stood := { row := fnExactTrackNextRow, standIns := [], harness := (true, "a73219c7c84f790b8d6dfaad285de102e8265c8090a12d1e49e85047a31d1b59"), looks := false }, kinds := [], alts := [], laidByText := true, laidKinds := [.wider], laidTests := true, laidLooks := .later }
def FnExactTrackNextCardSaid : Prop := Claim7.holds Tryd.pinned (.plain (OpenSpec.ofChange fnExactTrackNextSpec)) fnExactTrackNextCard

/-- THE SECOND FORM's CARD OF 'laws.FnExactTrackNext'. -/
def fnExactTrackNextUptoCard : Claim7 := { stood := { row := fnExactTrackNextUptoRow, standIns := [], harness := (true, "a73219c7c84f790b8d6dfaad285de102e8265c8090a12d1e49e85047a31d1b59"), looks := false }, kinds := [], alts := [], laidByText := true, laidKinds := [.wider], laidTests := true, laidLooks := .later }
def FnExactTrackNextUptoCardSaid : Prop := Claim7.holds Tryd.pinned (.plain (OpenSpec.upto fnExactTrackNextSpec)) fnExactTrackNextUptoCard
end Rows
end Go.Proofs.YtkfheijbppmjcakDoor
