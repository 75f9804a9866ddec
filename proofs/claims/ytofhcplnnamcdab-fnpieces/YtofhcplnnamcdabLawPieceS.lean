/- LawPieceS: the laws' helpers for slices of Piece, and one that came in, opened. Printed by mkflatS.py. -/
import Derived.Test.YtofhcplnnamcdabMgSl
import Derived.Test.YtofhcplnnamcdabLawPiece
import Derived.Test.YtofhcplnnamcdabMgGr
import Derived.Deep.RegionWith
import Derived.Deep.DeepCutAuto
namespace Go.Proofs.Ytofhcplnnamcdab
open Go.RowKit Go.PlainAid Go.ChangeShapes Go.WideShapes
set_option linter.unusedVariables false
set_option linter.unusedSimpArgs false

/-- The lengths of its texts. -/
def pieceN (p : Pc) : List Nat := [p.src.size, p.dst.size, p.data.size]
def PcsWf (xs : List Pc) : Prop := xs.length ≤ maxLen ∧ ∀ q ∈ xs, PcWf q






/-- The marks of one. -/
def pieceM (k : Nat) : List Value := [.string (markV (k)), .string (markV (k + 1)), .int .i64 ((k + 2 : Nat) : Int), .int .i64 ((k + 3 : Nat) : Int), .int .i64 ((k + 4 : Nat) : Int), .bool (((k + 5 : Nat) : Int) % 3 == 0), .string (markV (k + 6)), .int .i64 ((k + 7 : Nat) : Int)]
theorem pieceM_length (k : Nat) : (pieceM k).length = 8 := rfl





end Go.Proofs.Ytofhcplnnamcdab
