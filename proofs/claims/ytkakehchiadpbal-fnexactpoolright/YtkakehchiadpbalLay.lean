/- The words' bytes, and sums over lists of bytes: what WordBytes, SumAdd, SumTurn and SumRight answer, in the program and in its specification. -/
import Derived.Test.YtkakehchiadpbalTwo
namespace Go.Proofs.Ytkakehchiadpbal
open Go.RowKit Go.PlainAid


/-- What WordBytes answers. -/
def wordBytesV (n : Int) : ByteArray := if 0 ≤ n ∧ n ≤ 65535 then twoV n else ⟨#[]⟩


theorem lay_one {ws : List Int} {n : Int} (h : ws = [n]) : layL ws = [n / 256, n % 256] := by subst h; rfl



end Go.Proofs.Ytkakehchiadpbal
