/- What the sums of chapter 2 answer over a string, in the program and in its specification: one contract a function. -/
import Derived.Test.YtgnolcbdojjieaaWords
namespace Go.Proofs.Ytgnolcbdojjieaa
open Go.RowKit Go.PlainAid

end Go.Proofs.Ytgnolcbdojjieaa
