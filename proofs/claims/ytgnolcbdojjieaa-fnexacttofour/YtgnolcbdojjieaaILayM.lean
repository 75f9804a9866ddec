/- ILayM: what the program's layWords answers to numbers of more than a word: their low halves. -/
import Derived.Test.YtgnolcbdojjieaaAdd
namespace Go.Proofs.Ytgnolcbdojjieaa
open Go.RowKit Go.PlainAid
set_option linter.unusedVariables false
set_option linter.unusedSimpArgs false

end Go.Proofs.Ytgnolcbdojjieaa
