/- Bits, Prefix, in one text. -/
import Derived.Test.YtgnolcbdojjieaaWords
import Derived.RegionTactic
import Derived.BigQuiet
import Derived.Deep.QuietTactic
import Derived.Deep.DeepCutAuto

/- Addresses and their bits: what the specification's AddrRight, l02Bits and l02Bit answer. -/
namespace Go.Proofs.Ytgnolcbdojjieaa
open Go.RowKit Go.PlainAid
set_option linter.unusedVariables false
set_option linter.unusedSimpArgs false

end Go.Proofs.Ytgnolcbdojjieaa

/- Prefixes: what the specification's PrefixRight, l02Has, PrefixHas and l02Nat answer. -/
namespace Go.Proofs.Ytgnolcbdojjieaa
open Go.RowKit Go.PlainAid
set_option linter.unusedVariables false
set_option linter.unusedSimpArgs false


end Go.Proofs.Ytgnolcbdojjieaa
