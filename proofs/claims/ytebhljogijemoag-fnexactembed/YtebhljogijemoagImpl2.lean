/- The program's side of chapter 3 but for texts: all its contracts. -/
import Derived.Test.YtebhljogijemoagIExtract
namespace Go.Proofs.Ytebhljogijemoag
end Go.Proofs.Ytebhljogijemoag
