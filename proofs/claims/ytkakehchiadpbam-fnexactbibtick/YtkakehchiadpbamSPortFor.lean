/- SPortFor: what the specification's PortFor answers. Printed by mksportfor.py. -/
import Derived.Test.YtkakehchiadpbamSPort
import Derived.Test.YtkakehchiadpbamLawBibM
namespace Go.Proofs.Ytkakehchiadpbam
open Go.RowKit Go.PlainAid
set_option linter.unusedVariables false
set_option linter.unusedSimpArgs false

def bbZ : Bb := ⟨[], []⟩
def portForV (p : Pl) (x : Bb) (proto : Int) (inn : ByteArray) (port : Int) : Bo :=
  if 20000 < inn.size then ⟨bbZ, bdZ, 2⟩
  else if (bibOk p x && protoB proto && addrOk inn && isW port) = true then ⟨bbZ, (lendV p x.binds proto inn port).1, (lendV p x.binds proto inn port).2⟩
  else ⟨bbZ, bdZ, 1⟩


end Go.Proofs.Ytkakehchiadpbam
