import Derived.Test.YtellgkeakiikkaaWords
set_option linter.unusedVariables false
set_option linter.unusedSimpArgs false
set_option maxRecDepth 100000
set_option maxHeartbeats 8000000
namespace Go.Proofs.Ytellgkeakiikkaa
open Go.RowKit Go.PlainAid
def addrOk (s:ByteArray):Bool:=s.size==4||s.size==16
theorem addrOk_size {s:ByteArray} (h:addrOk s=true):s.size=4∨s.size=16:=by simpa [addrOk] using h
theorem addrOk_yes {s:ByteArray} (h:s.size=4∨s.size=16):addrOk s=true:=by simpa [addrOk] using h
theorem addrOk_no {s:ByteArray} (h:¬ (s.size=4∨s.size=16)):addrOk s=false:=by
 rw [Bool.eq_false_iff]; intro hh; exact h (addrOk_size hh)
end Go.Proofs.Ytellgkeakiikkaa
