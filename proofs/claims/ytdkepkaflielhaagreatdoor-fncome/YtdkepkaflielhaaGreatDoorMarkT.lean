import Derived.Test.YtdkepkaflielhaaGreatDoorAb
import Derived.Test.YtdkepkaflielhaaGreatDoorBase
import Derived.Test.YtdkepkaflielhaaGreatDoorTwo
import Derived.Deep.RegionWith
set_option linter.unusedVariables false
set_option linter.unusedSimpArgs false
set_option maxRecDepth 100000
set_option maxHeartbeats 8000000
namespace Go.Proofs.YtdkepkaflielhaaGreatDoor
open Go.RowKit Go.PlainAid
def oneM (x:Nat):ByteArray:=⟨#[UInt8.ofNat x]⟩
def markA (k:Nat) (o:ByteArray):ByteArray:=if h:k=0 then o else markA (k / 10) (oneM (48+k % 10)++o)
termination_by k
decreasing_by omega
def emM:ByteArray:=⟨#[109]⟩
def markV (k:Nat):ByteArray:=emM++markA k ⟨#[]⟩
end Go.Proofs.YtdkepkaflielhaaGreatDoor
