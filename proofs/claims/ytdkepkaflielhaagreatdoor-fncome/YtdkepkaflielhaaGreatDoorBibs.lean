import Derived.Test.YtdkepkaflielhaaGreatDoorAb
import Derived.Test.YtdkepkaflielhaaGreatDoorPkt
set_option linter.unusedVariables false
set_option linter.unusedSimpArgs false
set_option maxRecDepth 100000
set_option maxHeartbeats 8000000
namespace Go.Proofs.YtdkepkaflielhaaGreatDoor
open Go.RowKit
structure Bd where
 proto:Int
 inn:ByteArray
 inPort:Int
 out:ByteArray
 outPort:Int
def bdC (p:Bd):Value:=.agg (BdR p.proto p.inn p.inPort p.out p.outPort).toArray
def bdL (p:Bd):List Value:=(BdR p.proto p.inn p.inPort p.out p.outPort)
theorem bdL_length (p:Bd):(bdL p).length=5:=rfl
instance:Inhabited Bd:=⟨⟨0,⟨#[]⟩,0,⟨#[]⟩,0⟩⟩
structure Ss where
 proto:Int
 inn:ByteArray
 inPort:Int
 peer:ByteArray
 peerPort:Int
 state:Int
 untl:Int
def ssC (p:Ss):Value:=.agg (SsR p.proto p.inn p.inPort p.peer p.peerPort p.state p.untl).toArray
def ssL (p:Ss):List Value:=(SsR p.proto p.inn p.inPort p.peer p.peerPort p.state p.untl)
theorem ssL_length (p:Ss):(ssL p).length=7:=rfl
instance:Inhabited Ss:=⟨⟨0,⟨#[]⟩,0,⟨#[]⟩,0,0,0⟩⟩
structure Tc where
 proto:Int
 inside:Bool
 addr:ByteArray
 port:Int
 peer:ByteArray
 peerPort:Int
 flags:Int
def tcC (p:Tc):Value:=.agg (TcR p.proto p.inside p.addr p.port p.peer p.peerPort p.flags).toArray
abbrev TcV (p : Tc) : List Value := [iV p.proto,.bool p.inside,.string p.addr,iV p.port,.string p.peer,iV p.peerPort,iV p.flags]
abbrev BdV (p : Bd) : List Value := [iV p.proto,.string p.inn,iV p.inPort,.string p.out,iV p.outPort]
abbrev SsV (p : Ss) : List Value := [iV p.proto,.string p.inn,iV p.inPort,.string p.peer,iV p.peerPort,iV p.state,iV p.untl]
end Go.Proofs.YtdkepkaflielhaaGreatDoor
