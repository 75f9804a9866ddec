/- Bibs: binds, sessions, touches (chapter 9), as plain structures for both sides. -/
import Derived.Test.YtmmojboagplopaaGreatDoorPkt
namespace Go.Proofs.YtmmojboagplopaaGreatDoor
open Go.RowKit
set_option linter.unusedVariables false
set_option linter.unusedSimpArgs false

structure Bd where
  proto : Int
  inn : ByteArray
  inPort : Int
  out : ByteArray
  outPort : Int
def bdC (p : Bd) : Value := .agg #[.int .i64 p.proto, .string p.inn, .int .i64 p.inPort, .string p.out, .int .i64 p.outPort]
def bdL (p : Bd) : List Value := [.int .i64 p.proto, .string p.inn, .int .i64 p.inPort, .string p.out, .int .i64 p.outPort]
theorem bdL_length (p : Bd) : (bdL p).length = 5 := rfl
instance : Inhabited Bd := ⟨⟨0, ⟨#[]⟩, 0, ⟨#[]⟩, 0⟩⟩
structure Ss where
  proto : Int
  inn : ByteArray
  inPort : Int
  peer : ByteArray
  peerPort : Int
  state : Int
  untl : Int
def ssC (p : Ss) : Value := .agg #[.int .i64 p.proto, .string p.inn, .int .i64 p.inPort, .string p.peer, .int .i64 p.peerPort, .int .i64 p.state, .int .i64 p.untl]
def ssL (p : Ss) : List Value := [.int .i64 p.proto, .string p.inn, .int .i64 p.inPort, .string p.peer, .int .i64 p.peerPort, .int .i64 p.state, .int .i64 p.untl]
theorem ssL_length (p : Ss) : (ssL p).length = 7 := rfl
instance : Inhabited Ss := ⟨⟨0, ⟨#[]⟩, 0, ⟨#[]⟩, 0, 0, 0⟩⟩
structure Tc where
  proto : Int
  inside : Bool
  addr : ByteArray
  port : Int
  peer : ByteArray
  peerPort : Int
  flags : Int
def tcC (p : Tc) : Value := .agg #[.int .i64 p.proto, .bool p.inside, .string p.addr, .int .i64 p.port, .string p.peer, .int .i64 p.peerPort, .int .i64 p.flags]
def tcL (p : Tc) : List Value := [.int .i64 p.proto, .bool p.inside, .string p.addr, .int .i64 p.port, .string p.peer, .int .i64 p.peerPort, .int .i64 p.flags]
end Go.Proofs.YtmmojboagplopaaGreatDoor
