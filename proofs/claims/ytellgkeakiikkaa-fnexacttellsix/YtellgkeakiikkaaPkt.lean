import Derived.Test.YtellgkeakiikkaaTwo
import Derived.Test.YtellgkeakiikkaaMerged2
import Derived.Test.YtellgkeakiikkaaSumMath
set_option linter.unusedVariables false
set_option linter.unusedSimpArgs false
set_option maxRecDepth 100000
set_option maxHeartbeats 8000000
namespace Go.Proofs.Ytellgkeakiikkaa
open Go.RowKit Go.PlainAid
structure P4 where
 tos:Int
 id:Int
 whole:Bool
 more:Bool
 off:Int
 ttl:Int
 proto:Int
 src:ByteArray
 dst:ByteArray
 opts:ByteArray
 data:ByteArray
structure P6 where
 cls:Int
 flow:Int
 next:Int
 hops:Int
 src:ByteArray
 dst:ByteArray
 piece:Bool
 more:Bool
 off:Int
 id:Int
 data:ByteArray
def p6C (p:P6):Value:=.agg #[.int .i64 p.cls,.int .i64 p.flow,.int .i64 p.next,.int .i64 p.hops,.string p.src,.string p.dst,.bool p.piece,.bool p.more,.int .i64 p.off,.int .i64 p.id,.string p.data]
def p6CO (p:P6) (code:Int):Value:=.agg #[.int .i64 p.cls,.int .i64 p.flow,.int .i64 p.next,.int .i64 p.hops,.string p.src,.string p.dst,.bool p.piece,.bool p.more,.int .i64 p.off,.int .i64 p.id,.string p.data,.int .i64 code]
def isIn (n lo hi:Int):Bool:=decide (lo≤n)&&decide (n≤hi)
theorem isIn_parts {n lo hi:Int} (h:isIn n lo hi=true):lo≤n∧n≤hi:=by simpa [isIn] using h
def v4A (p:P4):Bool:=isIn p.tos 0 255&&isIn p.ttl 0 255&&isIn p.proto 0 255&&isIn p.id 0 65535&&isIn p.off 0 8191&&decide (p.src.size=4)&&decide (p.dst.size=4)
def v4B (p:P4):Bool:=decide (p.opts.size≤40)&&decide (p.opts.size % 4=0)&&decide (p.data.size≤1400)&&!(p.more&&!decide (p.data.size % 8=0))&&decide (8*p.off+p.data.size≤65515)
def v4C (p:P4):Bool:=!p.whole||(!p.more&&decide (p.off=0))
def v4Ok (p:P4):Bool:=v4A p&&v4B p&&v4C p
def v6A (p:P6):Bool:=isIn p.cls 0 255&&isIn p.next 0 255&&isIn p.hops 0 255&&isIn p.flow 0 1048575&&decide (p.src.size=16)&&decide (p.dst.size=16)&&decide (p.data.size≤1400)&&!decide (p.next=44)
def v6B (p:P6):Bool:=if p.piece then isIn p.off 0 8191&&isIn p.id 0 4294967295&&(!p.more||decide (p.data.size % 8=0))&&decide (8*p.off+p.data.size≤65535) else !p.more&&decide (p.off=0)&&decide (p.id=0)
def v6Ok (p:P6):Bool:=v6A p&&v6B p
def pairV (x y:Int):ByteArray:=⟨#[UInt8.ofNat x.toNat,UInt8.ofNat y.toNat]⟩
theorem pairV_size (x y:Int):(pairV x y).size=2:=rfl
def offV (p:P4):Int:=p.off+(if p.whole then 16384 else 0)+(if p.more then 8192 else 0)
def hlen (p:P4):Int:=20+p.opts.size
def headA (p:P4):ByteArray:=pairV (64+hlen p / 4) p.tos++twoV (hlen p+p.data.size)++twoV p.id++twoV (offV p)++pairV p.ttl p.proto
def headB (p:P4):ByteArray:=p.src++p.dst++p.opts
def v4Raw (p:P4):ByteArray:=headA p++twoV (65535-sumV (headA p++headB p))++headB p++p.data
def firstN (p:P6):Int:=6*268435456+p.cls*1048576+p.flow
def restV (p:P6):ByteArray:=if p.piece then pairV p.next 0++twoV (8*p.off+if p.more then 1 else 0)++twoV (p.id / 65536)++twoV (p.id % 65536)++p.data else p.data
def v6Raw (p:P6):ByteArray:=twoV (firstN p / 65536)++twoV (firstN p % 65536)++twoV (restV p).size++pairV (if p.piece then 44 else p.next) p.hops++p.src++p.dst++restV p
def v6BytesV (p:P6):ByteArray:=if v6Ok p then v6Raw p else ⟨#[]⟩
def p4Zero:P4:=⟨0,0,false,false,0,0,0,⟨#[]⟩,⟨#[]⟩,⟨#[]⟩,⟨#[]⟩⟩
def p6Zero:P6:=⟨0,0,0,0,⟨#[]⟩,⟨#[]⟩,false,false,0,0,⟨#[]⟩⟩
end Go.Proofs.Ytellgkeakiikkaa
