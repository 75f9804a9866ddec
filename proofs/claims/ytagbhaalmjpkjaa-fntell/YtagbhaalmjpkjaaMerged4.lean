import Derived.Test.YtagbhaalmjpkjaaMerged2
import Derived.Test.YtagbhaalmjpkjaaMerged3
import Derived.Test.YtagbhaalmjpkjaaMerged1
import Derived.Test.YtagbhaalmjpkjaaBase
import Derived.ChangeArms
import Derived.WideShapes
import Derived.ChangeShapes
set_option linter.unusedVariables false
set_option linter.unusedSimpArgs false
set_option maxRecDepth 100000
set_option maxHeartbeats 8000000
namespace Go.Proofs.Ytagbhaalmjpkjaa
open Go.RowKit Go.PlainAid
structure P4 where
 tos:Int
 id:Int
 whole:Bool
 more:Bool
 off:Int
 ttl:Int
 proto:Int
 src:ByteArray
 dst:ByteArray
 opts:ByteArray
 data:ByteArray
structure P6 where
 cls:Int
 flow:Int
 next:Int
 hops:Int
 src:ByteArray
 dst:ByteArray
 piece:Bool
 more:Bool
 off:Int
 id:Int
 data:ByteArray
def p4C (p:P4):Value:=.agg #[.int .i64 p.tos,.int .i64 p.id,.bool p.whole,.bool p.more,.int .i64 p.off,.int .i64 p.ttl,.int .i64 p.proto,.string p.src,.string p.dst,.string p.opts,.string p.data]
def p6C (p:P6):Value:=.agg #[.int .i64 p.cls,.int .i64 p.flow,.int .i64 p.next,.int .i64 p.hops,.string p.src,.string p.dst,.bool p.piece,.bool p.more,.int .i64 p.off,.int .i64 p.id,.string p.data]
def p4CO (p:P4) (code:Int):Value:=.agg #[.int .i64 p.tos,.int .i64 p.id,.bool p.whole,.bool p.more,.int .i64 p.off,.int .i64 p.ttl,.int .i64 p.proto,.string p.src,.string p.dst,.string p.opts,.string p.data,.int .i64 code]
def p6CO (p:P6) (code:Int):Value:=.agg #[.int .i64 p.cls,.int .i64 p.flow,.int .i64 p.next,.int .i64 p.hops,.string p.src,.string p.dst,.bool p.piece,.bool p.more,.int .i64 p.off,.int .i64 p.id,.string p.data,.int .i64 code]
def isIn (n lo hi:Int):Bool:=decide (lo≤n)&&decide (n≤hi)
theorem isIn_parts {n lo hi:Int} (h:isIn n lo hi=true):lo≤n∧n≤hi:=by simpa [isIn] using h
def v4A (p:P4):Bool:=isIn p.tos 0 255&&isIn p.ttl 0 255&&isIn p.proto 0 255&&isIn p.id 0 65535&&isIn p.off 0 8191&&decide (p.src.size=4)&&decide (p.dst.size=4)
def v4B (p:P4):Bool:=decide (p.opts.size≤40)&&decide (p.opts.size % 4=0)&&decide (p.data.size≤1400)&&!(p.more&&!decide (p.data.size % 8=0))&&decide (8*p.off+p.data.size≤65515)
def v4C (p:P4):Bool:=!p.whole||(!p.more&&decide (p.off=0))
def v4Ok (p:P4):Bool:=v4A p&&v4B p&&v4C p
def v6A (p:P6):Bool:=isIn p.cls 0 255&&isIn p.next 0 255&&isIn p.hops 0 255&&isIn p.flow 0 1048575&&decide (p.src.size=16)&&decide (p.dst.size=16)&&decide (p.data.size≤1400)&&!decide (p.next=44)
def v6B (p:P6):Bool:=if p.piece then isIn p.off 0 8191&&isIn p.id 0 4294967295&&(!p.more||decide (p.data.size % 8=0))&&decide (8*p.off+p.data.size≤65535) else !p.more&&decide (p.off=0)&&decide (p.id=0)
def v6Ok (p:P6):Bool:=v6A p&&v6B p
theorem v4A_parts {p:P4} (h:v4A p=true):(0≤p.tos∧p.tos≤255)∧(0≤p.ttl∧p.ttl≤255)∧(0≤p.proto∧p.proto≤255)∧(0≤p.id∧p.id≤65535)∧(0≤p.off∧p.off≤8191)∧p.src.size=4∧p.dst.size=4:=by
 unfold v4A at h;simp only [Bool.and_eq_true,decide_eq_true_iff] at h;obtain ⟨⟨⟨⟨⟨⟨h1,h2⟩,h3⟩,h4⟩,h5⟩,h6⟩,h7⟩:=h;exact ⟨isIn_parts h1,isIn_parts h2,isIn_parts h3,isIn_parts h4,isIn_parts h5,h6,h7⟩
theorem v4B_parts {p:P4} (h:v4B p=true):p.opts.size≤40∧p.opts.size % 4=0∧p.data.size≤1400∧(p.more=true→p.data.size % 8=0)∧8*p.off+p.data.size≤65515:=by
 unfold v4B at h;simp only [Bool.and_eq_true,Bool.not_eq_true',decide_eq_true_iff] at h;obtain ⟨⟨⟨⟨h1,h2⟩,h3⟩,h4⟩,h5⟩:=h;refine ⟨h1,h2,h3,fun hm=>?_,h5⟩;rw [hm,Bool.true_and,Bool.not_eq_false',decide_eq_true_iff] at h4;exact h4
def pairV (x y:Int):ByteArray:=⟨#[UInt8.ofNat x.toNat,UInt8.ofNat y.toNat]⟩
theorem pairV_size (x y:Int):(pairV x y).size=2:=rfl
theorem pairV_bt (x y:Int) (hx:0≤x∧x≤255) (hy:0≤y∧y≤255):bt (pairV x y) 0=x∧bt (pairV x y) 1=y:=by
 constructor
 ·exact u8_ofNat x hx.1 hx.2
 ·exact u8_ofNat y hy.1 hy.2
def offV (p:P4):Int:=p.off+(if p.whole then 16384 else 0)+(if p.more then 8192 else 0)
def hlen (p:P4):Int:=20+p.opts.size
def headA (p:P4):ByteArray:=pairV (64+hlen p / 4) p.tos++twoV (hlen p+p.data.size)++twoV p.id++twoV (offV p)++pairV p.ttl p.proto
def headB (p:P4):ByteArray:=p.src++p.dst++p.opts
def v4Raw (p:P4):ByteArray:=headA p++twoV (65535-sumV (headA p++headB p))++headB p++p.data
def v4BytesV (p:P4):ByteArray:=if v4Ok p then v4Raw p else ⟨#[]⟩
def firstN (p:P6):Int:=6*268435456+p.cls*1048576+p.flow
def restV (p:P6):ByteArray:=if p.piece then pairV p.next 0++twoV (8*p.off+if p.more then 1 else 0)++twoV (p.id / 65536)++twoV (p.id % 65536)++p.data else p.data
def v6Raw (p:P6):ByteArray:=twoV (firstN p / 65536)++twoV (firstN p % 65536)++twoV (restV p).size++pairV (if p.piece then 44 else p.next) p.hops++p.src++p.dst++restV p
def v6BytesV (p:P6):ByteArray:=if v6Ok p then v6Raw p else ⟨#[]⟩
def p4Zero:P4:=⟨0,0,false,false,0,0,0,⟨#[]⟩,⟨#[]⟩,⟨#[]⟩,⟨#[]⟩⟩
def p6Zero:P6:=⟨0,0,0,0,⟨#[]⟩,⟨#[]⟩,false,false,0,0,⟨#[]⟩⟩
end Go.Proofs.Ytagbhaalmjpkjaa
namespace Go.Proofs.Ytagbhaalmjpkjaa
open Go.RowKit
structure Bk where
 left:Int
 most:Int
 each:Int
 since:Int
open Go.PlainAid
def addrOk (s:ByteArray):Bool:=s.size==4||s.size==16
theorem addrOk_size {s:ByteArray} (h:addrOk s=true):s.size=4∨s.size=16:=by simpa [addrOk] using h
theorem addrOk_yes {s:ByteArray} (h:s.size=4∨s.size=16):addrOk s=true:=by simpa [addrOk] using h
theorem addrOk_no {s:ByteArray} (h:¬ (s.size=4∨s.size=16)):addrOk s=false:=by
 rw [Bool.eq_false_iff]; intro hh; exact h (addrOk_size hh)
theorem specAddrRight_any (s:ByteArray) (w:World) :
  Calls Try.prog 70 #[.string s] w fun e w'=>e=.returned (.bool (addrOk s))∧w'=w:=by
 by_cases h4:s.size=4
 ·have HV:Hid (addrOk s=true):=addrOk_yes (.inl h4);have h4':(s.size:Int)=4:=by omega
  clear h4;go_enter Try.func70,Try.ntmps70
  go_wp2
  go_ret;exact ⟨ret_bool HV.out.symm,rfl⟩
 ·by_cases h16:s.size=16
  ·have HV:Hid (addrOk s=true):=addrOk_yes (.inr h16);have h16':(s.size:Int)=16:=by omega
   clear h16 h4;go_enter Try.func70,Try.ntmps70
   go_wp2
   go_ret;exact ⟨ret_bool HV.out.symm,rfl⟩
  ·have HV:Hid (addrOk s=false):=addrOk_no (by omega);have e1:((s.size:Int)==4)=false:=by simp; omega
   have e2:((s.size:Int)==16)=false:=by simp; omega
   go_enter Try.func70,Try.ntmps70
   go_wp2
   go_ret;exact ⟨ret_bool HV.out.symm,rfl⟩
end Go.Proofs.Ytagbhaalmjpkjaa
namespace Go.Proofs.Ytagbhaalmjpkjaa
open Go.RowKit Go.ChangeShapes Go.WideShapes
def In64t (n:Int):Prop:=-9223372036854775808≤n∧n≤9223372036854775807
theorem cell_new {w:World} {cs:Array Value} {t:TypeId} {j:Nat} {v:Value} (h:cs[j]?=some v):(w.alloc (.cells cs t)).cell? ⟨w.heap.size,j,none⟩=some v:=by
 simp [h]
section
variable {H:Type} {enc:TypeId × Value→H} {P:Program} {w:World} {base:Nat} {spare:Nat→Bool} {held:Bool}
end
end Go.Proofs.Ytagbhaalmjpkjaa
