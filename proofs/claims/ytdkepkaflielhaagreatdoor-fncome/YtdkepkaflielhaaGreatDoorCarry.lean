import Derived.Test.YtdkepkaflielhaaGreatDoorAb
import Derived.Test.YtdkepkaflielhaaGreatDoorPkt
import Derived.Test.YtdkepkaflielhaaGreatDoorBits
set_option linter.unusedVariables false
set_option linter.unusedSimpArgs false
set_option maxRecDepth 100000
set_option maxHeartbeats 8000000
namespace Go.Proofs.YtdkepkaflielhaaGreatDoor
open Go.RowKit Go.PlainAid
structure Fl where
 proto:Int
 src:ByteArray
 dst:ByteArray
 sp:Int
 dp:Int
def fwC (f:Fl):Value:=.agg (FlR f.proto f.src f.dst f.sp f.dp).toArray
def fwCO (f:Fl) (code:Int):Value:=.agg #[iV f.proto,.string f.src,.string f.dst,iV f.sp,iV f.dp,iV code]
def flZero:Fl:=⟨0,⟨#[]⟩,⟨#[]⟩,0,0⟩
def pairOk (s d:ByteArray):Bool:=addrOk s&&decide (s.size=d.size)
def echoP (p:Int):Bool:=decide (p=1)||decide (p=58)
def protoOk (p:Int) (n:Nat):Bool:=decide (p=6)||decide (p=17)||(decide (p=1)&&decide (n=4))||(decide (p=58)&&decide (n=16))
def flowOk (f:Fl):Bool:=pairOk f.src f.dst&&protoOk f.proto f.src.size&&isW f.sp&&isW f.dp&&(!echoP f.proto||decide (f.sp=f.dp))
theorem pairOk_parts {s d:ByteArray} (h:pairOk s d=true):(s.size=4∨s.size=16)∧d.size=s.size:=by
 unfold pairOk at h;rw [Bool.and_eq_true,decide_eq_true_iff] at h;exact ⟨addrOk_size h.1,h.2.symm⟩
def shortP (p:Int) (t:ByteArray):Bool:=(decide (p=6)&&(decide (t.size < 20)||decide (bt t 12 / 16 < 5)||decide ((t.size:Int) < 4*(bt t 12 / 16))))||decide (t.size < 8)
def askP (p:Int):Int:=if p=58 then 128 else 8
def ansP (p:Int):Int:=if p=58 then 129 else 0
def ofCode (n:Nat) (p:Int) (t:ByteArray):Int :=
 if protoOk p n=false then 11
 else if shortP p t=true then 4
 else if echoP p=true then (if (bt t 0≠askP p∧bt t 0≠ansP p)∨bt t 1≠0 then 11 else 0)
 else 0
def ofFl (s d:ByteArray) (p:Int) (t:ByteArray):Fl :=
 if ofCode s.size p t=0 then (if echoP p=true then ⟨p,s,d,wordN (bt t) 4,wordN (bt t) 4⟩ else ⟨p,s,d,wordN (bt t) 0,wordN (bt t) 2⟩)
 else ⟨p,s,d,0,0⟩
def flowCode (s d:ByteArray) (p:Int) (t:ByteArray):Int :=
 if 20000 < t.size∨20000 < s.size∨20000 < d.size then 2 else if pairOk s d=false then 1 else ofCode s.size p t
def flowOfV (s d:ByteArray) (p:Int) (t:ByteArray):Fl:=if flowCode s d p t=0 then ofFl s d p t else flZero
def quadW (x y:Int):ByteArray:=⟨#[UInt8.ofNat x.toNat,0,0,UInt8.ofNat y.toNat]⟩
theorem quadW_size (x y:Int):(quadW x y).size=4:=rfl
def pseudoV (s d:ByteArray) (p:Int) (n:Nat):ByteArray :=
 if p=1∧s.size=4 then ⟨#[]⟩
 else if s.size=4 then s++d++pairV 0 p++twoV (n:Int)
 else s++d++twoV ((n:Int) / 65536)++twoV ((n:Int) % 65536)++quadW 0 p
theorem pseudoV_size (s d:ByteArray) (p:Int) (n:Nat) (hs:s.size≤16) (hd:d.size≤16):(pseudoV s d p n).size≤40:=by
 unfold pseudoV;split
 ·exact Nat.zero_le _
 ·split
  ·simp only [ByteArray.size_append,pairV_size,twoV_size]; omega
  ·simp only [ByteArray.size_append,twoV_size,quadW_size]; omega
def putV (t:ByteArray) (k:Nat) (u:ByteArray):ByteArray:=t.extract 0 k++u++t.extract (k+u.size) t.size
theorem putV_size {t u:ByteArray} {k:Nat} (h:k+u.size≤t.size):(putV t k u).size=t.size:=by
 unfold putV; simp only [ByteArray.size_append,ByteArray.size_extract]; omega
def checkP (p:Int):Nat:=if p=6 then 16 else if p=17 then 6 else 2
def partV (f:Fl) (t:ByteArray):ByteArray:=(if echoP f.proto=true then t.extract 0 2++t.extract 4 6 else t.extract 0 4)++pseudoV f.src f.dst f.proto t.size
def swapV (b:Int):Int:=if b=8 then 128 else if b=0 then 129 else if b=128 then 8 else 0
def firstV8 (f g:Fl) (t:ByteArray):Int:=if f.proto≠g.proto then swapV (bt t 0) else bt t 0
def oneV (x:Int):ByteArray:=⟨#[UInt8.ofNat x.toNat]⟩
def setOut (f g:Fl) (t:ByteArray):ByteArray :=
 if echoP f.proto=true then putV (putV t 0 (oneV (firstV8 f g t))) 4 (twoV g.sp) else putV t 0 (twoV g.sp++twoV g.dp)
def newCheck (f g:Fl) (t:ByteArray):Int :=
 let n:=65535-add1 (add1 (65535-wordN (bt t) (checkP f.proto)) (65535-sumV (partV f t))) (sumV (partV g (setOut f g t)))
 if n=0 then 65535 else n
def bareUdp (f:Fl) (t:ByteArray):Bool:=decide (f.proto=17)&&decide (wordN (bt t) (checkP f.proto)=0)&&decide (f.src.size=4)
def setIn (f g:Fl) (t:ByteArray):Bool:=flowOk f&&flowOk g&&(decide (f.proto=g.proto)||(echoP f.proto&&echoP g.proto))&&decide (ofCode f.src.size f.proto t=0)&&decide ((ofFl f.src f.dst f.proto t).sp=f.sp)&&decide ((ofFl f.src f.dst f.proto t).dp=f.dp)
def setCode (f g:Fl) (t:ByteArray):Int :=
 if 20000 < t.size then 2 else if setIn f g t=false then 1 else if bareUdp f t=true∧g.src.size=16 then 5 else 0
def setData (f g:Fl) (t:ByteArray):ByteArray :=
 if setCode f g t=0 then (if bareUdp f t=true then setOut f g t else putV (setOut f g t) (checkP f.proto) (twoV (newCheck f g t))) else ⟨#[]⟩
def dtCO (t:ByteArray) (code:Int):Value:=.agg #[.string t,iV code]
def tcpFlagsV (t:ByteArray):Int:=if 20000 < t.size∨t.size < 20 then 0 else bt t 13
abbrev FlV (p : Fl) : List Value := [iV p.proto,.string p.src,.string p.dst,iV p.sp,iV p.dp]
end Go.Proofs.YtdkepkaflielhaaGreatDoor
