import Derived.Test.YtdkepkaflielhaaGreatDoorAb
import Derived.Test.YtdkepkaflielhaaGreatDoorTouch9
import Derived.Test.YtdkepkaflielhaaGreatDoorCarry
import Derived.Test.YtdkepkaflielhaaGreatDoorPkt
set_option linter.unusedVariables false
set_option linter.unusedSimpArgs false
set_option maxRecDepth 100000
set_option maxHeartbeats 8000000
namespace Go.Proofs.YtdkepkaflielhaaGreatDoor
open Go.RowKit Go.PlainAid
structure No where
 bib:Bb
 four:P4
 six:P6
 code:Int
def noL (a b:Option Addr) (ca cb:Nat) (o:No):List Value:=[.slice a o.bib.binds.length ca,.slice b o.bib.sess.length cb,iV o.four.tos,iV o.four.id,.bool o.four.whole,.bool o.four.more,iV o.four.off,iV o.four.ttl,iV o.four.proto,.string o.four.src,.string o.four.dst,.string o.four.opts,.string o.four.data,iV o.six.cls,iV o.six.flow,iV o.six.next,iV o.six.hops,.string o.six.src,.string o.six.dst,.bool o.six.piece,.bool o.six.more,iV o.six.off,iV o.six.id,.string o.six.data,iV o.code]
def noC (a b:Option Addr) (ca cb:Nat) (o:No):Value:=.agg (noL a b ca cb o).toArray
def noE (c:Int):No:=⟨bbZ,p4Zero,p6Zero,c⟩
def natFt (p:Pl) (x:Bb) (q:P4) (now:Int):Int:=if (bibOk p x&&v4Ok q&&isTime now)=false then 1 else if (q.more||decide (q.off≠0))=true then 10 else 0
def flagV (proto:Int) (t:ByteArray):Int:=if proto=6 then bt t 13 else 0
def peerV (proto n:Int):Int:=if echoP proto=true then 0 else n
def protoN (p:Int):Int:=if p=58 then 1 else p
def goT (f:Fl) (peer t:ByteArray):Tc:=⟨protoN f.proto,true,f.src,f.sp,peer,peerV f.proto f.dp,flagV f.proto t⟩
def comeT (f:Fl) (t:ByteArray):Tc:=⟨f.proto,false,f.dst,f.dp,f.src,peerV f.proto f.sp,flagV f.proto t⟩
def kindF (f g:Fl):Fl:=if echoP f.proto=true then ⟨if g.src.size=16 then 58 else 1,g.src,g.dst,g.sp,g.sp⟩ else g
def fromF (f:Fl) (src:ByteArray) (port:Int) (dst:ByteArray):Fl:=kindF f ⟨f.proto,src,dst,port,f.dp⟩
def toF (f:Fl) (src dst:ByteArray) (port:Int):Fl:=kindF f ⟨f.proto,src,dst,if echoP f.proto=true then port else f.sp,port⟩
def setD (f g:Fl) (t:ByteArray):ByteArray:=if bareUdp f t=true then (if g.src.size=16 then ⟨#[]⟩ else setOut f g t) else putV (setOut f g t) (checkP f.proto) (twoV (newCheck f g t))
def natGoIn (p:Pl) (x:Bb) (q:P4) (now:Int):No :=
 if ofCode q.src.size q.proto q.data≠0 then noE (ofCode q.src.size q.proto q.data)
 else if (goV p x (goT (ofFl q.src q.dst q.proto q.data) q.dst q.data) now).code≠0 then noE (goV p x (goT (ofFl q.src q.dst q.proto q.data) q.dst q.data) now).code
 else ⟨(goV p x (goT (ofFl q.src q.dst q.proto q.data) q.dst q.data) now).bib,{ q with src:=(goV p x (goT (ofFl q.src q.dst q.proto q.data) q.dst q.data) now).bind.out,data:=setD (ofFl q.src q.dst q.proto q.data) (fromF (ofFl q.src q.dst q.proto q.data) (goV p x (goT (ofFl q.src q.dst q.proto q.data) q.dst q.data) now).bind.out (goV p x (goT (ofFl q.src q.dst q.proto q.data) q.dst q.data) now).bind.outPort q.dst) q.data },p6Zero,0⟩
def natGoV (p:Pl) (x:Bb) (q:P4) (now:Int):No:=if natFt p x q now≠0 then noE (natFt p x q now) else natGoIn p x q now
def natComeIn (p:Pl) (x:Bb) (q:P4) (now:Int):No :=
 if inL p.addrs q.dst=false then noE 6
 else if ofCode q.src.size q.proto q.data≠0 then noE (ofCode q.src.size q.proto q.data)
 else if (goV p x (comeT (ofFl q.src q.dst q.proto q.data) q.data) now).code≠0 then noE (goV p x (comeT (ofFl q.src q.dst q.proto q.data) q.data) now).code
 else if (goV p x (comeT (ofFl q.src q.dst q.proto q.data) q.data) now).bind.inn.size≠4 then noE 11
 else ⟨(goV p x (comeT (ofFl q.src q.dst q.proto q.data) q.data) now).bib,{ q with dst:=(goV p x (comeT (ofFl q.src q.dst q.proto q.data) q.data) now).bind.inn,data:=setD (ofFl q.src q.dst q.proto q.data) (toF (ofFl q.src q.dst q.proto q.data) q.src (goV p x (comeT (ofFl q.src q.dst q.proto q.data) q.data) now).bind.inn (goV p x (comeT (ofFl q.src q.dst q.proto q.data) q.data) now).bind.inPort) q.data },p6Zero,0⟩
def natComeV (p:Pl) (x:Bb) (q:P4) (now:Int):No:=if natFt p x q now≠0 then noE (natFt p x q now) else natComeIn p x q now
end Go.Proofs.YtdkepkaflielhaaGreatDoor
