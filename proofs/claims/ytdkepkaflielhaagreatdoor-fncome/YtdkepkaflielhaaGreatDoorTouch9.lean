import Derived.Test.YtdkepkaflielhaaGreatDoorAb
import Derived.Test.YtdkepkaflielhaaGreatDoorSPortFor
import Derived.Test.YtdkepkaflielhaaGreatDoorPieces
set_option linter.unusedVariables false
set_option linter.unusedSimpArgs false
set_option maxRecDepth 100000
set_option maxHeartbeats 8000000
namespace Go.Proofs.YtdkepkaflielhaaGreatDoor
open Go.RowKit
def touchOk (t:Tc):Bool:=protoB t.proto&&addrOk t.addr&&(t.inside||decide (t.addr.size=4))&&isW t.port&&decide (t.peer.size=4)&&isW t.peerPort&&isIn t.flags 0 255
def withP (c:Bd) (peer:ByteArray) (port:Int) (s:Ss):Bool:=hasS c s&&decide (s.peer.toList=peer.toList)&&decide (s.peerPort=port)
def withA (c:Bd) (peer:ByteArray) (s:Ss):Bool:=hasS c s&&decide (s.peer.toList=peer.toList)
def sessN (p:Pl) (t:Tc) (c:Bd) (st now:Int):Ss:=⟨t.proto,c.inn,c.inPort,t.peer,t.peerPort,st,now+trackLifeV p.lv t.proto st⟩
def newB (xs:List Bd) (c:Bd):List Bd:=if findI (ofIn c.proto c.inn c.inPort) xs < 0 then xs++[c] else xs
def boE (n:Int):Bo:=⟨bbZ,bdZ,n⟩
def newV (p:Pl) (x:Bb) (t:Tc) (c:Bd) (now:Int):Bo :=
 if trackNewV t.proto t.inside t.flags=0 then boE 6
 else if p.most≤(x.sess.length:Int) then boE 9
 else if (if t.inside=true then (lendV p x.binds t.proto t.addr t.port).2 else 0)≠0 then boE (if t.inside=true then (lendV p x.binds t.proto t.addr t.port).2 else 0)
 else ⟨⟨newB x.binds (if t.inside=true then (lendV p x.binds t.proto t.addr t.port).1 else c),x.sess++[sessN p t (if t.inside=true then (lendV p x.binds t.proto t.addr t.port).1 else c) (trackNewV t.proto t.inside t.flags) now]⟩,(if t.inside=true then (lendV p x.binds t.proto t.addr t.port).1 else c),0⟩
def nextS (p:Pl) (t:Tc) (now:Int) (s:Ss):Ss:={ s with state:=trackNextV t.proto s.state t.inside t.flags,untl:=now+trackLifeV p.lv t.proto (trackNextV t.proto s.state t.inside t.flags) }
def setN (xs:List Ss) (i:Nat) (f:Ss→Ss):List Ss:=match xs[i]? with | some s=>xs.set i (f s) | none=>xs
def goneB (p:Pl) (x:Bb) (t:Tc) (c:Bd):Bool:=!t.inside&&(decide (p.filter=2)||(decide (p.filter=1)&&!x.sess.any (withA c t.peer)))
def goV (p:Pl) (x:Bb) (t:Tc) (now:Int):Bo :=
 match x.binds.find? (if t.inside=true then ofIn t.proto t.addr t.port else ofOut t.proto t.addr t.port) with
 | none=>if t.inside=true then newV p x t bdZ now else boE 6
 | some c=>match x.sess.findIdx? (withP c t.peer t.peerPort) with
  | none=>if goneB p x t c=true then boE 6 else newV p x t c now
  | some i=>⟨⟨x.binds,setN x.sess i (nextS p t now)⟩,c,0⟩
def bibTouchV (p:Pl) (x:Bb) (t:Tc) (now:Int):Bo:=if (bibOk p x&&isTime now&&touchOk t)=true then goV p x t now else boE 1
end Go.Proofs.YtdkepkaflielhaaGreatDoor
