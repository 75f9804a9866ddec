import Derived.Test.YtcckaeppiamebaaGreatDoorAb
import Derived.Test.YtcckaeppiamebaaGreatDoorSPort
import Derived.Test.YtcckaeppiamebaaGreatDoorMerged7
import Derived.Test.YtcckaeppiamebaaGreatDoorMerged2
import Derived.Test.YtcckaeppiamebaaGreatDoorMerged1
import Derived.Test.YtcckaeppiamebaaGreatDoorMerged8
import Derived.Deep.DeepCutAuto
set_option linter.unusedVariables false
set_option linter.unusedSimpArgs false
set_option maxRecDepth 100000
set_option maxHeartbeats 8000000
namespace Go.Proofs.YtcckaeppiamebaaGreatDoor
open Go.RowKit Go.PlainAid
def bbZ:Bb:=⟨[],[]⟩
structure Fl where
 proto:Int
 src:ByteArray
 dst:ByteArray
 sp:Int
 dp:Int
def fwC (f:Fl):Value:=.agg (FlR f.proto f.src f.dst f.sp f.dp).toArray
def fwCO (f:Fl) (code:Int):Value:=.agg #[iV f.proto,.string f.src,.string f.dst,iV f.sp,iV f.dp,iV code]
def flZero:Fl:=⟨0,⟨#[]⟩,⟨#[]⟩,0,0⟩
def pairOk (s d:ByteArray):Bool:=addrOk s&&decide (s.size=d.size)
def echoP (p:Int):Bool:=decide (p=1)||decide (p=58)
def protoOk (p:Int) (n:Nat):Bool:=decide (p=6)||decide (p=17)||(decide (p=1)&&decide (n=4))||(decide (p=58)&&decide (n=16))
def flowOk (f:Fl):Bool:=pairOk f.src f.dst&&protoOk f.proto f.src.size&&isW f.sp&&isW f.dp&&(!echoP f.proto||decide (f.sp=f.dp))
theorem pairOk_parts {s d:ByteArray} (h:pairOk s d=true):(s.size=4∨s.size=16)∧d.size=s.size:=by
 unfold pairOk at h;rw [Bool.and_eq_true,decide_eq_true_iff] at h;exact ⟨addrOk_size h.1,h.2.symm⟩
def shortP (p:Int) (t:ByteArray):Bool:=(decide (p=6)&&(decide (t.size < 20)||decide (bt t 12 / 16 < 5)||decide ((t.size:Int) < 4*(bt t 12 / 16))))||decide (t.size < 8)
def askP (p:Int):Int:=if p=58 then 128 else 8
def ansP (p:Int):Int:=if p=58 then 129 else 0
def ofCode (n:Nat) (p:Int) (t:ByteArray):Int :=
 if protoOk p n=false then 11
 else if shortP p t=true then 4
 else if echoP p=true then (if (bt t 0≠askP p∧bt t 0≠ansP p)∨bt t 1≠0 then 11 else 0)
 else 0
def ofFl (s d:ByteArray) (p:Int) (t:ByteArray):Fl :=
 if ofCode s.size p t=0 then (if echoP p=true then ⟨p,s,d,wordN (bt t) 4,wordN (bt t) 4⟩ else ⟨p,s,d,wordN (bt t) 0,wordN (bt t) 2⟩)
 else ⟨p,s,d,0,0⟩
def flowCode (s d:ByteArray) (p:Int) (t:ByteArray):Int :=
 if 20000 < t.size∨20000 < s.size∨20000 < d.size then 2 else if pairOk s d=false then 1 else ofCode s.size p t
def flowOfV (s d:ByteArray) (p:Int) (t:ByteArray):Fl:=if flowCode s d p t=0 then ofFl s d p t else flZero
def quadW (x y:Int):ByteArray:=⟨#[UInt8.ofNat x.toNat,0,0,UInt8.ofNat y.toNat]⟩
theorem quadW_size (x y:Int):(quadW x y).size=4:=rfl
def pseudoV (s d:ByteArray) (p:Int) (n:Nat):ByteArray :=
 if p=1∧s.size=4 then ⟨#[]⟩
 else if s.size=4 then s++d++pairV 0 p++twoV (n:Int)
 else s++d++twoV ((n:Int) / 65536)++twoV ((n:Int) % 65536)++quadW 0 p
theorem pseudoV_size (s d:ByteArray) (p:Int) (n:Nat) (hs:s.size≤16) (hd:d.size≤16):(pseudoV s d p n).size≤40:=by
 unfold pseudoV;split
 ·exact Nat.zero_le _
 ·split
  ·simp only [ByteArray.size_append,pairV_size,twoV_size]; omega
  ·simp only [ByteArray.size_append,twoV_size,quadW_size]; omega
def putV (t:ByteArray) (k:Nat) (u:ByteArray):ByteArray:=t.extract 0 k++u++t.extract (k+u.size) t.size
theorem putV_size {t u:ByteArray} {k:Nat} (h:k+u.size≤t.size):(putV t k u).size=t.size:=by
 unfold putV; simp only [ByteArray.size_append,ByteArray.size_extract]; omega
def checkP (p:Int):Nat:=if p=6 then 16 else if p=17 then 6 else 2
def partV (f:Fl) (t:ByteArray):ByteArray:=(if echoP f.proto=true then t.extract 0 2++t.extract 4 6 else t.extract 0 4)++pseudoV f.src f.dst f.proto t.size
def swapV (b:Int):Int:=if b=8 then 128 else if b=0 then 129 else if b=128 then 8 else 0
def firstV8 (f g:Fl) (t:ByteArray):Int:=if f.proto≠g.proto then swapV (bt t 0) else bt t 0
def oneV (x:Int):ByteArray:=⟨#[UInt8.ofNat x.toNat]⟩
def setOut (f g:Fl) (t:ByteArray):ByteArray :=
 if echoP f.proto=true then putV (putV t 0 (oneV (firstV8 f g t))) 4 (twoV g.sp) else putV t 0 (twoV g.sp++twoV g.dp)
def newCheck (f g:Fl) (t:ByteArray):Int :=
 let n:=65535-add1 (add1 (65535-wordN (bt t) (checkP f.proto)) (65535-sumV (partV f t))) (sumV (partV g (setOut f g t)))
 if n=0 then 65535 else n
def bareUdp (f:Fl) (t:ByteArray):Bool:=decide (f.proto=17)&&decide (wordN (bt t) (checkP f.proto)=0)&&decide (f.src.size=4)
def setIn (f g:Fl) (t:ByteArray):Bool:=flowOk f&&flowOk g&&(decide (f.proto=g.proto)||(echoP f.proto&&echoP g.proto))&&decide (ofCode f.src.size f.proto t=0)&&decide ((ofFl f.src f.dst f.proto t).sp=f.sp)&&decide ((ofFl f.src f.dst f.proto t).dp=f.dp)
def setCode (f g:Fl) (t:ByteArray):Int :=
 if 20000 < t.size then 2 else if setIn f g t=false then 1 else if bareUdp f t=true∧g.src.size=16 then 5 else 0
def setData (f g:Fl) (t:ByteArray):ByteArray :=
 if setCode f g t=0 then (if bareUdp f t=true then setOut f g t else putV (setOut f g t) (checkP f.proto) (twoV (newCheck f g t))) else ⟨#[]⟩
def dtCO (t:ByteArray) (code:Int):Value:=.agg #[.string t,iV code]
def tcpFlagsV (t:ByteArray):Int:=if 20000 < t.size∨t.size < 20 then 0 else bt t 13
abbrev FlV (p : Fl) : List Value := [iV p.proto,.string p.src,.string p.dst,iV p.sp,iV p.dp]
structure Pc where
 src:ByteArray
 dst:ByteArray
 proto:Int
 id:Int
 off:Int
 more:Bool
 data:ByteArray
 since:Int
instance:Inhabited Pc:=⟨⟨⟨#[]⟩,⟨#[]⟩,0,0,0,false,⟨#[]⟩,0⟩⟩
def isTime (n:Int):Bool:=isIn n 0 1000000000
theorem find_at {α:Type} {p:α→Bool} {xs:List α} {i:Nat} (h:i < xs.length) (hn:(xs.take i).find? p=none) (hp:p xs[i]=true):xs.find? p=some xs[i]:=by
 conv=>lhs; rw [← List.take_append_drop i xs]
 rw [List.find?_append,hn,List.drop_eq_getElem_cons h,List.find?_cons_of_pos hp];rfl
structure PcOut where
 pieces:List Pc
 data:ByteArray
 done:Bool
 code:Int
end Go.Proofs.YtcckaeppiamebaaGreatDoor
namespace Go.Proofs.YtcckaeppiamebaaGreatDoor
open Go.RowKit
def touchOk (t:Tc):Bool:=protoB t.proto&&addrOk t.addr&&(t.inside||decide (t.addr.size=4))&&isW t.port&&decide (t.peer.size=4)&&isW t.peerPort&&isIn t.flags 0 255
def withP (c:Bd) (peer:ByteArray) (port:Int) (s:Ss):Bool:=hasS c s&&decide (s.peer.toList=peer.toList)&&decide (s.peerPort=port)
def withA (c:Bd) (peer:ByteArray) (s:Ss):Bool:=hasS c s&&decide (s.peer.toList=peer.toList)
def sessN (p:Pl) (t:Tc) (c:Bd) (st now:Int):Ss:=⟨t.proto,c.inn,c.inPort,t.peer,t.peerPort,st,now+trackLifeV p.lv t.proto st⟩
def newB (xs:List Bd) (c:Bd):List Bd:=if findI (ofIn c.proto c.inn c.inPort) xs < 0 then xs++[c] else xs
def boE (n:Int):Bo:=⟨bbZ,bdZ,n⟩
def newV (p:Pl) (x:Bb) (t:Tc) (c:Bd) (now:Int):Bo :=
 if trackNewV t.proto t.inside t.flags=0 then boE 6
 else if p.most≤(x.sess.length:Int) then boE 9
 else if (if t.inside=true then (lendV p x.binds t.proto t.addr t.port).2 else 0)≠0 then boE (if t.inside=true then (lendV p x.binds t.proto t.addr t.port).2 else 0)
 else ⟨⟨newB x.binds (if t.inside=true then (lendV p x.binds t.proto t.addr t.port).1 else c),x.sess++[sessN p t (if t.inside=true then (lendV p x.binds t.proto t.addr t.port).1 else c) (trackNewV t.proto t.inside t.flags) now]⟩,(if t.inside=true then (lendV p x.binds t.proto t.addr t.port).1 else c),0⟩
def nextS (p:Pl) (t:Tc) (now:Int) (s:Ss):Ss:={ s with state:=trackNextV t.proto s.state t.inside t.flags,untl:=now+trackLifeV p.lv t.proto (trackNextV t.proto s.state t.inside t.flags) }
def setN (xs:List Ss) (i:Nat) (f:Ss→Ss):List Ss:=match xs[i]? with | some s=>xs.set i (f s) | none=>xs
def goneB (p:Pl) (x:Bb) (t:Tc) (c:Bd):Bool:=!t.inside&&(decide (p.filter=2)||(decide (p.filter=1)&&!x.sess.any (withA c t.peer)))
def goV (p:Pl) (x:Bb) (t:Tc) (now:Int):Bo :=
 match x.binds.find? (if t.inside=true then ofIn t.proto t.addr t.port else ofOut t.proto t.addr t.port) with
 | none=>if t.inside=true then newV p x t bdZ now else boE 6
 | some c=>match x.sess.findIdx? (withP c t.peer t.peerPort) with
  | none=>if goneB p x t c=true then boE 6 else newV p x t c now
  | some i=>⟨⟨x.binds,setN x.sess i (nextS p t now)⟩,c,0⟩
def bibTouchV (p:Pl) (x:Bb) (t:Tc) (now:Int):Bo:=if (bibOk p x&&isTime now&&touchOk t)=true then goV p x t now else boE 1
open Go.PlainAid
structure No where
 bib:Bb
 four:P4
 six:P6
 code:Int
def noL (a b:Option Addr) (ca cb:Nat) (o:No):List Value:=[.slice a o.bib.binds.length ca,.slice b o.bib.sess.length cb,iV o.four.tos,iV o.four.id,.bool o.four.whole,.bool o.four.more,iV o.four.off,iV o.four.ttl,iV o.four.proto,.string o.four.src,.string o.four.dst,.string o.four.opts,.string o.four.data,iV o.six.cls,iV o.six.flow,iV o.six.next,iV o.six.hops,.string o.six.src,.string o.six.dst,.bool o.six.piece,.bool o.six.more,iV o.six.off,iV o.six.id,.string o.six.data,iV o.code]
def noC (a b:Option Addr) (ca cb:Nat) (o:No):Value:=.agg (noL a b ca cb o).toArray
def noE (c:Int):No:=⟨bbZ,p4Zero,p6Zero,c⟩
def natFt (p:Pl) (x:Bb) (q:P4) (now:Int):Int:=if (bibOk p x&&v4Ok q&&isTime now)=false then 1 else if (q.more||decide (q.off≠0))=true then 10 else 0
def flagV (proto:Int) (t:ByteArray):Int:=if proto=6 then bt t 13 else 0
def peerV (proto n:Int):Int:=if echoP proto=true then 0 else n
def protoN (p:Int):Int:=if p=58 then 1 else p
def goT (f:Fl) (peer t:ByteArray):Tc:=⟨protoN f.proto,true,f.src,f.sp,peer,peerV f.proto f.dp,flagV f.proto t⟩
def comeT (f:Fl) (t:ByteArray):Tc:=⟨f.proto,false,f.dst,f.dp,f.src,peerV f.proto f.sp,flagV f.proto t⟩
def kindF (f g:Fl):Fl:=if echoP f.proto=true then ⟨if g.src.size=16 then 58 else 1,g.src,g.dst,g.sp,g.sp⟩ else g
def fromF (f:Fl) (src:ByteArray) (port:Int) (dst:ByteArray):Fl:=kindF f ⟨f.proto,src,dst,port,f.dp⟩
def toF (f:Fl) (src dst:ByteArray) (port:Int):Fl:=kindF f ⟨f.proto,src,dst,if echoP f.proto=true then port else f.sp,port⟩
def setD (f g:Fl) (t:ByteArray):ByteArray:=if bareUdp f t=true then (if g.src.size=16 then ⟨#[]⟩ else setOut f g t) else putV (setOut f g t) (checkP f.proto) (twoV (newCheck f g t))
def natGoIn (p:Pl) (x:Bb) (q:P4) (now:Int):No :=
 if ofCode q.src.size q.proto q.data≠0 then noE (ofCode q.src.size q.proto q.data)
 else if (goV p x (goT (ofFl q.src q.dst q.proto q.data) q.dst q.data) now).code≠0 then noE (goV p x (goT (ofFl q.src q.dst q.proto q.data) q.dst q.data) now).code
 else ⟨(goV p x (goT (ofFl q.src q.dst q.proto q.data) q.dst q.data) now).bib,{ q with src:=(goV p x (goT (ofFl q.src q.dst q.proto q.data) q.dst q.data) now).bind.out,data:=setD (ofFl q.src q.dst q.proto q.data) (fromF (ofFl q.src q.dst q.proto q.data) (goV p x (goT (ofFl q.src q.dst q.proto q.data) q.dst q.data) now).bind.out (goV p x (goT (ofFl q.src q.dst q.proto q.data) q.dst q.data) now).bind.outPort q.dst) q.data },p6Zero,0⟩
def natGoV (p:Pl) (x:Bb) (q:P4) (now:Int):No:=if natFt p x q now≠0 then noE (natFt p x q now) else natGoIn p x q now
def natComeIn (p:Pl) (x:Bb) (q:P4) (now:Int):No :=
 if inL p.addrs q.dst=false then noE 6
 else if ofCode q.src.size q.proto q.data≠0 then noE (ofCode q.src.size q.proto q.data)
 else if (goV p x (comeT (ofFl q.src q.dst q.proto q.data) q.data) now).code≠0 then noE (goV p x (comeT (ofFl q.src q.dst q.proto q.data) q.data) now).code
 else if (goV p x (comeT (ofFl q.src q.dst q.proto q.data) q.data) now).bind.inn.size≠4 then noE 11
 else ⟨(goV p x (comeT (ofFl q.src q.dst q.proto q.data) q.data) now).bib,{ q with dst:=(goV p x (comeT (ofFl q.src q.dst q.proto q.data) q.data) now).bind.inn,data:=setD (ofFl q.src q.dst q.proto q.data) (toF (ofFl q.src q.dst q.proto q.data) q.src (goV p x (comeT (ofFl q.src q.dst q.proto q.data) q.data) now).bind.inn (goV p x (comeT (ofFl q.src q.dst q.proto q.data) q.data) now).bind.inPort) q.data },p6Zero,0⟩
def natComeV (p:Pl) (x:Bb) (q:P4) (now:Int):No:=if natFt p x q now≠0 then noE (natFt p x q now) else natComeIn p x q now
def natBackV (p:Pl) (x:Bb) (q:P4) (now:Int):No :=
 if natFt p x q now≠0 then noE (natFt p x q now)
 else if q.proto=1 then noE 11
 else if (natGoIn p x q now).code≠0 then natGoIn p x q now
 else natComeV p (natGoIn p x q now).bib (natGoIn p x q now).four now
open Go.ChangeShapes Go.WideShapes
structure BoxV6 (w:World) (B:Nat) (p:P6):Prop where
 c0:w.cell? ⟨B,0,none⟩=some (iV p.cls)
 c1:w.cell? ⟨B,1,none⟩=some (iV p.flow)
 c2:w.cell? ⟨B,2,none⟩=some (iV p.next)
 c3:w.cell? ⟨B,3,none⟩=some (iV p.hops)
 c4:w.cell? ⟨B,4,none⟩=some (.string p.src)
 c5:w.cell? ⟨B,5,none⟩=some (.string p.dst)
 c6:w.cell? ⟨B,6,none⟩=some (.bool p.piece)
 c7:w.cell? ⟨B,7,none⟩=some (.bool p.more)
 c8:w.cell? ⟨B,8,none⟩=some (iV p.off)
 c9:w.cell? ⟨B,9,none⟩=some (iV p.id)
 c10:w.cell? ⟨B,10,none⟩=some (.string p.data)
theorem BoxV6.kept {w W:World} {B:Nat} {p:P6} (h:BoxV6 w B p) (hB:Below w.heap.size w W):BoxV6 W B p:=by
 have hb:=World.block_lt_of_cell? w _ h.c0;exact ⟨((bcell hB).1 B 0 hb).trans h.c0,((bcell hB).1 B 1 hb).trans h.c1,((bcell hB).1 B 2 hb).trans h.c2,((bcell hB).1 B 3 hb).trans h.c3,((bcell hB).1 B 4 hb).trans h.c4,((bcell hB).1 B 5 hb).trans h.c5,((bcell hB).1 B 6 hb).trans h.c6,((bcell hB).1 B 7 hb).trans h.c7,((bcell hB).1 B 8 hb).trans h.c8,((bcell hB).1 B 9 hb).trans h.c9,((bcell hB).1 B 10 hb).trans h.c10⟩
theorem BoxV6.new (w:World) (p:P6) {t:TypeId}:BoxV6 (w.alloc (.cells #[iV p.cls,iV p.flow,iV p.next,iV p.hops,.string p.src,.string p.dst,.bool p.piece,.bool p.more,iV p.off,iV p.id,.string p.data] t)) w.heap.size p:=⟨cell_new rfl,cell_new rfl,cell_new rfl,cell_new rfl,cell_new rfl,cell_new rfl,cell_new rfl,cell_new rfl,cell_new rfl,cell_new rfl,cell_new rfl⟩
theorem eqV6_same (p:P6) (w:World) :
  Cb 37 #[p6C p,p6C p] w (.bool true):=by
 obtain ⟨cls,flow,next,hops,src,dst,piece,more,off,id,data⟩:=p;unfold p6C;dsimp only;have HZ:Hid (Below w.heap.size w ((aW w [iV cls,iV flow,iV next,iV hops,.string src,.string dst,.bool piece,.bool more,iV off,iV id,.string data] 42).alloc (.cells #[iV cls,iV flow,iV next,iV hops,.string src,.string dst,.bool piece,.bool more,iV off,iV id,.string data] 42))):=((Below.refl _ _).alloc (Nat.le_refl _) _).alloc (by simp) _;go_enter Tryz.func37,Tryz.ntmps37
 go_wp2_with fail
 go_ret;exact ⟨rfl,HZ.out⟩
end Go.Proofs.YtcckaeppiamebaaGreatDoor
namespace Go.Proofs.YtcckaeppiamebaaGreatDoor
open Go.RowKit Go.PlainAid
theorem eqNatOut_same (o:No) (a1 b1 a2 b2:Option Addr) (ca1 cb1 ca2 cb2:Nat) (w:World) (hl1:o.bib.binds.length≤1048576) (hl2:o.bib.sess.length≤1048576) (h1:BbIs w a1 b1 o.bib) (h2:BbIs w a2 b2 o.bib) :
  Cb 14 #[noC a1 b1 ca1 cb1 o,noC a2 b2 ca2 cb2 o] w (.bool true):=by
 have HB:Hid (Below w.heap.size w ((aW w (noL a1 b1 ca1 cb1 o) 44).alloc (.cells (noL a2 b2 ca2 cb2 o).toArray 44))):=((Below.refl _ _).alloc (Nat.le_refl _) _).alloc (by simp) _;have H0:=(HoldsL.new w (noL a1 b1 ca1 cb1 o) 44).alloc (.cells (noL a2 b2 ca2 cb2 o).toArray 44);have H1:=HoldsL.new (w.alloc (.cells (noL a1 b1 ca1 cb1 o).toArray 44)) (noL a2 b2 ca2 cb2 o) 44;rw [World.size_alloc] at H1;have HS:Hid (∀ W,Below w.heap.size w W→Cb 16 #[bbC a1 b1 ca1 cb1 o.bib,bbC a2 b2 ca2 cb2 o.bib] W (.bool true)):=fun W hW=>eqBib_same o.bib a1 b1 a2 b2 ca1 cb1 ca2 cb2 W hl1 hl2 (h1.below hW) (h2.below hW)
 have HT:Hid (∀ W,Cb 36 #[p4C o.four,p4C o.four] W (.bool true)):=fun W=>eqV4_same o.four W
 have HU:Hid (∀ W,Cb 37 #[p6C o.six,p6C o.six] W (.bool true)):=fun W=>eqV6_same o.six W
 have G0:Hid (HoldsL _ w.heap.size [.slice a1 o.bib.binds.length ca1,.slice b1 o.bib.sess.length cb1,iV o.four.tos,iV o.four.id,.bool o.four.whole,.bool o.four.more,iV o.four.off,iV o.four.ttl,iV o.four.proto,.string o.four.src,.string o.four.dst,.string o.four.opts,.string o.four.data,iV o.six.cls,iV o.six.flow,iV o.six.next,iV o.six.hops,.string o.six.src,.string o.six.dst,.bool o.six.piece,.bool o.six.more,iV o.six.off,iV o.six.id,.string o.six.data,iV o.code]):=H0;have G1:Hid (HoldsL _ (w.heap.size+1) [.slice a2 o.bib.binds.length ca2,.slice b2 o.bib.sess.length cb2,iV o.four.tos,iV o.four.id,.bool o.four.whole,.bool o.four.more,iV o.four.off,iV o.four.ttl,iV o.four.proto,.string o.four.src,.string o.four.dst,.string o.four.opts,.string o.four.data,iV o.six.cls,iV o.six.flow,iV o.six.next,iV o.six.hops,.string o.six.src,.string o.six.dst,.bool o.six.piece,.bool o.six.more,iV o.six.off,iV o.six.id,.string o.six.data,iV o.code]):=H1;unfold noC;unfold bbC at HS;unfold p4C at HT;unfold p6C at HU;unfold noL at HB G0 G1 ⊢;clear h1 h2 H0 H1;go_enter Tryz.func14,Tryz.ntmps14
 go_upto_region 1 with fail
 generalize ((aW w [.slice a1 o.bib.binds.length ca1,.slice b1 o.bib.sess.length cb1,iV o.four.tos,iV o.four.id,.bool o.four.whole,.bool o.four.more,iV o.four.off,iV o.four.ttl,iV o.four.proto,.string o.four.src,.string o.four.dst,.string o.four.opts,.string o.four.data,iV o.six.cls,iV o.six.flow,iV o.six.next,iV o.six.hops,.string o.six.src,.string o.six.dst,.bool o.six.piece,.bool o.six.more,iV o.six.off,iV o.six.id,.string o.six.data,iV o.code] 44).alloc (.cells #[.slice a2 o.bib.binds.length ca2,.slice b2 o.bib.sess.length cb2,iV o.four.tos,iV o.four.id,.bool o.four.whole,.bool o.four.more,iV o.four.off,iV o.four.ttl,iV o.four.proto,.string o.four.src,.string o.four.dst,.string o.four.opts,.string o.four.data,iV o.six.cls,iV o.six.flow,iV o.six.next,iV o.six.hops,.string o.six.src,.string o.six.dst,.bool o.six.piece,.bool o.six.more,iV o.six.off,iV o.six.id,.string o.six.data,iV o.code] 44))=W0 at *;have c0:=G0.out.cell (j:=0) rfl;have d0:=G1.out.cell (j:=0) rfl;have c1:=G0.out.cell (j:=1) rfl;have d1:=G1.out.cell (j:=1) rfl;go_wp2_with fail
 refine (HS.out _ HB.out).mono ?_;rintro e w1 ⟨rfl,q⟩;have B1:Hid _:=HB.out.trans (q.mono HB.out.size);replace G0:Hid _:=G0.out.kept (by simp) q;replace G1:Hid _:=G1.out.kept (by simp) q;clear q;clear c0 d0 c1 d1;have c2:=G0.out.cell (j:=2) rfl;have d2:=G1.out.cell (j:=2) rfl;have c3:=G0.out.cell (j:=3) rfl;have d3:=G1.out.cell (j:=3) rfl;have c4:=G0.out.cell (j:=4) rfl;have d4:=G1.out.cell (j:=4) rfl;have c5:=G0.out.cell (j:=5) rfl;have d5:=G1.out.cell (j:=5) rfl;have c6:=G0.out.cell (j:=6) rfl;have d6:=G1.out.cell (j:=6) rfl;have c7:=G0.out.cell (j:=7) rfl;have d7:=G1.out.cell (j:=7) rfl;have c8:=G0.out.cell (j:=8) rfl;have d8:=G1.out.cell (j:=8) rfl;have c9:=G0.out.cell (j:=9) rfl;have d9:=G1.out.cell (j:=9) rfl;have c10:=G0.out.cell (j:=10) rfl;have d10:=G1.out.cell (j:=10) rfl;have c11:=G0.out.cell (j:=11) rfl;have d11:=G1.out.cell (j:=11) rfl;have c12:=G0.out.cell (j:=12) rfl;have d12:=G1.out.cell (j:=12) rfl;go_wp2_with fail
 refine (HT.out _).mono ?_;rintro e w2 ⟨rfl,q⟩;have B2:Hid _:=B1.out.trans (q.mono B1.out.size);replace G0:Hid _:=G0.out.kept (by simp) q;replace G1:Hid _:=G1.out.kept (by simp) q;clear q;clear c2 d2 c3 d3 c4 d4 c5 d5 c6 d6 c7 d7 c8 d8 c9 d9 c10 d10 c11 d11 c12 d12;have c13:=G0.out.cell (j:=13) rfl;have d13:=G1.out.cell (j:=13) rfl;have c14:=G0.out.cell (j:=14) rfl;have d14:=G1.out.cell (j:=14) rfl;have c15:=G0.out.cell (j:=15) rfl;have d15:=G1.out.cell (j:=15) rfl;have c16:=G0.out.cell (j:=16) rfl;have d16:=G1.out.cell (j:=16) rfl;have c17:=G0.out.cell (j:=17) rfl;have d17:=G1.out.cell (j:=17) rfl;have c18:=G0.out.cell (j:=18) rfl;have d18:=G1.out.cell (j:=18) rfl;have c19:=G0.out.cell (j:=19) rfl;have d19:=G1.out.cell (j:=19) rfl;have c20:=G0.out.cell (j:=20) rfl;have d20:=G1.out.cell (j:=20) rfl;have c21:=G0.out.cell (j:=21) rfl;have d21:=G1.out.cell (j:=21) rfl;have c22:=G0.out.cell (j:=22) rfl;have d22:=G1.out.cell (j:=22) rfl;have c23:=G0.out.cell (j:=23) rfl;have d23:=G1.out.cell (j:=23) rfl;go_wp2_with fail
 refine (HU.out _).mono ?_;rintro e w3 ⟨rfl,q⟩;have B3:Hid _:=B2.out.trans (q.mono B2.out.size);replace G0:Hid _:=G0.out.kept (by simp) q;replace G1:Hid _:=G1.out.kept (by simp) q;clear q;clear c13 d13 c14 d14 c15 d15 c16 d16 c17 d17 c18 d18 c19 d19 c20 d20 c21 d21 c22 d22 c23 d23;have c24:=G0.out.cell (j:=24) rfl;have d24:=G1.out.cell (j:=24) rfl;go_wp2_with fail
 go_ret;exact ⟨rfl,B3.out⟩
theorem markNatOut_but (lo hi:Nat) (o:No) (a b:Option Addr) (ca cb k:Nat) (w:World) (hh:hi≤w.heap.size) (hk:0 < k) (hL:k+5*o.bib.binds.length+7*o.bib.sess.length≤1073741824) (hs:BbIn lo hi w a b o.bib) (X:Nat) (hX:X < w.heap.size) (hn:∀ g o',(o.bib.binds≠[]∧a=some ⟨g,o',none⟩)∨(o.bib.sess≠[]∧b=some ⟨g,o',none⟩)→g≠X) :
  Calls Tryz.prog 19 #[noC a b ca cb o,iV k] w fun e w'=>e=.returned (iV ((k+5*o.bib.binds.length+7*o.bib.sess.length:Nat):Int))∧BbMk lo w' a b k o.bib.binds.length o.bib.sess.length∧OutOf lo hi w w'∧w'.heap[X]?=w.heap[X]?:=by
 have GA:Hid (Below w.heap.size w (w.alloc (.cells (noL a b ca cb o).toArray 44))):=(Below.refl _ _).alloc (Nat.le_refl _) _;have HM:Hid _:=markBib_but lo hi o.bib a b ca cb k (w.alloc (.cells (noL a b ca cb o).toArray 44)) (by simp; omega) hk hL (hs.kept GA.out) X (by simp; omega) hn;have HA0:Hid ((w.alloc (.cells (noL a b ca cb o).toArray 44)).heap[X]?=w.heap[X]?):=GA.out.block X hX;obtain ⟨k2,hk2⟩ : ∃ k2,k2=k+5*o.bib.binds.length+7*o.bib.sess.length:=⟨_,rfl⟩;rw [← hk2] at HM hL ⊢;unfold noC;unfold bbC at HM;unfold noL at HM GA HA0 ⊢;clear hk2 hs hn hX;go_enter Tryz.func19,Tryz.ntmps19
 go_wp2_with fail
 refine Calls.mono HM.out ?_;rintro e w1 ⟨rfl,m1,q1,x1⟩;have G1:Hid (OutOf lo hi w w1):=(OutOf.of_below GA.out).trans q1;have X1:Hid (w1.heap[X]?=w.heap[X]?):=x1.trans HA0.out;have M1:Hid _:=m1;clear m1 q1 x1;go_wp2_with fail
 go_ret;exact ⟨rfl,M1.out,G1.out,X1.out⟩
theorem heldNatOut_own (base:Nat) (o:No) (a b:Option Addr) (ca cb k:Nat) (w:World) (hk:0 < k) (hL:k+5*o.bib.binds.length+7*o.bib.sess.length≤1073741824) (hs:BbMk base w a b k o.bib.binds.length o.bib.sess.length) :
  Cb 20 #[noC a b ca cb o,iV k] w (iV ((k+5*o.bib.binds.length+7*o.bib.sess.length:Nat):Int)):=by
 have GA:Hid (Below w.heap.size w (w.alloc (.cells (noL a b ca cb o).toArray 44))):=(Below.refl _ _).alloc (Nat.le_refl _) _;have HM:Hid _:=heldBib_own base o.bib.binds.length o.bib.sess.length a b ca cb k (w.alloc (.cells (noL a b ca cb o).toArray 44)) hk hL (hs.kept GA.out);obtain ⟨k2,hk2⟩ : ∃ k2,k2=k+5*o.bib.binds.length+7*o.bib.sess.length:=⟨_,rfl⟩;have hk3:0 < k2:=by omega
 rw [← hk2] at HM hL ⊢;unfold noC;unfold noL at HM GA ⊢;clear hk2 hs;go_enter Tryz.func20,Tryz.ntmps20
 go_wp2_with fail
 refine Calls.mono HM.out ?_;rintro e w1 ⟨rfl,q1⟩;have G1:Hid _:=GA.out.trans (q1.mono GA.out.size);clear q1;go_wp2_with fail
 go_ret;exact ⟨rfl,G1.out⟩
def IsNoL (base:Nat) (o:No):Value→World→Prop:=fun v w=>∃ a b ca cb,v=noC a b ca cb o∧BbOwn base w a b o.bib
theorem stable_isNoL (base:Nat) (o:No):Stable (IsNoL base o):=fun v w w' ⟨a,b,ca,cb,h1,h2⟩ hb=>⟨a,b,ca,cb,h1,h2.kept hb⟩
theorem implByte_any (n:Int) (w:World) :
  Cw 116 #[iV n] w (.bool (isIn n 0 255)):=by
 by_cases h1:0≤n
 ·by_cases h2:n≤255
  ·have HV:Hid (isIn n 0 255=true):=by unfold Hid isIn; simp [h1,h2]
   go_enter Tryz.func116,Tryz.ntmps116
   go_wp2_with fail
   go_ret;exact ⟨ret_bool (by rw [HV.out]),rfl⟩
  ·have HV:Hid (isIn n 0 255=false):=by unfold Hid isIn; simp [h2]
   go_enter Tryz.func116,Tryz.ntmps116
   go_wp2_with fail
   go_ret;exact ⟨ret_bool (by rw [HV.out]),rfl⟩
 ·have HV:Hid (isIn n 0 255=false):=by unfold Hid isIn; simp [h1]
  have h1':n < 0:=by omega
  go_enter Tryz.func116,Tryz.ntmps116
  go_wp2_with fail
  go_ret;exact ⟨ret_bool (by rw [HV.out]),rfl⟩
def pcV (off:Int) (more:Bool) (data:ByteArray) (top:Int):Bool:=isIn off 0 8191&&decide (data.size≤1400)&&(!more||decide (data.size % 8=0))&&decide (8*off+data.size≤top)
theorem v4Ok_prog (p:P4):v4Ok p=(isIn p.tos 0 255&&(isIn p.ttl 0 255&&(isIn p.proto 0 255&&(isIn p.id 0 65535&&(decide (p.src.size=4)&&(decide (p.dst.size=4)&&(decide (p.opts.size≤40)&&(decide (p.opts.size % 4=0)&&(pcV p.off p.more p.data 65515&&!(p.whole&&(p.more||!decide (p.off=0))))))))))) ):=by
 unfold v4Ok v4A v4B v4C pcV;simp only [Bool.not_and,Bool.not_not,Bool.not_or];ac_rfl
theorem implPiece_any (off:Int) (more:Bool) (data:ByteArray) (top:Int) (w:World) (h4:data.size≤1048576) :
  Cw 118 #[iV off,.bool more,.string data,iV top] w (.bool (pcV off more data top)):=by
 have HV:Hid (pcV off more data top=(decide (0≤off)&&decide (off≤8191)&&decide (data.size≤1400)&&(!more||decide (data.size % 8=0))&&decide (8*off+data.size≤top))):=by unfold Hid pcV isIn; rfl
 generalize pcV off more data top=ok at *;by_cases e0:0≤off
 ·by_cases e1:off≤8191
  ·by_cases e2:data.size≤1400
   ·have d2:decide ((data.size:Int)≤1400)=true:=by simp; omega
    have em:(!more||decide (data.size % 8=0))=true∨(more=true∧¬ data.size % 8=0):=by cases more<;>simp<;>omega
    rcases em with em | ⟨rfl,em⟩
    ·by_cases e9:8*off+data.size≤top
     ·replace HV:Hid (ok=true):=by unfold Hid; rw [HV.out,em]; simp [e0,e1,e2,e9]
      cases more with
      | false =>
       clear em;go_enter Tryz.func118,Tryz.ntmps118
       go_wp2_with fail
       go_ret;exact ⟨ret_bool HV.out.symm,rfl⟩
      | true =>
       have dm:(((data.size:Int) % 8)==0)=true:=by simp at em; simp; omega
       clear em;go_enter Tryz.func118,Tryz.ntmps118
       go_wp2_with fail
       go_ret;exact ⟨ret_bool HV.out.symm,rfl⟩
     ·replace HV:Hid (ok=false):=by unfold Hid; rw [HV.out]; simp [e9]
      cases more with
      | false =>
       clear em;go_enter Tryz.func118,Tryz.ntmps118
       go_wp2_with fail
       go_ret;exact ⟨ret_bool HV.out.symm,rfl⟩
      | true =>
       have dm:(((data.size:Int) % 8)==0)=true:=by simp at em; simp; omega
       clear em;go_enter Tryz.func118,Tryz.ntmps118
       go_wp2_with fail
       go_ret;exact ⟨ret_bool HV.out.symm,rfl⟩
    ·replace HV:Hid (ok=false):=by unfold Hid; rw [HV.out]; simp [em]
     have dm:(((data.size:Int) % 8)==0)=false:=by simp; omega
     go_enter Tryz.func118,Tryz.ntmps118
     go_wp2_with fail
     go_ret;exact ⟨ret_bool HV.out.symm,rfl⟩
   ·replace HV:Hid (ok=false):=by unfold Hid; rw [HV.out]; simp [e2]
    have d2:decide ((data.size:Int)≤1400)=false:=by simp; omega
    go_enter Tryz.func118,Tryz.ntmps118
    go_wp2_with fail
    go_ret;exact ⟨ret_bool HV.out.symm,rfl⟩
  ·replace HV:Hid (ok=false):=by unfold Hid; rw [HV.out]; simp [e1]
   go_enter Tryz.func118,Tryz.ntmps118
   go_wp2_with fail
   go_ret;exact ⟨ret_bool HV.out.symm,rfl⟩
 ·replace HV:Hid (ok=false):=by unfold Hid; rw [HV.out]; simp [e0]
  go_enter Tryz.func118,Tryz.ntmps118
  go_wp2_with fail
  go_ret;exact ⟨ret_bool HV.out.symm,rfl⟩
end Go.Proofs.YtcckaeppiamebaaGreatDoor
