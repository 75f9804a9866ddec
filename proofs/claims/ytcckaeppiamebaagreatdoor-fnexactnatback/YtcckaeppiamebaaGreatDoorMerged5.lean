import Derived.Test.YtcckaeppiamebaaGreatDoorAb
import Derived.Test.YtcckaeppiamebaaGreatDoorMerged4
import Derived.Test.YtcckaeppiamebaaGreatDoorMerged3
import Derived.Test.YtcckaeppiamebaaGreatDoorMerged1
import Derived.Deep.DeepCutAuto
import Derived.Test.YtcckaeppiamebaaGreatDoorMerged2
import Derived.Test.YtcckaeppiamebaaGreatDoorProg
import Derived.Laws.StructEq
import Derived.Shelf.LaysM
import Derived.Shelf.Strconv.Clone
import Derived.BigQuiet
set_option linter.unusedVariables false
set_option linter.unusedSimpArgs false
set_option maxRecDepth 100000
set_option maxHeartbeats 8000000
namespace Go.Proofs.YtcckaeppiamebaaGreatDoor
open Go.RowKit Go.PlainAid
def bbZ:Bb:=⟨[],[]⟩
structure Fl where
 proto:Int
 src:ByteArray
 dst:ByteArray
 sp:Int
 dp:Int
def fwC (f:Fl):Value:=.agg (FlR f.proto f.src f.dst f.sp f.dp).toArray
def fwCO (f:Fl) (code:Int):Value:=.agg #[iV f.proto,.string f.src,.string f.dst,iV f.sp,iV f.dp,iV code]
def flZero:Fl:=⟨0,⟨#[]⟩,⟨#[]⟩,0,0⟩
def pairOk (s d:ByteArray):Bool:=addrOk s&&decide (s.size=d.size)
def echoP (p:Int):Bool:=decide (p=1)||decide (p=58)
def protoOk (p:Int) (n:Nat):Bool:=decide (p=6)||decide (p=17)||(decide (p=1)&&decide (n=4))||(decide (p=58)&&decide (n=16))
def flowOk (f:Fl):Bool:=pairOk f.src f.dst&&protoOk f.proto f.src.size&&isW f.sp&&isW f.dp&&(!echoP f.proto||decide (f.sp=f.dp))
theorem pairOk_parts {s d:ByteArray} (h:pairOk s d=true):(s.size=4∨s.size=16)∧d.size=s.size:=by
 unfold pairOk at h;rw [Bool.and_eq_true,decide_eq_true_iff] at h;exact ⟨addrOk_size h.1,h.2.symm⟩
def shortP (p:Int) (t:ByteArray):Bool:=(decide (p=6)&&(decide (t.size < 20)||decide (bt t 12 / 16 < 5)||decide ((t.size:Int) < 4*(bt t 12 / 16))))||decide (t.size < 8)
def askP (p:Int):Int:=if p=58 then 128 else 8
def ansP (p:Int):Int:=if p=58 then 129 else 0
def ofCode (n:Nat) (p:Int) (t:ByteArray):Int :=
 if protoOk p n=false then 11
 else if shortP p t=true then 4
 else if echoP p=true then (if (bt t 0≠askP p∧bt t 0≠ansP p)∨bt t 1≠0 then 11 else 0)
 else 0
def ofFl (s d:ByteArray) (p:Int) (t:ByteArray):Fl :=
 if ofCode s.size p t=0 then (if echoP p=true then ⟨p,s,d,wordN (bt t) 4,wordN (bt t) 4⟩ else ⟨p,s,d,wordN (bt t) 0,wordN (bt t) 2⟩)
 else ⟨p,s,d,0,0⟩
def flowCode (s d:ByteArray) (p:Int) (t:ByteArray):Int :=
 if 20000 < t.size∨20000 < s.size∨20000 < d.size then 2 else if pairOk s d=false then 1 else ofCode s.size p t
def flowOfV (s d:ByteArray) (p:Int) (t:ByteArray):Fl:=if flowCode s d p t=0 then ofFl s d p t else flZero
def quadW (x y:Int):ByteArray:=⟨#[UInt8.ofNat x.toNat,0,0,UInt8.ofNat y.toNat]⟩
theorem quadW_size (x y:Int):(quadW x y).size=4:=rfl
def pseudoV (s d:ByteArray) (p:Int) (n:Nat):ByteArray :=
 if p=1∧s.size=4 then ⟨#[]⟩
 else if s.size=4 then s++d++pairV 0 p++twoV (n:Int)
 else s++d++twoV ((n:Int) / 65536)++twoV ((n:Int) % 65536)++quadW 0 p
theorem pseudoV_size (s d:ByteArray) (p:Int) (n:Nat) (hs:s.size≤16) (hd:d.size≤16):(pseudoV s d p n).size≤40:=by
 unfold pseudoV;split
 ·exact Nat.zero_le _
 ·split
  ·simp only [ByteArray.size_append,pairV_size,twoV_size]; omega
  ·simp only [ByteArray.size_append,twoV_size,quadW_size]; omega
def putV (t:ByteArray) (k:Nat) (u:ByteArray):ByteArray:=t.extract 0 k++u++t.extract (k+u.size) t.size
theorem putV_size {t u:ByteArray} {k:Nat} (h:k+u.size≤t.size):(putV t k u).size=t.size:=by
 unfold putV; simp only [ByteArray.size_append,ByteArray.size_extract]; omega
def checkP (p:Int):Nat:=if p=6 then 16 else if p=17 then 6 else 2
def partV (f:Fl) (t:ByteArray):ByteArray:=(if echoP f.proto=true then t.extract 0 2++t.extract 4 6 else t.extract 0 4)++pseudoV f.src f.dst f.proto t.size
def swapV (b:Int):Int:=if b=8 then 128 else if b=0 then 129 else if b=128 then 8 else 0
def firstV8 (f g:Fl) (t:ByteArray):Int:=if f.proto≠g.proto then swapV (bt t 0) else bt t 0
def oneV (x:Int):ByteArray:=⟨#[UInt8.ofNat x.toNat]⟩
def setOut (f g:Fl) (t:ByteArray):ByteArray :=
 if echoP f.proto=true then putV (putV t 0 (oneV (firstV8 f g t))) 4 (twoV g.sp) else putV t 0 (twoV g.sp++twoV g.dp)
def newCheck (f g:Fl) (t:ByteArray):Int :=
 let n:=65535-add1 (add1 (65535-wordN (bt t) (checkP f.proto)) (65535-sumV (partV f t))) (sumV (partV g (setOut f g t)))
 if n=0 then 65535 else n
def bareUdp (f:Fl) (t:ByteArray):Bool:=decide (f.proto=17)&&decide (wordN (bt t) (checkP f.proto)=0)&&decide (f.src.size=4)
def setIn (f g:Fl) (t:ByteArray):Bool:=flowOk f&&flowOk g&&(decide (f.proto=g.proto)||(echoP f.proto&&echoP g.proto))&&decide (ofCode f.src.size f.proto t=0)&&decide ((ofFl f.src f.dst f.proto t).sp=f.sp)&&decide ((ofFl f.src f.dst f.proto t).dp=f.dp)
def setCode (f g:Fl) (t:ByteArray):Int :=
 if 20000 < t.size then 2 else if setIn f g t=false then 1 else if bareUdp f t=true∧g.src.size=16 then 5 else 0
def setData (f g:Fl) (t:ByteArray):ByteArray :=
 if setCode f g t=0 then (if bareUdp f t=true then setOut f g t else putV (setOut f g t) (checkP f.proto) (twoV (newCheck f g t))) else ⟨#[]⟩
def dtCO (t:ByteArray) (code:Int):Value:=.agg #[.string t,iV code]
def tcpFlagsV (t:ByteArray):Int:=if 20000 < t.size∨t.size < 20 then 0 else bt t 13
abbrev FlV (p : Fl) : List Value := [iV p.proto,.string p.src,.string p.dst,iV p.sp,iV p.dp]
structure Pc where
 src:ByteArray
 dst:ByteArray
 proto:Int
 id:Int
 off:Int
 more:Bool
 data:ByteArray
 since:Int
instance:Inhabited Pc:=⟨⟨⟨#[]⟩,⟨#[]⟩,0,0,0,false,⟨#[]⟩,0⟩⟩
def isTime (n:Int):Bool:=isIn n 0 1000000000
theorem find_at {α:Type} {p:α→Bool} {xs:List α} {i:Nat} (h:i < xs.length) (hn:(xs.take i).find? p=none) (hp:p xs[i]=true):xs.find? p=some xs[i]:=by
 conv=>lhs; rw [← List.take_append_drop i xs]
 rw [List.find?_append,hn,List.drop_eq_getElem_cons h,List.find?_cons_of_pos hp];rfl
structure PcOut where
 pieces:List Pc
 data:ByteArray
 done:Bool
 code:Int
end Go.Proofs.YtcckaeppiamebaaGreatDoor
namespace Go.Proofs.YtcckaeppiamebaaGreatDoor
open Go.RowKit
def touchOk (t:Tc):Bool:=protoB t.proto&&addrOk t.addr&&(t.inside||decide (t.addr.size=4))&&isW t.port&&decide (t.peer.size=4)&&isW t.peerPort&&isIn t.flags 0 255
def withP (c:Bd) (peer:ByteArray) (port:Int) (s:Ss):Bool:=hasS c s&&decide (s.peer.toList=peer.toList)&&decide (s.peerPort=port)
def withA (c:Bd) (peer:ByteArray) (s:Ss):Bool:=hasS c s&&decide (s.peer.toList=peer.toList)
def sessN (p:Pl) (t:Tc) (c:Bd) (st now:Int):Ss:=⟨t.proto,c.inn,c.inPort,t.peer,t.peerPort,st,now+trackLifeV p.lv t.proto st⟩
def newB (xs:List Bd) (c:Bd):List Bd:=if findI (ofIn c.proto c.inn c.inPort) xs < 0 then xs++[c] else xs
def boE (n:Int):Bo:=⟨bbZ,bdZ,n⟩
def newV (p:Pl) (x:Bb) (t:Tc) (c:Bd) (now:Int):Bo :=
 if trackNewV t.proto t.inside t.flags=0 then boE 6
 else if p.most≤(x.sess.length:Int) then boE 9
 else if (if t.inside=true then (lendV p x.binds t.proto t.addr t.port).2 else 0)≠0 then boE (if t.inside=true then (lendV p x.binds t.proto t.addr t.port).2 else 0)
 else ⟨⟨newB x.binds (if t.inside=true then (lendV p x.binds t.proto t.addr t.port).1 else c),x.sess++[sessN p t (if t.inside=true then (lendV p x.binds t.proto t.addr t.port).1 else c) (trackNewV t.proto t.inside t.flags) now]⟩,(if t.inside=true then (lendV p x.binds t.proto t.addr t.port).1 else c),0⟩
def nextS (p:Pl) (t:Tc) (now:Int) (s:Ss):Ss:={ s with state:=trackNextV t.proto s.state t.inside t.flags,untl:=now+trackLifeV p.lv t.proto (trackNextV t.proto s.state t.inside t.flags) }
def setN (xs:List Ss) (i:Nat) (f:Ss→Ss):List Ss:=match xs[i]? with | some s=>xs.set i (f s) | none=>xs
def goneB (p:Pl) (x:Bb) (t:Tc) (c:Bd):Bool:=!t.inside&&(decide (p.filter=2)||(decide (p.filter=1)&&!x.sess.any (withA c t.peer)))
def goV (p:Pl) (x:Bb) (t:Tc) (now:Int):Bo :=
 match x.binds.find? (if t.inside=true then ofIn t.proto t.addr t.port else ofOut t.proto t.addr t.port) with
 | none=>if t.inside=true then newV p x t bdZ now else boE 6
 | some c=>match x.sess.findIdx? (withP c t.peer t.peerPort) with
  | none=>if goneB p x t c=true then boE 6 else newV p x t c now
  | some i=>⟨⟨x.binds,setN x.sess i (nextS p t now)⟩,c,0⟩
def bibTouchV (p:Pl) (x:Bb) (t:Tc) (now:Int):Bo:=if (bibOk p x&&isTime now&&touchOk t)=true then goV p x t now else boE 1
open Go.PlainAid
structure No where
 bib:Bb
 four:P4
 six:P6
 code:Int
def noL (a b:Option Addr) (ca cb:Nat) (o:No):List Value:=[.slice a o.bib.binds.length ca,.slice b o.bib.sess.length cb,iV o.four.tos,iV o.four.id,.bool o.four.whole,.bool o.four.more,iV o.four.off,iV o.four.ttl,iV o.four.proto,.string o.four.src,.string o.four.dst,.string o.four.opts,.string o.four.data,iV o.six.cls,iV o.six.flow,iV o.six.next,iV o.six.hops,.string o.six.src,.string o.six.dst,.bool o.six.piece,.bool o.six.more,iV o.six.off,iV o.six.id,.string o.six.data,iV o.code]
def noC (a b:Option Addr) (ca cb:Nat) (o:No):Value:=.agg (noL a b ca cb o).toArray
def noE (c:Int):No:=⟨bbZ,p4Zero,p6Zero,c⟩
def natFt (p:Pl) (x:Bb) (q:P4) (now:Int):Int:=if (bibOk p x&&v4Ok q&&isTime now)=false then 1 else if (q.more||decide (q.off≠0))=true then 10 else 0
def flagV (proto:Int) (t:ByteArray):Int:=if proto=6 then bt t 13 else 0
def peerV (proto n:Int):Int:=if echoP proto=true then 0 else n
def protoN (p:Int):Int:=if p=58 then 1 else p
def goT (f:Fl) (peer t:ByteArray):Tc:=⟨protoN f.proto,true,f.src,f.sp,peer,peerV f.proto f.dp,flagV f.proto t⟩
def comeT (f:Fl) (t:ByteArray):Tc:=⟨f.proto,false,f.dst,f.dp,f.src,peerV f.proto f.sp,flagV f.proto t⟩
def kindF (f g:Fl):Fl:=if echoP f.proto=true then ⟨if g.src.size=16 then 58 else 1,g.src,g.dst,g.sp,g.sp⟩ else g
def fromF (f:Fl) (src:ByteArray) (port:Int) (dst:ByteArray):Fl:=kindF f ⟨f.proto,src,dst,port,f.dp⟩
def toF (f:Fl) (src dst:ByteArray) (port:Int):Fl:=kindF f ⟨f.proto,src,dst,if echoP f.proto=true then port else f.sp,port⟩
def setD (f g:Fl) (t:ByteArray):ByteArray:=if bareUdp f t=true then (if g.src.size=16 then ⟨#[]⟩ else setOut f g t) else putV (setOut f g t) (checkP f.proto) (twoV (newCheck f g t))
def natGoIn (p:Pl) (x:Bb) (q:P4) (now:Int):No :=
 if ofCode q.src.size q.proto q.data≠0 then noE (ofCode q.src.size q.proto q.data)
 else if (goV p x (goT (ofFl q.src q.dst q.proto q.data) q.dst q.data) now).code≠0 then noE (goV p x (goT (ofFl q.src q.dst q.proto q.data) q.dst q.data) now).code
 else ⟨(goV p x (goT (ofFl q.src q.dst q.proto q.data) q.dst q.data) now).bib,{ q with src:=(goV p x (goT (ofFl q.src q.dst q.proto q.data) q.dst q.data) now).bind.out,data:=setD (ofFl q.src q.dst q.proto q.data) (fromF (ofFl q.src q.dst q.proto q.data) (goV p x (goT (ofFl q.src q.dst q.proto q.data) q.dst q.data) now).bind.out (goV p x (goT (ofFl q.src q.dst q.proto q.data) q.dst q.data) now).bind.outPort q.dst) q.data },p6Zero,0⟩
def natGoV (p:Pl) (x:Bb) (q:P4) (now:Int):No:=if natFt p x q now≠0 then noE (natFt p x q now) else natGoIn p x q now
def natComeIn (p:Pl) (x:Bb) (q:P4) (now:Int):No :=
 if inL p.addrs q.dst=false then noE 6
 else if ofCode q.src.size q.proto q.data≠0 then noE (ofCode q.src.size q.proto q.data)
 else if (goV p x (comeT (ofFl q.src q.dst q.proto q.data) q.data) now).code≠0 then noE (goV p x (comeT (ofFl q.src q.dst q.proto q.data) q.data) now).code
 else if (goV p x (comeT (ofFl q.src q.dst q.proto q.data) q.data) now).bind.inn.size≠4 then noE 11
 else ⟨(goV p x (comeT (ofFl q.src q.dst q.proto q.data) q.data) now).bib,{ q with dst:=(goV p x (comeT (ofFl q.src q.dst q.proto q.data) q.data) now).bind.inn,data:=setD (ofFl q.src q.dst q.proto q.data) (toF (ofFl q.src q.dst q.proto q.data) q.src (goV p x (comeT (ofFl q.src q.dst q.proto q.data) q.data) now).bind.inn (goV p x (comeT (ofFl q.src q.dst q.proto q.data) q.data) now).bind.inPort) q.data },p6Zero,0⟩
def natComeV (p:Pl) (x:Bb) (q:P4) (now:Int):No:=if natFt p x q now≠0 then noE (natFt p x q now) else natComeIn p x q now
def natBackV (p:Pl) (x:Bb) (q:P4) (now:Int):No :=
 if natFt p x q now≠0 then noE (natFt p x q now)
 else if q.proto=1 then noE 11
 else if (natGoIn p x q now).code≠0 then natGoIn p x q now
 else natComeV p (natGoIn p x q now).bib (natGoIn p x q now).four now
open Go.ChangeShapes Go.WideShapes
structure BoxV6 (w:World) (B:Nat) (p:P6):Prop where
 c0:w.cell? ⟨B,0,none⟩=some (iV p.cls)
 c1:w.cell? ⟨B,1,none⟩=some (iV p.flow)
 c2:w.cell? ⟨B,2,none⟩=some (iV p.next)
 c3:w.cell? ⟨B,3,none⟩=some (iV p.hops)
 c4:w.cell? ⟨B,4,none⟩=some (.string p.src)
 c5:w.cell? ⟨B,5,none⟩=some (.string p.dst)
 c6:w.cell? ⟨B,6,none⟩=some (.bool p.piece)
 c7:w.cell? ⟨B,7,none⟩=some (.bool p.more)
 c8:w.cell? ⟨B,8,none⟩=some (iV p.off)
 c9:w.cell? ⟨B,9,none⟩=some (iV p.id)
 c10:w.cell? ⟨B,10,none⟩=some (.string p.data)
theorem BoxV6.kept {w W:World} {B:Nat} {p:P6} (h:BoxV6 w B p) (hB:Below w.heap.size w W):BoxV6 W B p:=by
 have hb:=World.block_lt_of_cell? w _ h.c0;exact ⟨((bcell hB).1 B 0 hb).trans h.c0,((bcell hB).1 B 1 hb).trans h.c1,((bcell hB).1 B 2 hb).trans h.c2,((bcell hB).1 B 3 hb).trans h.c3,((bcell hB).1 B 4 hb).trans h.c4,((bcell hB).1 B 5 hb).trans h.c5,((bcell hB).1 B 6 hb).trans h.c6,((bcell hB).1 B 7 hb).trans h.c7,((bcell hB).1 B 8 hb).trans h.c8,((bcell hB).1 B 9 hb).trans h.c9,((bcell hB).1 B 10 hb).trans h.c10⟩
theorem BoxV6.new (w:World) (p:P6) {t:TypeId}:BoxV6 (w.alloc (.cells #[iV p.cls,iV p.flow,iV p.next,iV p.hops,.string p.src,.string p.dst,.bool p.piece,.bool p.more,iV p.off,iV p.id,.string p.data] t)) w.heap.size p:=⟨cell_new rfl,cell_new rfl,cell_new rfl,cell_new rfl,cell_new rfl,cell_new rfl,cell_new rfl,cell_new rfl,cell_new rfl,cell_new rfl,cell_new rfl⟩
theorem eqV6_same (p:P6) (w:World) :
  Cb 37 #[p6C p,p6C p] w (.bool true):=by
 obtain ⟨cls,flow,next,hops,src,dst,piece,more,off,id,data⟩:=p;unfold p6C;dsimp only;have HZ:Hid (Below w.heap.size w ((aW w [iV cls,iV flow,iV next,iV hops,.string src,.string dst,.bool piece,.bool more,iV off,iV id,.string data] 42).alloc (.cells #[iV cls,iV flow,iV next,iV hops,.string src,.string dst,.bool piece,.bool more,iV off,iV id,.string data] 42))):=(bR.alloc (Nat.le_refl _) _).alloc (by simp) _;go_enter Tryz.func37,Tryz.ntmps37
 go_wp2_with fail
 go_ret;exact ⟨rfl,HZ.out⟩
end Go.Proofs.YtcckaeppiamebaaGreatDoor
namespace Go.Proofs.YtcckaeppiamebaaGreatDoor
open Go.RowKit Go.PlainAid
theorem eqNatOut_same (o:No) (a1 b1 a2 b2:Option Addr) (ca1 cb1 ca2 cb2:Nat) (w:World) (hl1:o.bib.binds.length≤1048576) (hl2:o.bib.sess.length≤1048576) (h1:BbIs w a1 b1 o.bib) (h2:BbIs w a2 b2 o.bib) :
  Cb 14 #[noC a1 b1 ca1 cb1 o,noC a2 b2 ca2 cb2 o] w (.bool true):=by
 have HB:Hid (Below w.heap.size w ((aW w (noL a1 b1 ca1 cb1 o) 44).alloc (.cells (noL a2 b2 ca2 cb2 o).toArray 44))):=(bR.alloc (Nat.le_refl _) _).alloc (by simp) _;have H0:=(HoldsL.new w (noL a1 b1 ca1 cb1 o) 44).alloc (.cells (noL a2 b2 ca2 cb2 o).toArray 44);have H1:=HoldsL.new (w.alloc (.cells (noL a1 b1 ca1 cb1 o).toArray 44)) (noL a2 b2 ca2 cb2 o) 44;rw [World.size_alloc] at H1;have HS:Hid (∀ W,Below w.heap.size w W→Cb 16 #[bbC a1 b1 ca1 cb1 o.bib,bbC a2 b2 ca2 cb2 o.bib] W (.bool true)):=fun W hW=>eqBib_same o.bib a1 b1 a2 b2 ca1 cb1 ca2 cb2 W hl1 hl2 (h1.below hW) (h2.below hW)
 have HT:Hid (∀ W,Cb 36 #[p4C o.four,p4C o.four] W (.bool true)):=fun W=>eqV4_same o.four W
 have HU:Hid (∀ W,Cb 37 #[p6C o.six,p6C o.six] W (.bool true)):=fun W=>eqV6_same o.six W
 have G0:Hid (HoldsL _ w.heap.size [.slice a1 o.bib.binds.length ca1,.slice b1 o.bib.sess.length cb1,iV o.four.tos,iV o.four.id,.bool o.four.whole,.bool o.four.more,iV o.four.off,iV o.four.ttl,iV o.four.proto,.string o.four.src,.string o.four.dst,.string o.four.opts,.string o.four.data,iV o.six.cls,iV o.six.flow,iV o.six.next,iV o.six.hops,.string o.six.src,.string o.six.dst,.bool o.six.piece,.bool o.six.more,iV o.six.off,iV o.six.id,.string o.six.data,iV o.code]):=H0;have G1:Hid (HoldsL _ (w.heap.size+1) [.slice a2 o.bib.binds.length ca2,.slice b2 o.bib.sess.length cb2,iV o.four.tos,iV o.four.id,.bool o.four.whole,.bool o.four.more,iV o.four.off,iV o.four.ttl,iV o.four.proto,.string o.four.src,.string o.four.dst,.string o.four.opts,.string o.four.data,iV o.six.cls,iV o.six.flow,iV o.six.next,iV o.six.hops,.string o.six.src,.string o.six.dst,.bool o.six.piece,.bool o.six.more,iV o.six.off,iV o.six.id,.string o.six.data,iV o.code]):=H1;unfold noC;unfold bbC at HS;unfold p4C at HT;unfold p6C at HU;unfold noL at HB G0 G1 ⊢;clear h1 h2 H0 H1;go_enter Tryz.func14,Tryz.ntmps14
 go_upto_region 1 with fail
 generalize ((aW w [.slice a1 o.bib.binds.length ca1,.slice b1 o.bib.sess.length cb1,iV o.four.tos,iV o.four.id,.bool o.four.whole,.bool o.four.more,iV o.four.off,iV o.four.ttl,iV o.four.proto,.string o.four.src,.string o.four.dst,.string o.four.opts,.string o.four.data,iV o.six.cls,iV o.six.flow,iV o.six.next,iV o.six.hops,.string o.six.src,.string o.six.dst,.bool o.six.piece,.bool o.six.more,iV o.six.off,iV o.six.id,.string o.six.data,iV o.code] 44).alloc (.cells #[.slice a2 o.bib.binds.length ca2,.slice b2 o.bib.sess.length cb2,iV o.four.tos,iV o.four.id,.bool o.four.whole,.bool o.four.more,iV o.four.off,iV o.four.ttl,iV o.four.proto,.string o.four.src,.string o.four.dst,.string o.four.opts,.string o.four.data,iV o.six.cls,iV o.six.flow,iV o.six.next,iV o.six.hops,.string o.six.src,.string o.six.dst,.bool o.six.piece,.bool o.six.more,iV o.six.off,iV o.six.id,.string o.six.data,iV o.code] 44))=W0 at *;have c0:=G0.out.cell (j:=0) rfl;have d0:=G1.out.cell (j:=0) rfl;have c1:=G0.out.cell (j:=1) rfl;have d1:=G1.out.cell (j:=1) rfl;go_wp2_with fail
 refine (HS.out _ HB.out).mono ?_;rintro e w1 ⟨rfl,q⟩;have B1:Hid _:=HB.out.trans (q.mono HB.out.size);replace G0:Hid _:=G0.out.kept (by simp) q;replace G1:Hid _:=G1.out.kept (by simp) q;clear q;clear c0 d0 c1 d1;have c2:=G0.out.cell (j:=2) rfl;have d2:=G1.out.cell (j:=2) rfl;have c3:=G0.out.cell (j:=3) rfl;have d3:=G1.out.cell (j:=3) rfl;have c4:=G0.out.cell (j:=4) rfl;have d4:=G1.out.cell (j:=4) rfl;have c5:=G0.out.cell (j:=5) rfl;have d5:=G1.out.cell (j:=5) rfl;have c6:=G0.out.cell (j:=6) rfl;have d6:=G1.out.cell (j:=6) rfl;have c7:=G0.out.cell (j:=7) rfl;have d7:=G1.out.cell (j:=7) rfl;have c8:=G0.out.cell (j:=8) rfl;have d8:=G1.out.cell (j:=8) rfl;have c9:=G0.out.cell (j:=9) rfl;have d9:=G1.out.cell (j:=9) rfl;have c10:=G0.out.cell (j:=10) rfl;have d10:=G1.out.cell (j:=10) rfl;have c11:=G0.out.cell (j:=11) rfl;have d11:=G1.out.cell (j:=11) rfl;have c12:=G0.out.cell (j:=12) rfl;have d12:=G1.out.cell (j:=12) rfl;go_wp2_with fail
 refine (HT.out _).mono ?_;rintro e w2 ⟨rfl,q⟩;have B2:Hid _:=B1.out.trans (q.mono B1.out.size);replace G0:Hid _:=G0.out.kept (by simp) q;replace G1:Hid _:=G1.out.kept (by simp) q;clear q;clear c2 d2 c3 d3 c4 d4 c5 d5 c6 d6 c7 d7 c8 d8 c9 d9 c10 d10 c11 d11 c12 d12;have c13:=G0.out.cell (j:=13) rfl;have d13:=G1.out.cell (j:=13) rfl;have c14:=G0.out.cell (j:=14) rfl;have d14:=G1.out.cell (j:=14) rfl;have c15:=G0.out.cell (j:=15) rfl;have d15:=G1.out.cell (j:=15) rfl;have c16:=G0.out.cell (j:=16) rfl;have d16:=G1.out.cell (j:=16) rfl;have c17:=G0.out.cell (j:=17) rfl;have d17:=G1.out.cell (j:=17) rfl;have c18:=G0.out.cell (j:=18) rfl;have d18:=G1.out.cell (j:=18) rfl;have c19:=G0.out.cell (j:=19) rfl;have d19:=G1.out.cell (j:=19) rfl;have c20:=G0.out.cell (j:=20) rfl;have d20:=G1.out.cell (j:=20) rfl;have c21:=G0.out.cell (j:=21) rfl;have d21:=G1.out.cell (j:=21) rfl;have c22:=G0.out.cell (j:=22) rfl;have d22:=G1.out.cell (j:=22) rfl;have c23:=G0.out.cell (j:=23) rfl;have d23:=G1.out.cell (j:=23) rfl;go_wp2_with fail
 refine (HU.out _).mono ?_;rintro e w3 ⟨rfl,q⟩;have B3:Hid _:=B2.out.trans (q.mono B2.out.size);replace G0:Hid _:=G0.out.kept (by simp) q;replace G1:Hid _:=G1.out.kept (by simp) q;clear q;clear c13 d13 c14 d14 c15 d15 c16 d16 c17 d17 c18 d18 c19 d19 c20 d20 c21 d21 c22 d22 c23 d23;have c24:=G0.out.cell (j:=24) rfl;have d24:=G1.out.cell (j:=24) rfl;go_wp2_with fail
 go_ret;exact ⟨rfl,B3.out⟩
theorem markNatOut_but (lo hi:Nat) (o:No) (a b:Option Addr) (ca cb k:Nat) (w:World) (hh:hi≤w.heap.size) (hk:0 < k) (hL:k+5*o.bib.binds.length+7*o.bib.sess.length≤1073741824) (hs:BbIn lo hi w a b o.bib) (X:Nat) (hX:X < w.heap.size) (hn:∀ g o',(o.bib.binds≠[]∧a=some ⟨g,o',none⟩)∨(o.bib.sess≠[]∧b=some ⟨g,o',none⟩)→g≠X) :
  Calls Tryz.prog 19 #[noC a b ca cb o,iV k] w fun e w'=>e=.returned (iV ((k+5*o.bib.binds.length+7*o.bib.sess.length:Nat):Int))∧BbMk lo w' a b k o.bib.binds.length o.bib.sess.length∧OutOf lo hi w w'∧w'.heap[X]?=w.heap[X]?:=by
 have GA:Hid (Below w.heap.size w (w.alloc (.cells (noL a b ca cb o).toArray 44))):=bR.alloc (Nat.le_refl _) _;have HM:Hid _:=markBib_but lo hi o.bib a b ca cb k (w.alloc (.cells (noL a b ca cb o).toArray 44)) (by simp; omega) hk hL (hs.kept GA.out) X (by simp; omega) hn;have HA0:Hid ((w.alloc (.cells (noL a b ca cb o).toArray 44)).heap[X]?=w.heap[X]?):=GA.out.block X hX;obtain ⟨k2,hk2⟩ : ∃ k2,k2=k+5*o.bib.binds.length+7*o.bib.sess.length:=⟨_,rfl⟩;rw [← hk2] at HM hL ⊢;unfold noC;unfold bbC at HM;unfold noL at HM GA HA0 ⊢;clear hk2 hs hn hX;go_enter Tryz.func19,Tryz.ntmps19
 go_wp2_with fail
 refine Calls.mono HM.out ?_;rintro e w1 ⟨rfl,m1,q1,x1⟩;have G1:Hid (OutOf lo hi w w1):=(OutOf.of_below GA.out).trans q1;have X1:Hid (w1.heap[X]?=w.heap[X]?):=x1.trans HA0.out;have M1:Hid _:=m1;clear m1 q1 x1;go_wp2_with fail
 go_ret;exact ⟨rfl,M1.out,G1.out,X1.out⟩
theorem heldNatOut_own (base:Nat) (o:No) (a b:Option Addr) (ca cb k:Nat) (w:World) (hk:0 < k) (hL:k+5*o.bib.binds.length+7*o.bib.sess.length≤1073741824) (hs:BbMk base w a b k o.bib.binds.length o.bib.sess.length) :
  Cb 20 #[noC a b ca cb o,iV k] w (iV ((k+5*o.bib.binds.length+7*o.bib.sess.length:Nat):Int)):=by
 have GA:Hid (Below w.heap.size w (w.alloc (.cells (noL a b ca cb o).toArray 44))):=bR.alloc (Nat.le_refl _) _;have HM:Hid _:=heldBib_own base o.bib.binds.length o.bib.sess.length a b ca cb k (w.alloc (.cells (noL a b ca cb o).toArray 44)) hk hL (hs.kept GA.out);obtain ⟨k2,hk2⟩ : ∃ k2,k2=k+5*o.bib.binds.length+7*o.bib.sess.length:=⟨_,rfl⟩;have hk3:0 < k2:=by omega
 rw [← hk2] at HM hL ⊢;unfold noC;unfold noL at HM GA ⊢;clear hk2 hs;go_enter Tryz.func20,Tryz.ntmps20
 go_wp2_with fail
 refine Calls.mono HM.out ?_;rintro e w1 ⟨rfl,q1⟩;have G1:Hid _:=GA.out.trans (q1.mono GA.out.size);clear q1;go_wp2_with fail
 go_ret;exact ⟨rfl,G1.out⟩
def IsNoL (base:Nat) (o:No):Value→World→Prop:=fun v w=>∃ a b ca cb,v=noC a b ca cb o∧BbOwn base w a b o.bib
theorem stable_isNoL (base:Nat) (o:No):Stable (IsNoL base o):=fun v w w' ⟨a,b,ca,cb,h1,h2⟩ hb=>⟨a,b,ca,cb,h1,h2.kept hb⟩
theorem implByte_any (n:Int) (w:World) :
  Cw 116 #[iV n] w (.bool (isIn n 0 255)):=by
 by_cases h1:0≤n
 ·by_cases h2:n≤255
  ·have HV:Hid (isIn n 0 255=true):=by unfold Hid isIn; simp [h1,h2]
   go_enter Tryz.func116,Tryz.ntmps116
   go_wp2_with fail
   go_ret;exact ⟨ret_bool (by rw [HV.out]),rfl⟩
  ·have HV:Hid (isIn n 0 255=false):=by unfold Hid isIn; simp [h2]
   go_enter Tryz.func116,Tryz.ntmps116
   go_wp2_with fail
   go_ret;exact ⟨ret_bool (by rw [HV.out]),rfl⟩
 ·have HV:Hid (isIn n 0 255=false):=by unfold Hid isIn; simp [h1]
  have h1':n < 0:=by omega
  go_enter Tryz.func116,Tryz.ntmps116
  go_wp2_with fail
  go_ret;exact ⟨ret_bool (by rw [HV.out]),rfl⟩
def pcV (off:Int) (more:Bool) (data:ByteArray) (top:Int):Bool:=isIn off 0 8191&&decide (data.size≤1400)&&(!more||decide (data.size % 8=0))&&decide (8*off+data.size≤top)
theorem v4Ok_prog (p:P4):v4Ok p=(isIn p.tos 0 255&&(isIn p.ttl 0 255&&(isIn p.proto 0 255&&(isIn p.id 0 65535&&(decide (p.src.size=4)&&(decide (p.dst.size=4)&&(decide (p.opts.size≤40)&&(decide (p.opts.size % 4=0)&&(pcV p.off p.more p.data 65515&&!(p.whole&&(p.more||!decide (p.off=0))))))))))) ):=by
 unfold v4Ok v4A v4B v4C pcV;simp only [Bool.not_and,Bool.not_not,Bool.not_or];ac_rfl
theorem implPiece_any (off:Int) (more:Bool) (data:ByteArray) (top:Int) (w:World) (h4:data.size≤1048576) :
  Cw 118 #[iV off,.bool more,.string data,iV top] w (.bool (pcV off more data top)):=by
 have HV:Hid (pcV off more data top=(decide (0≤off)&&decide (off≤8191)&&decide (data.size≤1400)&&(!more||decide (data.size % 8=0))&&decide (8*off+data.size≤top))):=by unfold Hid pcV isIn; rfl
 generalize pcV off more data top=ok at *;by_cases e0:0≤off
 ·by_cases e1:off≤8191
  ·by_cases e2:data.size≤1400
   ·have d2:decide ((data.size:Int)≤1400)=true:=by simp; omega
    have em:(!more||decide (data.size % 8=0))=true∨(more=true∧¬ data.size % 8=0):=by cases more<;>simp<;>omega
    rcases em with em | ⟨rfl,em⟩
    ·by_cases e9:8*off+data.size≤top
     ·replace HV:Hid (ok=true):=by unfold Hid; rw [HV.out,em]; simp [e0,e1,e2,e9]
      cases more with
      | false =>
       clear em;go_enter Tryz.func118,Tryz.ntmps118
       go_wp2_with fail
       go_ret;exact ⟨ret_bool HV.out.symm,rfl⟩
      | true =>
       have dm:(((data.size:Int) % 8)==0)=true:=by simp at em; simp; omega
       clear em;go_enter Tryz.func118,Tryz.ntmps118
       go_wp2_with fail
       go_ret;exact ⟨ret_bool HV.out.symm,rfl⟩
     ·replace HV:Hid (ok=false):=by unfold Hid; rw [HV.out]; simp [e9]
      cases more with
      | false =>
       clear em;go_enter Tryz.func118,Tryz.ntmps118
       go_wp2_with fail
       go_ret;exact ⟨ret_bool HV.out.symm,rfl⟩
      | true =>
       have dm:(((data.size:Int) % 8)==0)=true:=by simp at em; simp; omega
       clear em;go_enter Tryz.func118,Tryz.ntmps118
       go_wp2_with fail
       go_ret;exact ⟨ret_bool HV.out.symm,rfl⟩
    ·replace HV:Hid (ok=false):=by unfold Hid; rw [HV.out]; simp [em]
     have dm:(((data.size:Int) % 8)==0)=false:=by simp; omega
     go_enter Tryz.func118,Tryz.ntmps118
     go_wp2_with fail
     go_ret;exact ⟨ret_bool HV.out.symm,rfl⟩
   ·replace HV:Hid (ok=false):=by unfold Hid; rw [HV.out]; simp [e2]
    have d2:decide ((data.size:Int)≤1400)=false:=by simp; omega
    go_enter Tryz.func118,Tryz.ntmps118
    go_wp2_with fail
    go_ret;exact ⟨ret_bool HV.out.symm,rfl⟩
  ·replace HV:Hid (ok=false):=by unfold Hid; rw [HV.out]; simp [e1]
   go_enter Tryz.func118,Tryz.ntmps118
   go_wp2_with fail
   go_ret;exact ⟨ret_bool HV.out.symm,rfl⟩
 ·replace HV:Hid (ok=false):=by unfold Hid; rw [HV.out]; simp [e0]
  go_enter Tryz.func118,Tryz.ntmps118
  go_wp2_with fail
  go_ret;exact ⟨ret_bool HV.out.symm,rfl⟩
theorem isLife_any (n:Int) (w:World) :
  Cw 174 #[iV n] w (.bool (isIn n 1 10000)):=by
 by_cases h1:1≤n
 ·by_cases h2:n≤10000
  ·have HV:Hid (isIn n 1 10000=true):=by unfold Hid isIn; simp [h1,h2]
   go_enter Tryz.func174,Tryz.ntmps174
   go_wp2_with fail
   go_ret;exact ⟨ret_bool (by rw [HV.out]),rfl⟩
  ·have HV:Hid (isIn n 1 10000=false):=by unfold Hid isIn; simp [h2]
   go_enter Tryz.func174,Tryz.ntmps174
   go_wp2_with fail
   go_ret;exact ⟨ret_bool (by rw [HV.out]),rfl⟩
 ·have HV:Hid (isIn n 1 10000=false):=by unfold Hid isIn; simp [h1]
  have h1':n < 1:=by omega
  go_enter Tryz.func174,Tryz.ntmps174
  go_wp2_with fail
  go_ret;exact ⟨ret_bool (by rw [HV.out]),rfl⟩
theorem isState_any (n:Int) (w:World) :
  Cw 149 #[iV n] w (.bool (isIn n 1 7)):=by
 by_cases h1:1≤n
 ·by_cases h2:n≤7
  ·have HV:Hid (isIn n 1 7=true):=by unfold Hid isIn; simp [h1,h2]
   go_enter Tryz.func149,Tryz.ntmps149
   go_wp2_with fail
   go_ret;exact ⟨ret_bool (by rw [HV.out]),rfl⟩
  ·have HV:Hid (isIn n 1 7=false):=by unfold Hid isIn; simp [h2]
   go_enter Tryz.func149,Tryz.ntmps149
   go_wp2_with fail
   go_ret;exact ⟨ret_bool (by rw [HV.out]),rfl⟩
 ·have HV:Hid (isIn n 1 7=false):=by unfold Hid isIn; simp [h1]
  have h1':n < 1:=by omega
  go_enter Tryz.func149,Tryz.ntmps149
  go_wp2_with fail
  go_ret;exact ⟨ret_bool (by rw [HV.out]),rfl⟩
theorem implStill_any (proto:Int) (w:World) :
  Cw 148 #[iV proto] w (.bool (stillP proto)):=by
 by_cases h1:proto=17
 ·have HV:Hid (stillP proto=true):=by unfold Hid stillP; simp [h1]
  go_enter Tryz.func148,Tryz.ntmps148
  go_wp2_with fail
  go_ret;exact ⟨ret_bool HV.out.symm,rfl⟩
 ·by_cases h2:proto=1
  ·have HV:Hid (stillP proto=true):=by unfold Hid stillP; simp [h2]
   go_enter Tryz.func148,Tryz.ntmps148
   go_wp2_with fail
   go_ret;exact ⟨ret_bool HV.out.symm,rfl⟩
  ·have HV:Hid (stillP proto=false):=by unfold Hid stillP; simp [h1,h2]
   go_enter Tryz.func148,Tryz.ntmps148
   go_wp2_with fail
   go_ret;exact ⟨ret_bool (by rw [HV.out]; simp [h1,h2]),rfl⟩
theorem implLives_any (l:Lv) (w:World) :
  Cb 152 #[lvC l] w (.bool (livesOk l)):=by
 have HC0:Hid (∀ W,Cw 174 #[iV l.udp] W (.bool (isIn l.udp 1 10000))):=fun W=>isLife_any _ W
 have HC1:Hid (∀ W,Cw 174 #[iV l.echo] W (.bool (isIn l.echo 1 10000))):=fun W=>isLife_any _ W
 have HC2:Hid (∀ W,Cw 174 #[iV l.opening] W (.bool (isIn l.opening 1 10000))):=fun W=>isLife_any _ W
 have HC3:Hid (∀ W,Cw 174 #[iV l.opn] W (.bool (isIn l.opn 1 10000))):=fun W=>isLife_any _ W
 have HC4:Hid (∀ W,Cw 174 #[iV l.closing] W (.bool (isIn l.closing 1 10000))):=fun W=>isLife_any _ W
 have HV:Hid (livesOk l=(isIn l.udp 1 10000&&isIn l.echo 1 10000&&isIn l.opening 1 10000&&isIn l.opn 1 10000&&isIn l.closing 1 10000)):=rfl;generalize livesOk l=ans at *;generalize isIn l.udp 1 10000=b0 at *;generalize isIn l.echo 1 10000=b1 at *;generalize isIn l.opening 1 10000=b2 at *;generalize isIn l.opn 1 10000=b3 at *;generalize isIn l.closing 1 10000=b4 at *;have HZ:Hid (Below w.heap.size w (w.alloc (.cells #[iV l.udp,iV l.echo,iV l.opening,iV l.opn,iV l.closing] 46))):=bR.alloc (Nat.le_refl _) _;unfold lvC;go_enter Tryz.func152,Tryz.ntmps152
 go_wp2_with fail
 cases b0 with
 | false =>
  refine (HC0.out _).mono ?_;rintro e w0 ⟨rfl,rfl⟩;go_wp2_with fail
  go_ret;exact ⟨ret_bool (by rw [HV.out]; rfl),HZ.out⟩
 | true =>
  refine (HC0.out _).mono ?_;rintro e w0 ⟨rfl,rfl⟩;go_wp2_with fail
  cases b1 with
  | false =>
   refine (HC1.out _).mono ?_;rintro e w1 ⟨rfl,rfl⟩;go_wp2_with fail
   go_ret;exact ⟨ret_bool (by rw [HV.out]; rfl),HZ.out⟩
  | true =>
   refine (HC1.out _).mono ?_;rintro e w1 ⟨rfl,rfl⟩;go_wp2_with fail
   cases b2 with
   | false =>
    refine (HC2.out _).mono ?_;rintro e w2 ⟨rfl,rfl⟩;go_wp2_with fail
    go_ret;exact ⟨ret_bool (by rw [HV.out]; rfl),HZ.out⟩
   | true =>
    refine (HC2.out _).mono ?_;rintro e w2 ⟨rfl,rfl⟩;go_wp2_with fail
    cases b3 with
    | false =>
     refine (HC3.out _).mono ?_;rintro e w3 ⟨rfl,rfl⟩;go_wp2_with fail
     go_ret;exact ⟨ret_bool (by rw [HV.out]; rfl),HZ.out⟩
    | true =>
     refine (HC3.out _).mono ?_;rintro e w3 ⟨rfl,rfl⟩;go_wp2_with fail
     cases b4 with
     | false =>
      refine (HC4.out _).mono ?_;rintro e w4 ⟨rfl,rfl⟩;go_wp2_with fail
      go_ret;exact ⟨ret_bool (by rw [HV.out]; rfl),HZ.out⟩
     | true =>
      refine (HC4.out _).mono ?_;rintro e w4 ⟨rfl,rfl⟩;go_wp2_with fail
      go_ret;exact ⟨ret_bool (by rw [HV.out]; rfl),HZ.out⟩
theorem connLife_any (l:Lv) (state:Int) (w:World) :
  Cb 153 #[lvC l,iV state] w (iV (if state=1∨state=2 then l.opening else if state=3∨state=4∨state=5 then l.opn else if state=6∨state=7 then l.closing else 0)):=by
 have HZ:Hid (Below w.heap.size w (w.alloc (.cells #[iV l.udp,iV l.echo,iV l.opening,iV l.opn,iV l.closing] 46))):=bR.alloc (Nat.le_refl _) _;obtain ⟨ans,hans⟩ : ∃ x,x=(if state=1∨state=2 then l.opening else if state=3∨state=4∨state=5 then l.opn else if state=6∨state=7 then l.closing else 0):=⟨_,rfl⟩;rw [← hans];have HX:Hid (ans=_):=hans;clear hans;unfold lvC;by_cases s1:state=1
 ·subst s1; simp at HX; go_enter Tryz.func153,Tryz.ntmps153; go_wp2_with fail; go_ret; exact ⟨ret_int HX.out.symm,HZ.out⟩
 by_cases s2:state=2
 ·subst s2; simp at HX; go_enter Tryz.func153,Tryz.ntmps153; go_wp2_with fail; go_ret; exact ⟨ret_int HX.out.symm,HZ.out⟩
 by_cases s3:state=3
 ·subst s3; simp at HX; go_enter Tryz.func153,Tryz.ntmps153; go_wp2_with fail; go_ret; exact ⟨ret_int HX.out.symm,HZ.out⟩
 by_cases s4:state=4
 ·subst s4; simp at HX; go_enter Tryz.func153,Tryz.ntmps153; go_wp2_with fail; go_ret; exact ⟨ret_int HX.out.symm,HZ.out⟩
 by_cases s5:state=5
 ·subst s5; simp at HX; go_enter Tryz.func153,Tryz.ntmps153; go_wp2_with fail; go_ret; exact ⟨ret_int HX.out.symm,HZ.out⟩
 by_cases s6:state=6
 ·subst s6; simp at HX; go_enter Tryz.func153,Tryz.ntmps153; go_wp2_with fail; go_ret; exact ⟨ret_int HX.out.symm,HZ.out⟩
 by_cases s7:state=7
 ·subst s7; simp at HX; go_enter Tryz.func153,Tryz.ntmps153; go_wp2_with fail; go_ret; exact ⟨ret_int HX.out.symm,HZ.out⟩
 simp [s1,s2,s3,s4,s5,s6,s7] at HX;go_enter Tryz.func153,Tryz.ntmps153
 go_wp2_with fail
 go_ret;exact ⟨ret_int HX.out.symm,HZ.out⟩
theorem implLife_any (l:Lv) (proto state:Int) (w:World) :
  Cb 112 #[lvC l,iV proto,iV state] w (iV (trackLifeV l proto state)):=by
 have HL:Hid (∀ W,Cb 152 #[lvC l] W (.bool (livesOk l))):=fun W=>implLives_any l W
 have HN:Hid (∀ W,Cb 153 #[lvC l,iV state] W (iV (if state=1∨state=2 then l.opening else if state=3∨state=4∨state=5 then l.opn else if state=6∨state=7 then l.closing else 0))):=fun W=>connLife_any l state W
 have HK:Hid (BoxLives (w.alloc (.cells #[iV l.udp,iV l.echo,iV l.opening,iV l.opn,iV l.closing] 46)) w.heap.size l):=BoxLives.new w l;have HZ:Hid (Below w.heap.size w (w.alloc (.cells #[iV l.udp,iV l.echo,iV l.opening,iV l.opn,iV l.closing] 46))):=bR.alloc (Nat.le_refl _) _;unfold lvC at HL HN ⊢
 cases hl:livesOk l with
 | false =>
  have HX:Hid (trackLifeV l proto state=0):=by unfold Hid trackLifeV; rw [if_pos hl]
  rw [hl] at HL;clear hl;go_enter Tryz.func112,Tryz.ntmps112
  go_wp2_with fail
  refine (HL.out _).mono ?_;rintro e w1 ⟨rfl,q1⟩;have G1:Hid _:=HZ.out.trans (q1.mono HZ.out.size);clear q1;go_wp2_with fail
  go_ret;exact ⟨ret_int HX.out.symm,G1.out⟩
 | true =>
  generalize hcl:(if state=1∨state=2 then l.opening else if state=3∨state=4∨state=5 then l.opn else if state=6∨state=7 then l.closing else 0)=cl at HN;have HX:Hid (trackLifeV l proto state=if proto=17 then l.udp else if proto=1 then l.echo else if proto=6 then cl else 0):=by unfold Hid trackLifeV; rw [if_neg (by rw [hl]; decide),hcl]
  rw [hl] at HL;clear hl hcl;go_enter Tryz.func112,Tryz.ntmps112
  go_wp2_with fail
  refine (HL.out _).mono ?_;rintro e w1 ⟨rfl,q1⟩;have G1:Hid _:=HZ.out.trans (q1.mono HZ.out.size);obtain ⟨k0,k1,k2,k3,k4⟩:=HK.out.kept q1;clear q1 HZ HK HL;by_cases p0:proto=17
  ·subst p0;rw [if_pos rfl] at HX;go_wp2_with fail
   go_ret;exact ⟨ret_int HX.out.symm,G1.out⟩
  ·by_cases p1:proto=1
   ·subst p1;rw [if_neg (by decide),if_pos rfl] at HX;go_wp2_with fail
    go_ret;exact ⟨ret_int HX.out.symm,G1.out⟩
   ·rw [if_neg p0,if_neg p1] at HX;by_cases p6:proto=6
    ·subst p6;rw [if_pos rfl] at HX;clear p0 p1;go_wp2_with fail
     refine (HN.out _).mono ?_;rintro e w2 ⟨rfl,q2⟩;have G2:Hid _:=G1.out.trans (q2.mono G1.out.size);clear q2;go_wp2_with fail
     go_ret;exact ⟨ret_int HX.out.symm,G2.out⟩
    ·rw [if_neg p6] at HX;go_wp2_with fail
     go_ret;exact ⟨ret_int HX.out.symm,G1.out⟩
def waitV (state flags:Int):Bool:=if state=1∨state=2 then flagB flags 2 else if state=3∨state=4∨state=5 then flagB flags 1 else true
theorem waits_any (state flags:Int) (w:World) (hr:state=1∨state=2∨state=3∨state=4∨state=5∨state=6∨state=7) :
  Cw 151 #[iV state,iV flags] w (.bool (waitV state flags)):=by
 obtain ⟨ans,hans⟩ : ∃ x,x=waitV state flags:=⟨_,rfl⟩;rw [← hans];have HX:Hid (ans=waitV state flags):=hans;clear hans;have e1:flagB flags 1=decide (¬ bits .and .i64 flags 1=0):=rfl;have e2:flagB flags 2=decide (¬ bits .and .i64 flags 2=0):=rfl;unfold waitV at HX;rw [e1,e2] at HX;clear e1 e2;rcases hr with rfl | rfl | rfl | rfl | rfl | rfl | rfl<;>by_cases h1:bits .and .i64 flags 1=0<;>by_cases h2:bits .and .i64 flags 2=0
 all_goals
  simp [h1,h2] at HX;go_enter Tryz.func151,Tryz.ntmps151
  go_wp2_with fail
  go_ret;exact ⟨ret_bool (by first | exact HX.out.symm | (rw [HX.out]; simp [h1,h2])),rfl⟩
theorem from_any (a b:Int) (inside:Bool) (w:World) :
  Cb 150 #[.agg #[iV a,iV b],.bool inside] w (iV (if inside=true then a else b)):=by
 have HZ:Hid (Below w.heap.size w (w.alloc (.cells #[iV a,iV b] 188))):=bR.alloc (Nat.le_refl _) _
 cases inside;all_goals
  go_enter Tryz.func150,Tryz.ntmps150
  go_wp2_with fail
  go_ret;exact ⟨ret_int (by simp),HZ.out⟩
def TabB (w:World):Prop:=∀ i:Nat,i < 16→w.cell? ⟨0,i,none⟩=some (iV ([0,0,0,3,3,0,4,5,0,6,6,0,0,0,3,3].getD i 0))
theorem TabB.below {w W:World} (h:TabB w) (hb:Below w.heap.size w W):TabB W:=fun i hi=>((bcell hb).1 _ _ (World.block_lt_of_cell? w _ (h i hi))).trans (h i hi)
theorem next_six (state:Int) (inside:Bool) (flags:Int) (hb:isIn state 1 7=true) (hc:isIn flags 0 255=true):trackNextV 6 state inside flags=(
  if flagB flags 4=true then 7
  else if state=1 then (if inside=false∧flagB flags 2=true then 3 else 1)
  else if state=2 then (if inside=true∧flagB flags 2=true then 3 else 2)
  else if state=3 then (if flagB flags 1=true then (if inside=true then 4 else 5) else 3)
  else if state=4 then (if inside=false∧flagB flags 1=true then 6 else 4)
  else if state=5 then (if inside=true∧flagB flags 1=true then 6 else 5)
  else if state=7 then 3 else state):=by
 unfold trackNextV; rw [if_neg (by decide),if_pos ⟨rfl,hb,hc⟩]
theorem implNext_any (proto state:Int) (inside:Bool) (flags:Int) (w:World) (hT:TabB w) :
  Cb 111 #[iV proto,iV state,.bool inside,iV flags] w (iV (trackNextV proto state inside flags)):=by
 have HA:Hid (∀ W,Cw 148 #[iV proto] W (.bool (stillP proto))):=fun W=>implStill_any _ W
 have HB:Hid (∀ W,Cw 149 #[iV state] W (.bool (isIn state 1 7))):=fun W=>isState_any _ W
 have HC:Hid (∀ W,Cw 116 #[iV flags] W (.bool (isIn flags 0 255))):=fun W=>implByte_any _ W
 cases hs:stillP proto with
 | true =>
  have HX:Hid (trackNextV proto state inside flags=3):=by unfold Hid trackNextV; rw [if_pos hs]
  rw [hs] at HA;clear hs hT;go_enter Tryz.func111,Tryz.ntmps111
  go_wp2_with fail
  refine (HA.out _).mono ?_;rintro e w1 ⟨rfl,rfl⟩;go_wp2_with fail
  go_ret;exact ⟨ret_int HX.out.symm,Below.refl _ _⟩
 | false =>
  rw [hs] at HA;have HS:Hid (stillP proto=false):=hs;clear hs;by_cases hp:proto=6
  ·subst hp
   cases hb:isIn state 1 7 with
   | false =>
    have HX:Hid (trackNextV 6 state inside flags=0):=by unfold Hid trackNextV; rw [if_neg (by rw [HS.out]; decide),if_neg (by rw [hb]; simp)]
    rw [hb] at HB;clear hb hT;go_enter Tryz.func111,Tryz.ntmps111
    go_wp2_with fail
    refine (HA.out _).mono ?_;rintro e w1 ⟨rfl,rfl⟩;go_wp2_with fail
    refine (HB.out _).mono ?_;rintro e w1 ⟨rfl,rfl⟩;go_wp2_with fail
    go_ret;exact ⟨ret_int HX.out.symm,Below.refl _ _⟩
   | true =>
    cases hc:isIn flags 0 255 with
    | false =>
     have HX:Hid (trackNextV 6 state inside flags=0):=by unfold Hid trackNextV; rw [if_neg (by rw [HS.out]; decide),if_neg (by rw [hc]; simp)]
     rw [hb] at HB;rw [hc] at HC;clear hb hc hT;go_enter Tryz.func111,Tryz.ntmps111
     go_wp2_with fail
     refine (HA.out _).mono ?_;rintro e w1 ⟨rfl,rfl⟩;go_wp2_with fail
     refine (HB.out _).mono ?_;rintro e w1 ⟨rfl,rfl⟩;go_wp2_with fail
     refine (HC.out _).mono ?_;rintro e w1 ⟨rfl,rfl⟩;go_wp2_with fail
     go_ret;exact ⟨ret_int HX.out.symm,Below.refl _ _⟩
    | true =>
     have HX:Hid _:=next_six state inside flags hb hc;rw [hb] at HB;rw [hc] at HC;have hr:state=1∨state=2∨state=3∨state=4∨state=5∨state=6∨state=7:=by
      unfold isIn at hb; simp only [Bool.and_eq_true,decide_eq_true_eq] at hb; omega
     have HW:Hid (∀ W,Cw 151 #[iV state,iV flags] W (.bool (waitV state flags))):=fun W=>waits_any state flags W hr
     have HF:Hid (∀ a b W,Cb 150 #[.agg #[iV a,iV b],.bool inside] W (iV (if inside=true then a else b))):=fun a b W=>from_any a b inside W
     clear hb hc;have k0:=hT 0 (by decide);have k1:=hT 1 (by decide);have k2:=hT 2 (by decide);have k3:=hT 3 (by decide);have k4:=hT 4 (by decide);have k5:=hT 5 (by decide);have k6:=hT 6 (by decide);have k7:=hT 7 (by decide);have k8:=hT 8 (by decide);have k9:=hT 9 (by decide);have k10:=hT 10 (by decide);have k11:=hT 11 (by decide);have k12:=hT 12 (by decide);have k13:=hT 13 (by decide);have k14:=hT 14 (by decide);have k15:=hT 15 (by decide);simp only [List.getD_cons_zero,List.getD_cons_succ] at k0 k1 k2 k3 k4 k5 k6 k7 k8 k9 k10 k11 k12 k13 k14 k15;clear hT;go_enter Tryz.func111,Tryz.ntmps111
     go_wp2_with fail
     refine (HA.out _).mono ?_;rintro e w1 ⟨rfl,rfl⟩;go_wp2_with fail
     refine (HB.out _).mono ?_;rintro e w1 ⟨rfl,rfl⟩;go_wp2_with fail
     refine (HC.out _).mono ?_;rintro e w1 ⟨rfl,rfl⟩;clear HA HB HC;go_upto_region 5 with fail
     by_cases h4:bits .and .i64 flags 4=0
     ·have n4:flagB flags 4=false:=by unfold flagB; simp [h4]
      rw [n4,if_neg (by decide)] at HX;clear n4;have e1:flagB flags 1=decide (¬ bits .and .i64 flags 1=0):=rfl;have e2:flagB flags 2=decide (¬ bits .and .i64 flags 2=0):=rfl;unfold waitV at HW;rw [e1,e2] at HX HW;clear e1 e2;rcases hr with rfl | rfl | rfl | rfl | rfl | rfl | rfl<;>by_cases h1:bits .and .i64 flags 1=0<;>by_cases h2:bits .and .i64 flags 2=0<;>cases inside
      all_goals
       simp [h1,h2] at HX;simp [h1,h2] at HW;simp at HF;go_wp2_with fail
       refine (HF.out _ _ _).mono ?_;rintro e w2 ⟨rfl,q2⟩;have G2:Hid (Below w1.heap.size w1 w2):=q2;clear q2;go_wp2_with (go_at_call 151; refine (HW.out _).mono ?_; rintro e w3 ⟨rfl,rfl⟩)
       go_ret;exact ⟨ret_int HX.out.symm,G2.out⟩
     ·have HY:Hid (trackNextV 6 state inside flags=7):=by unfold Hid; rw [HX.out,if_pos (by unfold flagB; exact decide_eq_true h4)]
      go_wp2_with fail
      go_ret;exact ⟨ret_int HY.out.symm,Below.refl _ _⟩
  ·have HX:Hid (trackNextV proto state inside flags=0):=by unfold Hid trackNextV; rw [if_neg (by rw [HS.out]; decide),if_neg (fun h=>hp h.1)]
   clear hT;go_enter Tryz.func111,Tryz.ntmps111
   go_wp2_with fail
   refine (HA.out _).mono ?_;rintro e w1 ⟨rfl,rfl⟩;go_wp2_with fail
   go_ret;exact ⟨ret_int HX.out.symm,Below.refl _ _⟩
theorem isBound_any (proto:Int) (w:World) :
  Cw 141 #[iV proto] w (.bool (protoB proto)):=by
 have hun:undef=Value.tuple #[]:=rfl;by_cases h0:proto=6
 ·subst h0;go_enter Tryz.func141,Tryz.ntmps141
  go_wp2_with fail
  go_ret;exact ⟨rfl,rfl⟩
 ·by_cases h1:proto=17
  ·subst h1;go_enter Tryz.func141,Tryz.ntmps141
   go_wp2_with fail
   go_ret;exact ⟨rfl,rfl⟩
  ·by_cases h2:proto=1
   ·subst h2;go_enter Tryz.func141,Tryz.ntmps141
    go_wp2_with fail
    go_ret;exact ⟨rfl,rfl⟩
   ·have HV:Hid (protoB proto=false):=by unfold Hid protoB; simp [h0,h1,h2]
    go_enter Tryz.func141,Tryz.ntmps141
    go_wp2_with fail
    go_ret;exact ⟨ret_bool (by rw [HV.out]; simp [h0,h1,h2]),rfl⟩
theorem strIndex_any (xs:List ByteArray) (s:ByteArray) (a:Option Addr) (cap:Nat) (w:World) (hlen:xs.length≤1048576) (hr:SlIs strL1 1 w a xs) :
  Calls Tryz.prog 131 #[.slice a xs.length cap,.string s] w fun e w'=>∃ j:Int,e=.returned (iV j)∧-1≤j∧j≤1048576∧Hid (decide (0≤j)=inL xs s)∧Below w.heap.size w w':=by
 have HR:Hid (SlIs strL1 1 w a xs):=hr;have HV:Hid (inL xs s=xs.any fun t=>decide (t.toList=s.toList)):=rfl;generalize inL xs s=ans at *;clear hr;go_enter Tryz.func131,Tryz.ntmps131
 go_wp2_with fail
 go_loopw [8] (fun iv wr=>∃ i:Nat,i≤xs.length∧iv=iV i∧(xs.take i).any (fun t=>decide (t.toList=s.toList))=false∧Below w.heap.size w wr) (fun iv _=>xs.length-(intOf iv).toNat)
 case atStart=>exact ⟨0,Nat.zero_le _,rfl,rfl,Below.refl _ _⟩
 case round =>
  obtain ⟨i,hi,rfl,hn,hbel⟩:=hrel;have HN:Hid ((xs.take i).any (fun t=>decide (t.toList=s.toList))=false):=hn;have HL:Hid (Below w.heap.size w wr):=hbel;clear hn hbel;by_cases hlt:i < xs.length
  ·obtain ⟨b,off,rfl,hb,hat⟩:=HR.out.at hlt;have hA:=(hat.below hb HL.out) i hlt;have HST:Hid _:=any_take (fun t:ByteArray=>decide (t.toList=s.toList)) xs i hlt;have HAT:Hid _:=any_at (fun t:ByteArray=>decide (t.toList=s.toList)) xs i hlt;obtain ⟨t,ht⟩ : ∃ t,xs[i]=t:=⟨_,rfl⟩;rw [ht] at hA HST HAT;have c0:wr.cell? ⟨b,off+i,none⟩=some (.string t):=by have:=hA 0 _ rfl; simpa using this
   have c0':wr.cell? ⟨b,off+i*1,none⟩=some (.string t):=by simpa using c0
   clear hA hat ht;by_cases he:t.toList=s.toList
   ·have HX:Hid (decide (0≤(i:Int))=ans):=by unfold Hid; rw [HV.out,HAT.out (decide_eq_true he)]; simp
    have hbq:(s.toList==t.toList)=true:=by simp [he]
    clear he;go_wp2_with fail
    go_ret;exact ⟨i,rfl,by omega,by omega,HX,HL.out⟩
   ·have HN2:Hid ((xs.take (i+1)).any (fun t=>decide (t.toList=s.toList))=false):=by unfold Hid; rw [HST.out,HN.out,decide_eq_false he]; rfl
    have hbq:(s.toList==t.toList)=false:=by simp; exact fun e=>he e.symm
    clear he;go_wp2_with fail
    go_roundw
    case rel=>exact ⟨i+1,by omega,by go_num,HN2.out,HL.out⟩
    case measure=>simp [intOf]; omega
  ·have hie:i=xs.length:=by omega
   have HX:Hid (decide (0≤(-1:Int))=ans):=by unfold Hid; have:=HN.out; rw [hie,List.take_length] at this; rw [HV.out,this]; rfl
   go_wp2_with fail
   go_ret;exact ⟨-1,rfl,by omega,by omega,HX,HL.out⟩
theorem strHas_any (xs:List ByteArray) (s:ByteArray) (a:Option Addr) (cap:Nat) (w:World) (hlen:xs.length≤1048576) (hr:SlIs strL1 1 w a xs) :
  Cb 96 #[.slice a xs.length cap,.string s] w (.bool (inL xs s)):=by
 have HI:Hid _:=strIndex_any xs s a cap w hlen hr;generalize inL xs s=ans at *;clear hr;go_enter Tryz.func96,Tryz.ntmps96
 go_wp2_with fail
 refine Calls.mono HI.out ?_;rintro e w1 ⟨j,rfl,h1,h2,h3,b1⟩;have B1:Hid _:=b1;clear b1;go_wp2_with fail
 go_ret;exact ⟨ret_bool h3.out,B1.out⟩
def poolA (xs:List ByteArray):Bool:=decide (1≤xs.length)&&decide (xs.length≤8)&&upN addrOne xs xs.length
theorem implPoolA_any (xs:List ByteArray) (a:Option Addr) (cap:Nat) (w:World) (hlen:xs.length≤1048576) (hcap:xs.length≤cap) (hsz:∀ s∈xs,s.size≤1048576) (hr:SlIs strL1 1 w a xs) :
  Cb 165 #[.slice a xs.length cap] w (.bool (poolA xs)):=by
 have HR:Hid (SlIs strL1 1 w a xs):=hr;have HZ:Hid (∀ s∈xs,s.size≤1048576):=hsz;have HV:Hid (poolA xs=(decide (1≤xs.length)&&decide (xs.length≤8)&&upN addrOne xs xs.length)):=rfl;generalize poolA xs=ans at *;have hun:undef=Value.tuple #[]:=rfl;clear hr hsz;by_cases h1:xs.length < 1
 ·have HX:Hid (ans=false):=by unfold Hid; rw [HV.out,decide_eq_false (show ¬ 1≤xs.length by omega)]; rfl
  have h1':(xs.length:Int) < 1:=by omega
  go_enter Tryz.func165,Tryz.ntmps165
  go_wp2_with fail
  go_ret;exact ⟨ret_bool HX.out.symm,Below.refl _ _⟩
 ·have h1n:¬ (xs.length:Int) < 1:=by omega
  by_cases h2:8 < xs.length
  ·have HX:Hid (ans=false):=by unfold Hid; rw [HV.out,decide_eq_false (show ¬ xs.length≤8 by omega)]; simp
   have h2':(8:Int) < (xs.length:Int):=by omega
   go_enter Tryz.func165,Tryz.ntmps165
   go_wp2_with fail
   go_ret;exact ⟨ret_bool HX.out.symm,Below.refl _ _⟩
  ·have HU:Hid (ans=upN addrOne xs xs.length):=by unfold Hid; rw [HV.out,decide_eq_true (show 1≤xs.length by omega),decide_eq_true (show xs.length≤8 by omega)]; rfl
   have h2n:¬ (8:Int) < (xs.length:Int):=by omega
   clear HV;go_enter Tryz.func165,Tryz.ntmps165
   go_wp2_with fail
   go_loopw [15] (fun iv wr=>∃ i:Nat,i≤xs.length∧iv=iV i∧upN addrOne xs i=true∧Below w.heap.size w wr) (fun iv _=>xs.length-(intOf iv).toNat)
   case atStart=>exact ⟨0,Nat.zero_le _,rfl,rfl,Below.refl _ _⟩
   case round =>
    obtain ⟨i,hi,rfl,hn,hbel⟩:=hrel;have HN:Hid (upN addrOne xs i=true):=hn;have HL:Hid (Below w.heap.size w wr):=hbel;clear hn hbel;by_cases hlt:i < xs.length
    ·obtain ⟨b,off,rfl,hb,hat⟩:=HR.out.at hlt;have hA:=(hat.below hb HL.out) i hlt;have HST:Hid _:=upN_step (f:=addrOne) hlt;have HATF:Hid (addrOne (xs.take i) xs[i]=false→upN addrOne xs xs.length=false):=upN_at hlt;have hts:=HZ.out xs[i] (List.getElem_mem hlt);obtain ⟨t,ht⟩ : ∃ t,xs[i]=t:=⟨_,rfl⟩;rw [ht] at hA HST HATF hts;have c0:wr.cell? ⟨b,off+i,none⟩=some (.string t):=by have:=hA 0 _ rfl; simpa using this
     have c0':wr.cell? ⟨b,off+i*1,none⟩=some (.string t):=by simpa using c0
     have HOV:Hid (addrOne (xs.take i) t=(decide (t.size=4)&&!inL (xs.take i) t)):=rfl;have hltI:(i:Int) < (xs.length:Int):=by omega
     have HC:Hid (∀ W,Below w.heap.size w W→Cb 96 #[.slice (some ⟨b,off,none⟩) i cap,.string t] W (.bool (inL (xs.take i) t))):=fun W hW=>by
      have h:=strHas_any (xs.take i) t (some ⟨b,off,none⟩) cap W (by simp; omega) ((HR.out.below hW).take i);rw [List.length_take,Nat.min_eq_left (by omega)] at h; exact h
     generalize inL (xs.take i) t=il at *;clear hA hat ht;by_cases h4:t.size=4
     ·have h4i:(t.size:Int)=4:=by omega
      have d1:((t.size:Int) != 4)=false:=by simp [h4i]
      clear h4i;go_wp2_with fail
      refine (HC.out _ HL.out).mono ?_;rintro e w1 ⟨rfl,q1⟩;have HL1:Hid _:=HL.out.trans (q1.mono HL.out.size);clear q1
      cases il with
      | true =>
       have HX:Hid (ans=false):=by unfold Hid; rw [HU.out]; refine HATF.out ?_; rw [HOV.out]; simp
       go_wp2_with fail
       go_ret;exact ⟨ret_bool HX.out.symm,HL1.out⟩
      | false =>
       have HN2:Hid (upN addrOne xs (i+1)=true):=by unfold Hid; rw [HST.out,HN.out,HOV.out,decide_eq_true h4]; rfl
       go_wp2_with fail
       go_roundw
       case rel=>exact ⟨i+1,by omega,by go_num,HN2.out,HL1.out⟩
       case measure=>simp [intOf]; omega
     ·have HX:Hid (ans=false):=by unfold Hid; rw [HU.out]; refine HATF.out ?_; rw [HOV.out,decide_eq_false h4]; rfl
      have h4i:¬ (t.size:Int)=4:=by omega
      have d1:((t.size:Int) != 4)=true:=by simp [h4i]
      go_wp2_with fail
      go_ret;exact ⟨ret_bool HX.out.symm,HL.out⟩
    ·have hie:i=xs.length:=by omega
     have HX:Hid (ans=true):=by unfold Hid; have:=HN.out; rw [hie] at this; rw [HU.out]; exact this
     go_wp2_with fail
     go_ret;exact ⟨ret_bool HX.out.symm,HL.out⟩
end Go.Proofs.YtcckaeppiamebaaGreatDoor
namespace Go.Proofs.YtcckaeppiamebaaGreatDoor
open Go.RowKit
structure En where
 proto:Int
 addr:ByteArray
 port:Int
def enC (q:En):Value:=.agg (EnV q.proto q.addr q.port).toArray
def enL (q:En):List Value:=(EnV q.proto q.addr q.port)
def sameEn (q p:En):Bool:=(q.proto==p.proto)&&((q.addr.toList==p.addr.toList)&&(q.port==p.port))
structure Sk where
 host:En
 peer:ByteArray
 peerPort:Int
def skC (q:Sk):Value:=.agg (BdR q.host.proto q.host.addr q.host.port q.peer q.peerPort).toArray
def skL (q:Sk):List Value:=(BdR q.host.proto q.host.addr q.host.port q.peer q.peerPort)
def sameSk (q p:Sk):Bool:=sameEn q.host p.host&&((q.peer.toList==p.peer.toList)&&(q.peerPort==p.peerPort))
theorem eqEn_run (D:Nat) (q p:En) (W:World):(Op.equalIn (D+2) 155 (.agg (EnV q.proto q.addr q.port).toArray) (.agg (EnV p.proto p.addr p.port).toArray)).run Tryz.prog W=.ok (sameEn q p) W:=by
 have h1:Tryz.prog.underlying 155=some (.struct (Tryz.prog.fieldsOf 155)):=by kernel_rfl
 have h2:Tryz.prog.stoodInHeld 155=false:=by kernel_rfl
 rw [run_equalIn_agg _ _ _ _ _ h1 h2];have h3:(Tryz.prog.fieldsOf 155).toList.length=3:=by kernel_rfl
 have h4 : ((Tryz.prog.fieldsOf 155).toList.map fun f => (f.type, f.offset, f.name == "_")) = [(2, 0, false), (9, 1, false), (2, 2, false)] := by kernel_rfl
 generalize (Tryz.prog.fieldsOf 155).toList=fs at *;match fs,h3 with
 | [f0,f1,f2],_ =>
  simp only [List.map_cons,List.map_nil,List.cons.injEq,Prod.mk.injEq,and_true] at h4;obtain ⟨⟨a0,b0,c0⟩,⟨a1,b1,c1⟩,⟨a2,b2,c2⟩⟩:=h4
  have d0 : (f0.name ≠ "_") = True := by simpa using c0
  have q0:∀ W,(part 2 (EnV q.proto q.addr q.port).toArray 0).run Tryz.prog W=.ok (iV q.proto) W:=fun W=>by kernel_rfl
  have p0:∀ W,(part 2 (EnV p.proto p.addr p.port).toArray 0).run Tryz.prog W=.ok (iV p.proto) W:=fun W=>by kernel_rfl
  have d1 : (f1.name ≠ "_") = True := by simpa using c1
  have q1:∀ W,(part 9 (EnV q.proto q.addr q.port).toArray 1).run Tryz.prog W=.ok (.string q.addr) W:=fun W=>by kernel_rfl
  have p1:∀ W,(part 9 (EnV p.proto p.addr p.port).toArray 1).run Tryz.prog W=.ok (.string p.addr) W:=fun W=>by kernel_rfl
  have d2 : (f2.name ≠ "_") = True := by simpa using c2
  have q2:∀ W,(part 2 (EnV q.proto q.addr q.port).toArray 2).run Tryz.prog W=.ok (iV q.port) W:=fun W=>by kernel_rfl
  have p2:∀ W,(part 2 (EnV p.proto p.addr p.port).toArray 2).run Tryz.prog W=.ok (iV p.port) W:=fun W=>by kernel_rfl
  unfold sameEn;simp only [Op.eqFields,a0,b0,d0,q0,p0,a1,b1,d1,q1,p1,a2,b2,d2,q2,p2,if_true,Sem.run_bind,Sem.run_ite,Sem.run_pure,Result.andThen_ok,run_equalIn_string _ _ _ _ _ Tryz.underlying9,run_equalIn_int _ _ _ _ _ _ _ Tryz.underlying2];generalize (q.proto==p.proto)=g0;generalize (q.addr.toList==p.addr.toList)=g1;generalize (q.port==p.port)=g2
  cases g0
  ·simp
  simp only [Bool.not_true,Bool.false_eq_true,if_false,Bool.true_and]
  cases g1
  ·simp
  simp only [Bool.not_true,Bool.false_eq_true,if_false,Bool.true_and]
  cases g2<;>simp
theorem eqEn_bin (q p:En) (W:World):(binOp .eql 155 (.agg (EnV q.proto q.addr q.port).toArray) (.agg (EnV p.proto p.addr p.port).toArray)).run Tryz.prog W=.ok (.bool (sameEn q p)) W:=by
 rw [run_eql_struct,eqEn_run 9998 q p W]; rfl
theorem eqSk_run (D:Nat) (q p:Sk) (W:World):(Op.equalIn (D+3) 160 (.agg (BdR q.host.proto q.host.addr q.host.port q.peer q.peerPort).toArray) (.agg (BdR p.host.proto p.host.addr p.host.port p.peer p.peerPort).toArray)).run Tryz.prog W=.ok (sameSk q p) W:=by
 have h1:Tryz.prog.underlying 160=some (.struct (Tryz.prog.fieldsOf 160)):=by kernel_rfl
 have h2:Tryz.prog.stoodInHeld 160=false:=by kernel_rfl
 rw [run_equalIn_agg _ _ _ _ _ h1 h2];have h3:(Tryz.prog.fieldsOf 160).toList.length=3:=by kernel_rfl
 have h4 : ((Tryz.prog.fieldsOf 160).toList.map fun f => (f.type, f.offset, f.name == "_")) = [(155, 0, false), (9, 3, false), (2, 4, false)] := by kernel_rfl
 generalize (Tryz.prog.fieldsOf 160).toList=fs at *;match fs,h3 with
 | [f0,f1,f2],_ =>
  simp only [List.map_cons,List.map_nil,List.cons.injEq,Prod.mk.injEq,and_true] at h4;obtain ⟨⟨a0,b0,c0⟩,⟨a1,b1,c1⟩,⟨a2,b2,c2⟩⟩:=h4
  have d0 : (f0.name ≠ "_") = True := by simpa using c0
  have q0:∀ W,(part 155 (BdR q.host.proto q.host.addr q.host.port q.peer q.peerPort).toArray 0).run Tryz.prog W=.ok (.agg (EnV q.host.proto q.host.addr q.host.port).toArray) W:=fun W=>by kernel_rfl
  have p0:∀ W,(part 155 (BdR p.host.proto p.host.addr p.host.port p.peer p.peerPort).toArray 0).run Tryz.prog W=.ok (.agg (EnV p.host.proto p.host.addr p.host.port).toArray) W:=fun W=>by kernel_rfl
  have d1 : (f1.name ≠ "_") = True := by simpa using c1
  have q1:∀ W,(part 9 (BdR q.host.proto q.host.addr q.host.port q.peer q.peerPort).toArray 3).run Tryz.prog W=.ok (.string q.peer) W:=fun W=>by kernel_rfl
  have p1:∀ W,(part 9 (BdR p.host.proto p.host.addr p.host.port p.peer p.peerPort).toArray 3).run Tryz.prog W=.ok (.string p.peer) W:=fun W=>by kernel_rfl
  have d2 : (f2.name ≠ "_") = True := by simpa using c2
  have q2:∀ W,(part 2 (BdR q.host.proto q.host.addr q.host.port q.peer q.peerPort).toArray 4).run Tryz.prog W=.ok (iV q.peerPort) W:=fun W=>by kernel_rfl
  have p2:∀ W,(part 2 (BdR p.host.proto p.host.addr p.host.port p.peer p.peerPort).toArray 4).run Tryz.prog W=.ok (iV p.peerPort) W:=fun W=>by kernel_rfl
  unfold sameSk;simp only [Op.eqFields,a0,b0,d0,q0,p0,a1,b1,d1,q1,p1,a2,b2,d2,q2,p2,if_true,Sem.run_bind,Sem.run_ite,Sem.run_pure,Result.andThen_ok,run_equalIn_string _ _ _ _ _ Tryz.underlying9,run_equalIn_int _ _ _ _ _ _ _ Tryz.underlying2,eqEn_run D q.host p.host];generalize (sameEn q.host p.host)=g0;generalize (q.peer.toList==p.peer.toList)=g1;generalize (q.peerPort==p.peerPort)=g2
  cases g0
  ·simp
  simp only [Bool.not_true,Bool.false_eq_true,if_false,Bool.true_and]
  cases g1
  ·simp
  simp only [Bool.not_true,Bool.false_eq_true,if_false,Bool.true_and]
  cases g2<;>simp
theorem eqSk_bin (q p:Sk) (W:World):(binOp .eql 160 (.agg (BdR q.host.proto q.host.addr q.host.port q.peer q.peerPort).toArray) (.agg (BdR p.host.proto p.host.addr p.host.port p.peer p.peerPort).toArray)).run Tryz.prog W=.ok (.bool (sameSk q p)) W:=by
 rw [run_eql_struct,eqSk_run 9997 q p W]; rfl
theorem upN_iff {α:Type} {f:List α→α→Bool} {xs:List α}:upN f xs xs.length=true↔∀ i (h:i < xs.length),f (xs.take i) xs[i]=true:=by
 constructor
 ·intro h i hi
  cases hf:f (xs.take i) xs[i] with
  | true=>rfl
  | false=>rw [upN_at hi hf] at h; exact h
 ·intro h;have key:∀ n,n≤xs.length→upN f xs n=true:=by
   intro n;induction n with
   | zero=>intro _; rfl
   | succ n ih=>intro hn; rw [upN_step (by omega),ih (by omega),h n (by omega)]; rfl
  exact key _ (Nat.le_refl _)
theorem findI_any {α:Type} (f:α→Bool) (xs:List α):decide (0≤findI f xs)=xs.any f:=by
 unfold findI
 cases h:xs.findIdx? f with
 | none =>
  have h2:=List.findIdx?_eq_none_iff.1 h;have:xs.any f=false:=by rw [List.any_eq_false]; intro x hx; simp [h2 x hx]
  rw [this]; rfl
 | some i =>
  obtain ⟨hi,hfi,_⟩:=List.findIdx?_eq_some_iff_getElem.1 h;have:xs.any f=true:=List.any_eq_true.2 ⟨_,List.getElem_mem hi,hfi⟩;rw [this]; simp
theorem mem_take {α:Type} {xs:List α} {i:Nat} {c:α} (h:c∈xs.take i):∃ k,∃ hk:k < xs.length,k < i∧xs[k]=c:=by
 obtain ⟨k,hk,rfl⟩:=List.getElem_of_mem h;rw [List.length_take] at hk;exact ⟨k,by omega,by omega,by simp⟩
theorem take_mem {α:Type} {xs:List α} {i k:Nat} (hk:k < xs.length) (hi:k < i):xs[k]∈xs.take i:=by
 rw [List.mem_iff_getElem];exact ⟨k,by simp; omega,by simp⟩
def fitB (p:Pl) (b:Bb) (ys:List Bd) (x:Bd):Bool:=protoB x.proto&&addrOk x.inn&&isW x.inPort&&inL p.addrs x.out&&isIn x.outPort p.low p.high&&!(ys.any (ofIn x.proto x.inn x.inPort))&&!(ys.any (ofOut x.proto x.out x.outPort))&&decide ((outIn b.binds ⟨#[]⟩ x.inn).toList=x.out.toList)&&b.sess.any (hasS x)
def sessR (s:Ss):Bool:=decide (s.peer.size=4)&&isW s.peerPort&&isIn s.state 1 7&&(decide (s.state=3)||!stillP s.proto)&&isIn s.untl 0 2000000000
def sessB (b:Bb) (ys:List Ss) (s:Ss):Bool:=b.binds.any (ofIn s.proto s.inn s.inPort)&&sessR s&&!(ys.any fun t=>sameS s t)
def bookOk (p:Pl) (b:Bb):Bool:=poolOk p&&decide ((b.sess.length:Int)≤p.most)&&decide (b.binds.length≤b.sess.length)&&upN (fitB p b) b.binds b.binds.length&&upN (sessB b) b.sess b.sess.length
theorem pool_most {p:Pl} (h:poolOk p=true):1≤p.most∧p.most≤60:=by
 unfold poolOk at h; simp only [Bool.and_eq_true] at h; exact isIn_parts h.1.1.1.2
theorem nodup_le {α:Type} [DecidableEq α]:∀ {xs ys:List α},xs.Nodup→(∀ x∈xs,x∈ys)→xs.length≤ys.length
 | [],ys,_,_=>Nat.zero_le _
 | x::xs,ys,hn,hs=>by
  have hx:x∈ys:=hs x (by simp);have h1:=nodup_le (xs:=xs) (ys:=ys.erase x) (List.nodup_cons.1 hn).2 (fun y hy=>by
   have hne:y≠x:=fun e=>by subst e; exact (List.nodup_cons.1 hn).1 hy
   exact (List.mem_erase_of_ne hne).2 (hs y (by simp [hy])))
  rw [List.length_erase_of_mem hx] at h1;have:0 < ys.length:=List.length_pos_of_mem hx;simp; omega
def keyB (x:Bd):Int × List UInt8 × Int:=(x.proto,x.inn.toList,x.inPort)
def keyS (s:Ss):Int × List UInt8 × Int:=(s.proto,s.inn.toList,s.inPort)
theorem keyB_of {x:Bd} {s:Ss} (h:hasS x s=true):keyB x=keyS s:=by
 unfold hasS at h; simp only [Bool.and_eq_true,decide_eq_true_iff] at h;unfold keyB keyS; rw [h.1.1,h.1.2,h.2]
theorem clash_in {c b:Bd} (h:ofIn b.proto b.inn b.inPort c=true):clashB c b=true:=by
 unfold ofIn at h; simp only [Bool.and_eq_true,decide_eq_true_iff] at h;unfold clashB; simp [h.1.1,h.1.2,h.2]
theorem clash_out {c b:Bd} (h:ofOut b.proto b.out b.outPort c=true):clashB c b=true:=by
 unfold ofOut at h; simp only [Bool.and_eq_true,decide_eq_true_iff] at h;unfold clashB; simp [h.1.1,h.1.2,h.2]
theorem clash_host {c b:Bd} (h:c.inn.toList=b.inn.toList) (hc:clashB c b=false):c.out.toList=b.out.toList:=by
 unfold clashB at hc; simp only [Bool.or_eq_false_iff] at hc;have:=hc.1;simp [h] at this; exact this
theorem outIn_host {xs:List Bd} {d a b:ByteArray} (h:a.toList=b.toList):outIn xs d a=outIn xs d b:=by
 have:ofHost a=ofHost b:=by funext c; unfold ofHost; rw [h]
 unfold outIn; rw [this]
theorem binds_le {b:Bb} {p:Pl} (hB:∀ i (h:i < b.binds.length),bindOne p (b.binds.take i) b.binds[i]=true) (hA:∀ x∈b.binds,b.sess.any (fun s=>hasS x s)=true):b.binds.length≤b.sess.length:=by
 have h:=nodup_le (xs:=b.binds.map keyB) (ys:=b.sess.map keyS) ?_ ?_
 ·simpa using h
 ·rw [List.nodup_iff_pairwise_ne,List.pairwise_map,List.pairwise_iff_getElem];intro i j hi hj hij e;have h1:=hB j hj;unfold bindOne at h1; simp only [Bool.and_eq_true,Bool.not_eq_true'] at h1;have h2:=List.any_eq_false.1 h1.2 b.binds[i] (take_mem hi hij);unfold keyB at e;simp only [Prod.mk.injEq] at e;exact h2 (clash_in (by unfold ofIn; simp [e.1,e.2.1,e.2.2]))
 ·intro k hk;obtain ⟨x,hx,rfl⟩:=List.mem_map.1 hk;obtain ⟨s,hs,hh⟩:=List.any_eq_true.1 (hA x hx);exact List.mem_map.2 ⟨s,hs,(keyB_of hh).symm⟩
theorem book_bib (p:Pl) (b:Bb):bookOk p b=bibOk p b:=by
 rw [Bool.eq_iff_iff];constructor
 ·intro h;unfold bookOk at h;simp only [Bool.and_eq_true,decide_eq_true_iff] at h;obtain ⟨⟨⟨⟨hP,hs⟩,hl⟩,hF0⟩,hS0⟩:=h;have hF:=upN_iff.1 hF0;have hS:=upN_iff.1 hS0;have hm:=pool_most hP;have F1:∀ i (h:i < b.binds.length),bindOne p (b.binds.take i) b.binds[i]=true:=by
   intro i hi;have hf:=hF i hi;unfold fitB at hf;simp only [Bool.and_eq_true,decide_eq_true_iff,Bool.not_eq_true'] at hf;obtain ⟨⟨⟨⟨⟨⟨⟨⟨f1,f2⟩,f3⟩,f4⟩,f5⟩,f6⟩,f7⟩,f8⟩,f9⟩:=hf;unfold bindOne;simp only [Bool.and_eq_true,Bool.not_eq_true'];refine ⟨⟨⟨⟨⟨f1,f2⟩,f3⟩,f4⟩,f5⟩,?_⟩;rw [List.any_eq_false];intro c hc hcl;obtain ⟨k,hk,hki,rfl⟩:=mem_take hc;unfold clashB at hcl;simp only [Bool.or_eq_true,Bool.and_eq_true,decide_eq_true_iff,Bool.not_eq_true',decide_eq_false_iff_not] at hcl;rcases hcl with ⟨e1,e2⟩ | ⟨e1,⟨e2,e3⟩ | ⟨e2,e3⟩⟩
   ·have hg:=hF k hk;unfold fitB at hg;simp only [Bool.and_eq_true,decide_eq_true_iff] at hg;have g8:=hg.1.2;rw [outIn_host e1] at g8;exact e2 (g8.symm.trans f8)
   ·exact List.any_eq_false.1 f6 _ hc (by unfold ofIn; simp [e1,e2,e3])
   ·exact List.any_eq_false.1 f7 _ hc (by unfold ofOut; simp [e1,e2,e3])
  unfold bibOk;simp only [Bool.and_eq_true,decide_eq_true_iff,List.all_eq_true];refine ⟨⟨⟨⟨⟨hP,hs⟩,by omega⟩,upN_iff.2 F1⟩,upN_iff.2 ?_⟩,?_⟩
  ·intro i hi;have hq:=hS i hi;unfold sessB at hq;simp only [Bool.and_eq_true,Bool.not_eq_true'] at hq;obtain ⟨⟨q1,q2⟩,q3⟩:=hq;unfold sessR at q2;simp only [Bool.and_eq_true,decide_eq_true_iff,Bool.or_eq_true] at q2;obtain ⟨⟨⟨⟨r1,r2⟩,r3⟩,r4⟩,r5⟩:=q2;unfold sessOne;simp only [Bool.and_eq_true,decide_eq_true_iff,Bool.not_eq_true',Bool.or_eq_true];refine ⟨⟨⟨⟨⟨⟨r1,r2⟩,r3⟩,?_⟩,r5⟩,?_⟩,q3⟩
   ·rcases r4 with r4 | r4
    ·exact .inr r4
    ·obtain ⟨x,hx,hox⟩:=List.any_eq_true.1 q1;obtain ⟨j,hj,rfl⟩:=List.getElem_of_mem hx;have f1:=F1 j hj;unfold bindOne at f1;simp only [Bool.and_eq_true] at f1;have f2:=f1.1.1.1.1.1;unfold ofIn at hox;simp only [Bool.and_eq_true,decide_eq_true_iff] at hox;rw [hox.1.1] at f2;unfold protoB at f2;unfold stillP at r4;simp at f2 r4;rcases f2 with (f2 | f2) | f2
     ·exact .inl f2
     ·exact absurd f2 r4.1
     ·exact absurd f2 r4.2
   ·have:=findI_any (ofIn b.sess[i].proto b.sess[i].inn b.sess[i].inPort) b.binds;rw [q1] at this; simpa using this
  ·intro x hx;obtain ⟨j,hj,rfl⟩:=List.getElem_of_mem hx;have hf:=hF j hj;unfold fitB at hf;simp only [Bool.and_eq_true] at hf;exact hf.2
 ·intro h;unfold bibOk at h;simp only [Bool.and_eq_true,decide_eq_true_iff,List.all_eq_true] at h;obtain ⟨⟨⟨⟨⟨hP,hs⟩,h60⟩,hB0⟩,hS0⟩,hA⟩:=h;have hB:=upN_iff.1 hB0;have hS:=upN_iff.1 hS0;unfold bookOk;simp only [Bool.and_eq_true,decide_eq_true_iff];refine ⟨⟨⟨⟨hP,hs⟩,binds_le hB hA⟩,upN_iff.2 ?_⟩,upN_iff.2 ?_⟩
  ·intro i hi;have h1:=hB i hi;unfold bindOne at h1;simp only [Bool.and_eq_true,Bool.not_eq_true'] at h1;obtain ⟨⟨⟨⟨⟨f1,f2⟩,f3⟩,f4⟩,f5⟩,f6⟩:=h1;unfold fitB;simp only [Bool.and_eq_true,decide_eq_true_iff,Bool.not_eq_true'];refine ⟨⟨⟨⟨⟨⟨⟨⟨f1,f2⟩,f3⟩,f4⟩,f5⟩,?_⟩,?_⟩,?_⟩,hA _ (List.getElem_mem hi)⟩
   ·rw [List.any_eq_false];intro c hc ho;exact List.any_eq_false.1 f6 c hc (clash_in ho)
   ·rw [List.any_eq_false];intro c hc ho;exact List.any_eq_false.1 f6 c hc (clash_out ho)
   ·unfold outIn
    cases hfd:b.binds.find? (ofHost b.binds[i].inn) with
    | none =>
     have:=List.find?_eq_none.1 hfd b.binds[i] (List.getElem_mem hi);exact absurd (by unfold ofHost; simp) this
    | some c =>
     obtain ⟨hc1,k,hk,hkc,hlt⟩:=List.find?_eq_some_iff_getElem.1 hfd;have hki:k≤i:=by
      rcases Nat.lt_or_ge i k with h2 | h2
      ·have:=hlt i h2;exact absurd this (by unfold ofHost; simp)
      ·exact h2
     rcases Nat.lt_or_ge k i with h2 | h2
     ·have hcl:=List.any_eq_false.1 f6 b.binds[k] (take_mem hk h2);rw [hkc] at hcl;unfold ofHost at hc1;exact clash_host (of_decide_eq_true hc1) (by simpa using hcl)
     ·have:k=i:=by omega
      subst this;rw [hkc]
  ·intro i hi;have hq:=hS i hi;unfold sessOne at hq;simp only [Bool.and_eq_true,decide_eq_true_iff,Bool.not_eq_true',Bool.or_eq_true] at hq;obtain ⟨⟨⟨⟨⟨⟨r1,r2⟩,r3⟩,r4⟩,r5⟩,r6⟩,r7⟩:=hq;unfold sessB;simp only [Bool.and_eq_true,Bool.not_eq_true'];refine ⟨⟨?_,?_⟩,r7⟩
   ·rw [← findI_any]; exact decide_eq_true r6
   ·unfold sessR;simp only [Bool.and_eq_true,decide_eq_true_iff,Bool.or_eq_true];refine ⟨⟨⟨⟨r1,r2⟩,r3⟩,?_⟩,r5⟩;rcases r4 with r4 | r4
    ·right; rw [r4]; rfl
    ·exact .inl r4
theorem leastN_two (f:Int→Bool) (port:Int) (c:Nat):∀ lo:Int,lo % 2=port % 2→leastN (fun n=>decide (n % 2=port % 2)&&f n) (lo+1) c=leastN (fun n=>decide (n % 2=port % 2)&&f n) (lo+2) (c-1):=by
 intro lo h
 cases c with
 | zero=>rfl
 | succ c =>
  show (if (decide ((lo+1) % 2=port % 2)&&f (lo+1))=true then some (lo+1) else leastN _ (lo+1+1) c)=_;rw [if_neg (by rw [decide_eq_false (by omega)]; simp)];rw [show lo+1+1=lo+2 by omega]; rfl
theorem leastN_par {f:Int→Bool} {n hi port:Int} (h:n≤hi) (hp:n % 2=port % 2):leastN (fun m=>decide (m % 2=port % 2)&&f m) n (hi-n+1).toNat=if f n=true then some n else leastN (fun m=>decide (m % 2=port % 2)&&f m) (n+2) (hi-(n+2)+1).toNat:=by
 rw [leastN_step h];rw [decide_eq_true hp,Bool.true_and];by_cases hf:f n=true
 ·rw [if_pos hf,if_pos hf]
 ·rw [if_neg hf,if_neg hf,leastN_two f port _ n hp];rw [show (hi-(n+1)+1).toNat-1=(hi-(n+2)+1).toNat by omega]
theorem leastN_first {f:Int→Bool} {lo hi port:Int} (h0:0≤lo) (h1:0≤port) (h:lo≤hi):leastN (fun m=>decide (m % 2=port % 2)&&f m) lo (hi-lo+1).toNat=leastN (fun m=>decide (m % 2=port % 2)&&f m) (lo+(lo+port) % 2) (hi-(lo+(lo+port) % 2)+1).toNat:=by
 by_cases hp:lo % 2=port % 2
 ·rw [show (lo+port) % 2=0 by omega,Int.add_zero]
 ·rw [show (lo+port) % 2=1 by omega,leastN_step h];rw [decide_eq_false hp]; simp
end Go.Proofs.YtcckaeppiamebaaGreatDoor
namespace Go.Proofs
open Go.Shelf
def Tryz.laysM316_ren:Go.Shelf.Ren:=⟨fun | 316=>175 | n=>n,fun | 9=>9 | 3=>3 | 4=>4 | 37=>137 | 0=>0 | 127=>217 | 5=>5 | n=>n,fun | n=>n⟩
theorem Tryz.laysM316:Go.Proofs.LaysM.n316 Tryz.prog Tryz.laysM316_ren:={
 mixed:=by kernel_rfl
 f316:=Tryz.func175.trans (congrArg some (by kernel_rfl))
 t0:=Tryz.underlying0
 a0:=Tryz.isAgg0
 z0:=Tryz.sizeOf0
 v0:=Tryz.zeroValue0
 t3:=Tryz.underlying3
 a3:=Tryz.isAgg3
 z3:=Tryz.sizeOf3
 v3:=Tryz.zeroValue3
 t4:=Tryz.underlying4
 a4:=Tryz.isAgg4
 z4:=Tryz.sizeOf4
 v4:=Tryz.zeroValue4
 t9:=Tryz.underlying9
 a9:=Tryz.isAgg9
 z9:=Tryz.sizeOf9
 v9:=Tryz.zeroValue9
 t37:=Tryz.underlying137
 a37:=Tryz.isAgg137
 z37:=Tryz.sizeOf137
 v37:=Tryz.zeroValue137
 t127:=Tryz.underlying217
 a127:=Tryz.isAgg217
 z127:=Tryz.sizeOf217
 v127:=Tryz.zeroValue217
 t5:=Tryz.underlying5
 a5:=Tryz.isAgg5
 z5:=Tryz.sizeOf5
 v5:=Tryz.zeroValue5
 i0:=by kernel_rfl
 i3:=by kernel_rfl
 i4:=by kernel_rfl
 i5:=by kernel_rfl
 i9:=by kernel_rfl
 i37:=by kernel_rfl
 i127:=by kernel_rfl }
open Go.RowKit in
theorem Tryz.stringslite_Clone (s:ByteArray) (w:World) (hlim:s.size≤281474976710656) :
  Calls Tryz.prog 175 #[.string s] w fun e w'=>e=.returned (.string s)∧Below w.heap.size w w':=Any.stringslite_Clone Tryz.laysM316 s w hlim
end Go.Proofs
namespace Go.Proofs.YtcckaeppiamebaaGreatDoor
open Go.RowKit Go.PlainAid
theorem implAddrRight_any (s:ByteArray) (w:World) :
  Cw 132 #[.string s] w (.bool (addrOk s)):=by
 by_cases h4:s.size=4
 ·have HV:Hid (addrOk s=true):=addrOk_yes (.inl h4);have h4':(s.size:Int)=4:=by omega
  clear h4;go_enter Tryz.func132,Tryz.ntmps132
  go_wp2
  go_ret;exact ⟨ret_bool HV.out.symm,rfl⟩
 ·by_cases h16:s.size=16
  ·have HV:Hid (addrOk s=true):=addrOk_yes (.inr h16);have h16':(s.size:Int)=16:=by omega
   clear h16 h4;go_enter Tryz.func132,Tryz.ntmps132
   go_wp2
   go_ret;exact ⟨ret_bool HV.out.symm,rfl⟩
  ·have HV:Hid (addrOk s=false):=addrOk_no (by omega);have e1:((s.size:Int)==4)=false:=by simp; omega
   have e2:((s.size:Int)==16)=false:=by simp; omega
   go_enter Tryz.func132,Tryz.ntmps132
   go_wp2
   go_ret;exact ⟨ret_bool HV.out.symm,rfl⟩
open Go.ChangeShapes Go.WideShapes
structure BoxFlow (w:World) (B:Nat) (p:Fl):Prop where
 c0:w.cell? ⟨B,0,none⟩=some (iV p.proto)
 c1:w.cell? ⟨B,1,none⟩=some (.string p.src)
 c2:w.cell? ⟨B,2,none⟩=some (.string p.dst)
 c3:w.cell? ⟨B,3,none⟩=some (iV p.sp)
 c4:w.cell? ⟨B,4,none⟩=some (iV p.dp)
theorem BoxFlow.kept {w W:World} {B:Nat} {p:Fl} (h:BoxFlow w B p) (hB:Below w.heap.size w W):BoxFlow W B p:=by
 have hb:=World.block_lt_of_cell? w _ h.c0;exact ⟨((bcell hB).1 B 0 hb).trans h.c0,((bcell hB).1 B 1 hb).trans h.c1,((bcell hB).1 B 2 hb).trans h.c2,((bcell hB).1 B 3 hb).trans h.c3,((bcell hB).1 B 4 hb).trans h.c4⟩
theorem BoxFlow.new (w:World) (p:Fl) {t:TypeId}:BoxFlow (w.alloc (.cells (FlV p).toArray t)) w.heap.size p:=⟨cell_new rfl,cell_new rfl,cell_new rfl,cell_new rfl,cell_new rfl⟩
end Go.Proofs.YtcckaeppiamebaaGreatDoor
namespace Go.Proofs.YtcckaeppiamebaaGreatDoor
open Go.RowKit Go.PlainAid
theorem implLong_any (t:ByteArray) (w:World) :
  Cw 97 #[.string t] w (.bool (decide (20000 < t.size))):=by
 by_cases h:20000 < t.size
 ·have d:decide ((20000:Int) < (t.size:Int))=true:=by simp; omega
  rw [decide_eq_true h];go_enter Tryz.func97,Tryz.ntmps97
  go_wp2_with fail
  go_ret;exact ⟨rfl,rfl⟩
 ·have d:decide ((20000:Int) < (t.size:Int))=false:=by simp; omega
  rw [decide_eq_false h];go_enter Tryz.func97,Tryz.ntmps97
  go_wp2_with fail
  go_ret;exact ⟨rfl,rfl⟩
theorem implTcpFlags_any (t:ByteArray) (w:World) (ht:t.size≤1048576) :
  Cb 104 #[.string t] w (iV (tcpFlagsV t)):=by
 have HL:Hid (∀ W,Cw 97 #[.string t] W (.bool (decide (20000 < t.size)))):=fun W=>implLong_any t W
 by_cases h1:20000 < t.size
 ·have HV:Hid (tcpFlagsV t=0):=by unfold Hid tcpFlagsV; rw [if_pos (.inl h1)]
  rw [decide_eq_true h1] at HL;go_enter Tryz.func104,Tryz.ntmps104
  go_wp2_with fail
  refine (HL.out _).mono ?_;rintro e w2 ⟨rfl,rfl⟩;go_wp2_with fail
  go_ret;exact ⟨ret_int HV.out.symm,Below.refl _ _⟩
 rw [decide_eq_false h1] at HL;by_cases h2:t.size < 20
 ·have HV:Hid (tcpFlagsV t=0):=by unfold Hid tcpFlagsV; rw [if_pos (.inr h2)]
  go_enter Tryz.func104,Tryz.ntmps104
  go_wp2_with fail
  refine (HL.out _).mono ?_;rintro e w2 ⟨rfl,rfl⟩;go_wp2_with fail
  go_ret;exact ⟨ret_int HV.out.symm,Below.refl _ _⟩
 ·have HV:Hid (tcpFlagsV t=bt t 13):=by unfold Hid tcpFlagsV; rw [if_neg (by omega)]
  have hb:=get_bt t;have b1:=bt_isByte t 13;go_enter Tryz.func104,Tryz.ntmps104
  go_wp2_with fail
  refine (HL.out _).mono ?_;rintro e w2 ⟨rfl,rfl⟩;go_wp2_with fail
  go_ret;exact ⟨ret_int HV.out.symm,Below.refl _ _⟩
theorem implPair_any (s d:ByteArray) (w:World) (hs:s.size≤maxLen) (hd:d.size≤maxLen) :
  Cw 98 #[.string s,.string d] w (.bool (pairOk s d)):=by
 have HA:Hid (∀ W,Cw 132 #[.string s] W (.bool (addrOk s))):=fun W=>implAddrRight_any s W
 unfold maxLen at hs hd;unfold pairOk;generalize addrOk s=b at *;by_cases h:s.size=d.size
 ·have dh:((s.size:Int)==(d.size:Int))=true:=by simp; omega
  rw [decide_eq_true h];clear h
  cases b;all_goals go_enter Tryz.func98,Tryz.ntmps98
  all_goals go_wp2_with fail
  all_goals refine (HA.out _).mono ?_
  all_goals rintro e w2 ⟨rfl,rfl⟩
  all_goals go_wp2_with fail
  all_goals go_ret
  all_goals exact ⟨rfl,rfl⟩
 ·have dh:((s.size:Int)==(d.size:Int))=false:=by simp; omega
  rw [decide_eq_false h]
  cases b;all_goals go_enter Tryz.func98,Tryz.ntmps98
  all_goals go_wp2_with fail
  all_goals refine (HA.out _).mono ?_
  all_goals rintro e w2 ⟨rfl,rfl⟩
  all_goals go_wp2_with fail
  all_goals go_ret
  all_goals exact ⟨rfl,rfl⟩
theorem implEcho_any (p:Int) (w:World) :
  Cw 101 #[iV p] w (.bool (echoP p)):=by
 by_cases h1:p=1
 ·have d1:(p==1)=true:=by simp [h1]
  have HV:Hid (echoP p=true):=by unfold Hid echoP; simp [h1]
  clear h1;go_enter Tryz.func101,Tryz.ntmps101
  go_wp2_with fail
  go_ret;exact ⟨ret_bool HV.out.symm,rfl⟩
 ·have d1:(p==1)=false:=by simp [h1]
  have HV:Hid (echoP p=(p==58)):=by
   unfold Hid echoP;rw [decide_eq_false h1,Bool.false_or];rfl
  go_enter Tryz.func101,Tryz.ntmps101
  go_wp2_with fail
  go_ret;exact ⟨ret_bool HV.out.symm,rfl⟩
theorem implCarried_any (p:Int) (s:ByteArray) (w:World) (hs:s.size≤maxLen) :
  Cw 99 #[iV p,.string s] w (.bool (protoOk p s.size)):=by
 unfold maxLen at hs;by_cases h6:p=6
 ·have HV:Hid (protoOk p s.size=true):=by unfold Hid protoOk; simp [h6]
  have d6:(p==6)=true:=by simp [h6]
  clear h6;go_enter Tryz.func99,Tryz.ntmps99
  go_wp2_with fail
  go_ret;exact ⟨ret_bool HV.out.symm,rfl⟩
 have d6:(p==6)=false:=by simp [h6]
 by_cases h17:p=17
 ·have HV:Hid (protoOk p s.size=true):=by unfold Hid protoOk; simp [h17]
  have d17:(p==17)=true:=by simp [h17]
  clear h6 h17;go_enter Tryz.func99,Tryz.ntmps99
  go_wp2_with fail
  go_ret;exact ⟨ret_bool HV.out.symm,rfl⟩
 have d17:(p==17)=false:=by simp [h17]
 by_cases h1:p=1
 ·have HV:Hid (protoOk p s.size=((s.size:Int)==4)):=by
   unfold Hid protoOk;have h4:((s.size:Int)==4)=decide (s.size=4):=by rw [Bool.eq_iff_iff]; simp; omega
   rw [h4]; simp [h1]
  have d1:(p==1)=true:=by simp [h1]
  clear h6 h17 h1;go_enter Tryz.func99,Tryz.ntmps99
  go_wp2_with fail
  go_ret;exact ⟨ret_bool HV.out.symm,rfl⟩
 have d1:(p==1)=false:=by simp [h1]
 by_cases h58:p=58
 ·have HV:Hid (protoOk p s.size=((s.size:Int)==16)):=by
   unfold Hid protoOk;have h4:((s.size:Int)==16)=decide (s.size=16):=by rw [Bool.eq_iff_iff]; simp; omega
   rw [h4]; simp [h58]
  have d58:(p==58)=true:=by simp [h58]
  clear h6 h17 h1 h58;go_enter Tryz.func99,Tryz.ntmps99
  go_wp2_with fail
  go_ret;exact ⟨ret_bool HV.out.symm,rfl⟩
 have d58:(p==58)=false:=by simp [h58]
 have HV:Hid (protoOk p s.size=false):=by unfold Hid protoOk; simp [h6,h17,h1,h58]
 clear h6 h17 h1 h58;go_enter Tryz.func99,Tryz.ntmps99
 go_wp2_with fail
 go_ret;exact ⟨ret_bool HV.out.symm,rfl⟩
theorem implFlowRight_any (f:Fl) (w:World) (h1:f.src.size≤1048576) (h2:f.dst.size≤1048576) :
  Cb 155 #[fwC f] w (.bool (flowOk f)):=by
 have HB1:Hid (∀ W,Cw 98 #[.string f.src,.string f.dst] W (.bool (pairOk f.src f.dst))):=fun W=>implPair_any _ _ W (by unfold maxLen; omega) (by unfold maxLen; omega)
 have HB2:Hid (∀ W,Cw 99 #[iV f.proto,.string f.src] W (.bool (protoOk f.proto f.src.size))):=fun W=>implCarried_any _ _ W (by unfold maxLen; omega)
 have HB3:Hid (∀ W,Cw 117 #[iV f.sp] W (.bool (isW f.sp))):=fun W=>implWordIs_any _ W
 have HB4:Hid (∀ W,Cw 117 #[iV f.dp] W (.bool (isW f.dp))):=fun W=>implWordIs_any _ W
 have HB5:Hid (∀ W,Cw 101 #[iV f.proto] W (.bool (echoP f.proto))):=fun W=>implEcho_any _ W
 have HV:Hid (flowOk f=(pairOk f.src f.dst&&protoOk f.proto f.src.size&&isW f.sp&&isW f.dp&&(!echoP f.proto||decide (f.sp=f.dp)))):=rfl;have dq:(f.sp==f.dp)=decide (f.sp=f.dp):=rfl;generalize decide (f.sp=f.dp)=q at *;generalize flowOk f=ok at *;generalize pairOk f.src f.dst=a1 at *;generalize protoOk f.proto f.src.size=a2 at *;generalize isW f.sp=a3 at *;generalize isW f.dp=a4 at *;generalize echoP f.proto=a5 at *;obtain ⟨proto,src,dst,sp,dp⟩:=f;unfold fwC;dsimp only at *;have HZ:Hid (Below w.heap.size w (w.alloc (.cells (FlR proto src dst sp dp).toArray 91))):=bR.alloc (Nat.le_refl _) _;go_enter Tryz.func155,Tryz.ntmps155
 go_wp2_with fail
 refine (HB1.out _).mono ?_;rintro e w2 ⟨rfl,rfl⟩
 cases a1 with
 | false =>
  have hun:undef=Value.tuple #[]:=rfl;go_wp2_with fail
  go_ret;exact ⟨ret_bool (by rw [HV.out]; simp),HZ.out⟩
 | true =>
 go_wp2_with fail
 refine (HB2.out _).mono ?_;rintro e w2 ⟨rfl,rfl⟩
 cases a2 with
 | false =>
  have hun:undef=Value.tuple #[]:=rfl;go_wp2_with fail
  go_ret;exact ⟨ret_bool (by rw [HV.out]; simp),HZ.out⟩
 | true =>
 go_wp2_with fail
 refine (HB3.out _).mono ?_;rintro e w2 ⟨rfl,rfl⟩
 cases a3 with
 | false =>
  have hun:undef=Value.tuple #[]:=rfl;go_wp2_with fail
  go_ret;exact ⟨ret_bool (by rw [HV.out]; simp),HZ.out⟩
 | true =>
 go_wp2_with fail
 refine (HB4.out _).mono ?_;rintro e w2 ⟨rfl,rfl⟩
 cases a4 with
 | false =>
  have hun:undef=Value.tuple #[]:=rfl;go_wp2_with fail
  go_ret;exact ⟨ret_bool (by rw [HV.out]; simp),HZ.out⟩
 | true =>
 go_wp2_with fail
 refine (HB5.out _).mono ?_;rintro e w2 ⟨rfl,rfl⟩
 cases a5 with
 | false =>
  have hun:undef=Value.tuple #[]:=rfl;go_wp2_with fail
  go_ret;exact ⟨ret_bool (by rw [HV.out]; simp),HZ.out⟩
 | true =>
  have hun:undef=Value.tuple #[]:=rfl;go_wp2_with fail
  go_ret;exact ⟨ret_bool (by rw [HV.out]; simp),HZ.out⟩
end Go.Proofs.YtcckaeppiamebaaGreatDoor
namespace Go.Proofs.YtcckaeppiamebaaGreatDoor
open Go.RowKit
theorem wp_bin_val {P:Program} {o:Oper} {a:Act} {w:World} {v1 v2 v':Value} {K:Act→World→Prop} {Q:Exit→Act→World→Prop} (b:BinOp) (t t2:TypeId) (x y:Operand) (hop:o.op=Op.binOp b t x y t2)
  (hx:a.eval x=v1) (hy:a.eval y=v2) (hgd:(eqGuard b t x y v1 v2).run P w=.ok () w) (hrun:(binOp b t v1 v2).run P w=.ok v' w) (hK:K (a.put o.dst v') w):Oper.wp P o a w K Q:=by
 unfold Oper.wp;simp [execOp,hop,hx,hy,hgd,hrun,Result.andThen];exact hK
open Go.PlainAid
def Enters (F:Nat):Prop:=∀ args W,Sem.run Tryz.prog (callFunc F args) W=.ok (.enter F args) W
def hostE (q:Bd):En:=⟨q.proto,q.inn,q.inPort⟩
def lentE (q:Bd):En:=⟨q.proto,q.out,q.outPort⟩
def sessE (s:Ss):En:=⟨s.proto,s.inn,s.inPort⟩
def sessK (s:Ss):Sk:=⟨sessE s,s.peer,s.peerPort⟩
theorem sameEn_eq (q p:En):sameEn q p=(decide (q.proto=p.proto)&&decide (q.addr.toList=p.addr.toList)&&decide (q.port=p.port)):=by
 unfold sameEn;rw [Bool.eq_iff_iff]; simp [and_assoc]
theorem host_in (proto:Int) (s:ByteArray) (port:Int) (q:Bd):sameEn (hostE q) ⟨proto,s,port⟩=ofIn proto s port q:=sameEn_eq _ _
theorem lent_out (proto:Int) (s:ByteArray) (port:Int) (q:Bd):sameEn (lentE q) ⟨proto,s,port⟩=ofOut proto s port q:=sameEn_eq _ _
theorem sess_has (b:Bd) (s:Ss):sameEn (sessE s) (hostE b)=hasS b s:=by
 rw [sameEn_eq]; unfold hasS sessE hostE;rw [Bool.eq_iff_iff]; simp only [Bool.and_eq_true,decide_eq_true_iff];exact ⟨fun h=>⟨⟨h.1.1.symm,h.1.2.symm⟩,h.2.symm⟩,fun h=>⟨⟨h.1.1.symm,h.1.2.symm⟩,h.2.symm⟩⟩
theorem sess_same (s t:Ss):sameSk (sessK t) (sessK s)=sameS s t:=by
 unfold sameSk;rw [show sameEn (sessK t).host (sessK s).host=sameEn (sessE t) (sessE s) from rfl,sameEn_eq];unfold sameS sessK sessE;rw [Bool.eq_iff_iff]; simp only [Bool.and_eq_true,decide_eq_true_iff,beq_iff_eq];exact ⟨fun h=>⟨⟨⟨⟨h.1.1.1.symm,h.1.1.2.symm⟩,h.1.2.symm⟩,h.2.1.symm⟩,h.2.2.symm⟩,fun h=>⟨⟨⟨h.1.1.1.1.symm,h.1.1.1.2.symm⟩,h.1.1.2.symm⟩,h.1.2.symm,h.2.symm⟩⟩
theorem hostEnd_any (q:Bd) (w:World) :
  Cb 137 #[bdC q] w (enC (hostE q)):=by
 unfold bdC enC hostE;go_enter Tryz.func137,Tryz.ntmps137
 go_wp2_with fail
 refine bodyPost_ret (v:=.agg (EnV q.proto q.inn q.inPort).toArray) (by simp [results,Tryz.results137,go_sem]) rfl ⟨rfl,?_⟩;first | exact (bR.alloc (Nat.le_refl _) _).alloc (by simp) _ | exact ((((bR.alloc (Nat.le_refl _) _).alloc (by simp) _).setCell (by simp) _).setCell (by simp) _).setCell (by simp) _
theorem lentEnd_any (q:Bd) (w:World) :
  Cb 138 #[bdC q] w (enC (lentE q)):=by
 unfold bdC enC lentE;go_enter Tryz.func138,Tryz.ntmps138
 go_wp2_with fail
 refine bodyPost_ret (v:=.agg (EnV q.proto q.out q.outPort).toArray) (by simp [results,Tryz.results138,go_sem]) rfl ⟨rfl,?_⟩;first | exact (bR.alloc (Nat.le_refl _) _).alloc (by simp) _ | exact ((((bR.alloc (Nat.le_refl _) _).alloc (by simp) _).setCell (by simp) _).setCell (by simp) _).setCell (by simp) _
theorem sessKey_any (q:Ss) (w:World) :
  Cb 139 #[ssC q] w (skC (sessK q)):=by
 unfold ssC skC sessK sessE;go_enter Tryz.func139,Tryz.ntmps139
 go_wp2_with fail
 refine bodyPost_ret (v:=.agg (BdR q.proto q.inn q.inPort q.peer q.peerPort).toArray) (by simp [results,Tryz.results139,go_sem]) rfl ⟨rfl,?_⟩;first | exact ((bR.alloc (Nat.le_refl _) _).alloc (by simp) _).alloc (by simp; omega) _ | skip
theorem idxBind_any (f:Bd→Bool) (F:Nat) (hG:Enters F) (caps:Array Value) (xs:List Bd) (a:Option Addr) (cap:Nat) (w:World) (hl:xs.length≤1048576) (hr:SlIs bdL 5 w a xs) (hC:∀ W,Below w.heap.size w W→∀ q,q∈xs→Calls Tryz.prog F (#[bdC q]++caps) W fun e w'=>e=.returned (.bool (f q))∧Below W.heap.size W w') :
  Cb 180 #[.slice a xs.length cap,.func (.func F) #[] caps] w (iV (findI f xs)):=by
 have HR:Hid (SlIs bdL 5 w a xs):=hr;have HC:Hid (∀ W,Below w.heap.size w W→∀ q,q∈xs→Calls Tryz.prog F (#[bdC q]++caps) W fun e w'=>e=.returned (.bool (f q))∧Below W.heap.size W w'):=hC;obtain ⟨ans,hans⟩ : ∃ y,y=findI f xs:=⟨_,rfl⟩;rw [← hans];have HA:Hid (ans=findI f xs):=hans;clear hr hC hans;unfold Enters at hG;go_enter Tryz.func180,Tryz.ntmps180
 go_wp2_with fail
 go_loopw [8] (fun iv wr=>∃ i:Nat,i≤xs.length∧iv=iV i∧(xs.take i).any f=false∧Below w.heap.size w wr) (fun iv _=>xs.length-(intOf iv).toNat)
 case atStart=>exact ⟨0,Nat.zero_le _,rfl,by simp,Below.refl _ _⟩
 case round =>
  obtain ⟨i,hil,rfl,hn,hb⟩:=hrel;have HN:Hid ((xs.take i).any f=false):=hn;have HW:Hid (Below w.heap.size w wr):=hb;clear hn hb;by_cases hlt:i < xs.length
  ·obtain ⟨b,off,rfl,hb,hat⟩:=HR.out.at hlt;have hA:=(hat.below hb HW.out) i hlt;have HT:Hid ((xs.take (i+1)).any f=f xs[i]):=by
    unfold Hid;rw [List.take_succ_eq_append_getElem hlt,List.any_append,HN.out]; simp
   have HX:Hid (f xs[i]=true→findI f xs=i):=fun h=>findI_at f xs i hlt HN.out h
   have HC2:Hid _:=HC.out wr HW.out xs[i] (List.getElem_mem hlt);generalize xs[i]=q at *;have c0:wr.cell? ⟨b,off+i*5,none⟩=some (iV q.proto):=hA 0 _ rfl;have c1:wr.cell? ⟨b,off+i*5+1,none⟩=some (.string q.inn):=hA 1 _ rfl;have c2:wr.cell? ⟨b,off+i*5+2,none⟩=some (iV q.inPort):=hA 2 _ rfl;have c3:wr.cell? ⟨b,off+i*5+3,none⟩=some (.string q.out):=hA 3 _ rfl;have c4:wr.cell? ⟨b,off+i*5+4,none⟩=some (iV q.outPort):=hA 4 _ rfl;clear hA hat;obtain ⟨cl,hcl⟩ : ∃ y,y=f q:=⟨_,rfl⟩;rw [← hcl] at HT HX HC2;clear hcl;unfold bdC at HC2;go_wp2_with fail
   refine Calls.mono HC2.out ?_;rintro e w1 ⟨rfl,b1⟩;have HW1:Hid _:=HW.out.trans (b1.mono HW.out.size);clear b1 c0 c1 c2 c3 c4
   cases cl with
   | true =>
    have HF:Hid ((i:Int)=ans):=by unfold Hid; rw [HA.out,HX.out rfl]
    go_wp2_with fail
    go_ret;exact ⟨ret_int HF.out,HW1.out⟩
   | false =>
    go_wp2_with fail
    go_roundw
    case rel=>exact ⟨i+1,by omega,by go_num,HT.out,HW1.out⟩
    case measure=>simp [intOf]; omega
  ·have hie:i=xs.length:=by omega
   have HF:Hid ((-1:Int)=ans):=by
    have:=HN.out;rw [hie,List.take_of_length_le (Nat.le_refl _)] at this;unfold Hid; rw [HA.out,findI_no f xs this]
   go_wp2_with fail
   go_ret;exact ⟨ret_int HF.out,HW.out⟩
theorem idxSession_any (f:Ss→Bool) (F:Nat) (hG:Enters F) (caps:Array Value) (xs:List Ss) (a:Option Addr) (cap:Nat) (w:World) (hl:xs.length≤1048576) (hr:SlIs ssL 7 w a xs) (hC:∀ W,Below w.heap.size w W→∀ q,q∈xs→Calls Tryz.prog F (#[ssC q]++caps) W fun e w'=>e=.returned (.bool (f q))∧Below W.heap.size W w') :
  Cb 142 #[.slice a xs.length cap,.func (.func F) #[] caps] w (iV (findI f xs)):=by
 have HR:Hid (SlIs ssL 7 w a xs):=hr;have HC:Hid (∀ W,Below w.heap.size w W→∀ q,q∈xs→Calls Tryz.prog F (#[ssC q]++caps) W fun e w'=>e=.returned (.bool (f q))∧Below W.heap.size W w'):=hC;obtain ⟨ans,hans⟩ : ∃ y,y=findI f xs:=⟨_,rfl⟩;rw [← hans];have HA:Hid (ans=findI f xs):=hans;clear hr hC hans;unfold Enters at hG;go_enter Tryz.func142,Tryz.ntmps142
 go_wp2_with fail
 go_loopw [8] (fun iv wr=>∃ i:Nat,i≤xs.length∧iv=iV i∧(xs.take i).any f=false∧Below w.heap.size w wr) (fun iv _=>xs.length-(intOf iv).toNat)
 case atStart=>exact ⟨0,Nat.zero_le _,rfl,by simp,Below.refl _ _⟩
 case round =>
  obtain ⟨i,hil,rfl,hn,hb⟩:=hrel;have HN:Hid ((xs.take i).any f=false):=hn;have HW:Hid (Below w.heap.size w wr):=hb;clear hn hb;by_cases hlt:i < xs.length
  ·obtain ⟨b,off,rfl,hb,hat⟩:=HR.out.at hlt;have hA:=(hat.below hb HW.out) i hlt;have HT:Hid ((xs.take (i+1)).any f=f xs[i]):=by
    unfold Hid;rw [List.take_succ_eq_append_getElem hlt,List.any_append,HN.out]; simp
   have HX:Hid (f xs[i]=true→findI f xs=i):=fun h=>findI_at f xs i hlt HN.out h
   have HC2:Hid _:=HC.out wr HW.out xs[i] (List.getElem_mem hlt);generalize xs[i]=q at *;have c0:wr.cell? ⟨b,off+i*7,none⟩=some (iV q.proto):=hA 0 _ rfl;have c1:wr.cell? ⟨b,off+i*7+1,none⟩=some (.string q.inn):=hA 1 _ rfl;have c2:wr.cell? ⟨b,off+i*7+2,none⟩=some (iV q.inPort):=hA 2 _ rfl;have c3:wr.cell? ⟨b,off+i*7+3,none⟩=some (.string q.peer):=hA 3 _ rfl;have c4:wr.cell? ⟨b,off+i*7+4,none⟩=some (iV q.peerPort):=hA 4 _ rfl;have c5:wr.cell? ⟨b,off+i*7+5,none⟩=some (iV q.state):=hA 5 _ rfl;have c6:wr.cell? ⟨b,off+i*7+6,none⟩=some (iV q.untl):=hA 6 _ rfl;clear hA hat;obtain ⟨cl,hcl⟩ : ∃ y,y=f q:=⟨_,rfl⟩;rw [← hcl] at HT HX HC2;clear hcl;unfold ssC at HC2;go_wp2_with fail
   refine Calls.mono HC2.out ?_;rintro e w1 ⟨rfl,b1⟩;have HW1:Hid _:=HW.out.trans (b1.mono HW.out.size);clear b1 c0 c1 c2 c3 c4 c5 c6
   cases cl with
   | true =>
    have HF:Hid ((i:Int)=ans):=by unfold Hid; rw [HA.out,HX.out rfl]
    go_wp2_with fail
    go_ret;exact ⟨ret_int HF.out,HW1.out⟩
   | false =>
    go_wp2_with fail
    go_roundw
    case rel=>exact ⟨i+1,by omega,by go_num,HT.out,HW1.out⟩
    case measure=>simp [intOf]; omega
  ·have hie:i=xs.length:=by omega
   have HF:Hid ((-1:Int)=ans):=by
    have:=HN.out;rw [hie,List.take_of_length_le (Nat.le_refl _)] at this;unfold Hid; rw [HA.out,findI_no f xs this]
   go_wp2_with fail
   go_ret;exact ⟨ret_int HF.out,HW.out⟩
theorem sessAt1_any (q:Ss) (p:Sk) (B1:Nat) (w:World) (hk0:HoldsL w B1 (skL p)) :
  Cb 143 #[ssC q,.pointer (some ⟨B1,0,none⟩)] w (.bool (sameSk (sessK q) p)):=by
 have HF:Hid (∀ W,Cb 139 #[.agg (SsV q).toArray] W (.agg (BdR q.proto q.inn q.inPort q.peer q.peerPort).toArray)):=fun W=>sessKey_any q W
 have HE:Hid (∀ W,(binOp .eql 160 (.agg (BdR q.proto q.inn q.inPort q.peer q.peerPort).toArray) (.agg (BdR p.host.proto p.host.addr p.host.port p.peer p.peerPort).toArray)).run Tryz.prog W=.ok (.bool (sameSk (sessK q) p)) W):=fun W=>eqSk_bin (sessK q) p W
 generalize sameSk (sessK q) p=ans at *;have HZ:Hid (Below w.heap.size w (w.alloc (.cells (SsV q).toArray 103))):=bR.alloc (Nat.le_refl _) _;have HQ:Hid (HoldsL (w.alloc (.cells (SsV q).toArray 103)) w.heap.size (ssL q)):=HoldsL.new w (ssL q) 103;have HK0:Hid (HoldsL (w.alloc (.cells (SsV q).toArray 103)) B1 (skL p)):=hk0.alloc _;clear hk0;unfold ssC;go_enter Tryz.func143,Tryz.ntmps143
 go_upto_region 1 with fail
 generalize (w.alloc (.cells (SsV q).toArray 103))=W at *;go_cut [3] (fun v wx=>v=.bool ans∧Below w.heap.size w wx)
 case first =>
  rename_i J K2 hJ hK2;have HCP:Hid (∀ wy,Below W.drew.heap.size W.drew wy→HoldsL wy w.heap.size (ssL q)∧HoldsL wy B1 (skL p)):=fun wy hy=>⟨HQ.out.drew.kept (by simp [ssL]) hy,HK0.out.drew.kept (by simp [enL,skL]) hy⟩
  refine wp_region_growH [4,5,6,7,3] (by kernel_rfl) (by kernel_rfl) ?_;apply GCh.v0
  ·rfl
  ·intro K' a wy ho hd hb hK kz;have o2:=ho 2 (by decide);simp [slot] at o2;clear hd ho;obtain ⟨hq,h0⟩:=HCP.out wy hb;obtain ⟨c0,c1,c2,c3,c4,c5,c6⟩:=hq.c7;obtain ⟨k00,k01,k02,k03,k04⟩:=h0.c5;go_simp;try go_bits
   exact kz _ rfl
  apply GCh.v1
  ·rfl
  ·intro K' a wy ho hd hb hK kz;have q0:=hd ⟨0,.data⟩ (by simp) rfl;simp [rAt,IsV,slot] at q0;clear hd ho;go_simp;refine (HF.out wy).mono ?_;rintro e wz ⟨rfl,hz⟩;exact hK _ _ rfl hz
  apply GCh.v2
  ·rfl
  ·intro K' a wy ho hd hb hK kz;have o1:=ho 1 (by decide);simp [slot] at o1;clear hd ho;obtain ⟨hq,h0⟩:=HCP.out wy hb;obtain ⟨c0,c1,c2,c3,c4,c5,c6⟩:=hq.c7;obtain ⟨k00,k01,k02,k03,k04⟩:=h0.c5;go_simp;try go_bits
   exact kz _ rfl
  apply GCh.v3
  ·rfl
  ·intro K' a wy ho hd hb hK kz;have q1:=hd ⟨1,.data⟩ (by simp) rfl;have q2:=hd ⟨2,.data⟩ (by simp) rfl;simp [rAt,IsV,slot] at q1 q2;clear hd ho;refine wp_bin_val .eql 160 160 (.tmp 5) (.tmp 6) rfl (by simp [Act.eval,slot,q1]) (by simp [Act.eval,slot,q2]) (run_eqGuard_agg _ _ _ _ _ _ _ (by kernel_rfl)) (HE.out wy) ?_;exact kz _ rfl
  apply GCh.v4
  ·rfl
  ·intro K' a wy ho hd hb hK kz;have q3:=hd ⟨3,.data⟩ (by simp) rfl;simp [rAt,IsV,slot] at q3;clear hd ho;go_simp;try go_bits
   exact kz _ rfl
  intro X wz hR hz;obtain ⟨x0,x1,x2,x3,x4,-⟩:=hR;simp only [IsV] at x0 x1 x2 x3 x4;simp only [putsFrom,x0,x1,x2,x3,x4];clear x0 x1 x2 x3 x4;go_simp;try go_bits
  refine hK2 _ _ (hJ _ _ ?_);(repeat apply Exists.intro)
  refine ⟨⟨rfl,HZ.out.drew.trans (hz.mono HZ.out.size)⟩,rfl⟩
 case rest =>
  obtain ⟨rfl,hb⟩:=hcut;have HB:Hid (Below w.heap.size w wc):=hb;clear hb;go_wp2_with fail
  go_ret;exact ⟨rfl,HB.out⟩
theorem hasSess1_any (q:Ss) (p:En) (B1:Nat) (w:World) (hk0:HoldsL w B1 (enL p)) :
  Cb 182 #[ssC q,.pointer (some ⟨B1,0,none⟩)] w (.bool (sameEn (sessE q) p)):=by
 have HF:Hid (∀ W,Cb 139 #[.agg (SsV q).toArray] W (.agg (BdR q.proto q.inn q.inPort q.peer q.peerPort).toArray)):=fun W=>sessKey_any q W
 have HE:Hid (∀ W,(binOp .eql 155 (.agg (EnV q.proto q.inn q.inPort).toArray) (.agg (EnV p.proto p.addr p.port).toArray)).run Tryz.prog W=.ok (.bool (sameEn (sessE q) p)) W):=fun W=>eqEn_bin (sessE q) p W
 have HFL:Hid (∀ W,Sem.run Tryz.prog (Instr.field 160 (.agg (BdR q.proto q.inn q.inPort q.peer q.peerPort).toArray) 0) W=.ok (.agg (EnV q.proto q.inn q.inPort).toArray) W):=fun W=>by kernel_rfl
 generalize sameEn (sessE q) p=ans at *;have HZ:Hid (Below w.heap.size w (w.alloc (.cells (SsV q).toArray 103))):=bR.alloc (Nat.le_refl _) _;have HQ:Hid (HoldsL (w.alloc (.cells (SsV q).toArray 103)) w.heap.size (ssL q)):=HoldsL.new w (ssL q) 103;have HK0:Hid (HoldsL (w.alloc (.cells (SsV q).toArray 103)) B1 (enL p)):=hk0.alloc _;clear hk0;unfold ssC;go_enter Tryz.func182,Tryz.ntmps182
 go_upto_region 1 with fail
 generalize (w.alloc (.cells (SsV q).toArray 103))=W at *;go_cut [3] (fun v wx=>v=.bool ans∧Below w.heap.size w wx)
 case first =>
  rename_i J K2 hJ hK2;have HCP:Hid (∀ wy,Below W.drew.heap.size W.drew wy→HoldsL wy w.heap.size (ssL q)∧HoldsL wy B1 (enL p)):=fun wy hy=>⟨HQ.out.drew.kept (by simp [ssL]) hy,HK0.out.drew.kept (by simp [enL,skL]) hy⟩
  refine wp_region_growH [4,5,6,7,8,3] (by kernel_rfl) (by kernel_rfl) ?_;apply GCh.v0
  ·rfl
  ·intro K' a wy ho hd hb hK kz;have o2:=ho 2 (by decide);simp [slot] at o2;clear hd ho;obtain ⟨hq,h0⟩:=HCP.out wy hb;obtain ⟨c0,c1,c2,c3,c4,c5,c6⟩:=hq.c7;obtain ⟨k00,k01,k02⟩:=h0.c3;go_simp;try go_bits
   exact kz _ rfl
  apply GCh.v1
  ·rfl
  ·intro K' a wy ho hd hb hK kz;have q0:=hd ⟨0,.data⟩ (by simp) rfl;simp [rAt,IsV,slot] at q0;clear hd ho;go_simp;refine (HF.out wy).mono ?_;rintro e wz ⟨rfl,hz⟩;exact hK _ _ rfl hz
  apply GCh.v2
  ·rfl
  ·intro K' a wy ho hd hb hK kz;have q1:=hd ⟨1,.data⟩ (by simp) rfl;simp [rAt,IsV,slot] at q1;clear hd ho;have hfl:=HFL.out wy;go_simp;try go_bits
   exact kz _ rfl
  apply GCh.v3
  ·rfl
  ·intro K' a wy ho hd hb hK kz;have o1:=ho 1 (by decide);simp [slot] at o1;clear hd ho;obtain ⟨hq,h0⟩:=HCP.out wy hb;obtain ⟨c0,c1,c2,c3,c4,c5,c6⟩:=hq.c7;obtain ⟨k00,k01,k02⟩:=h0.c3;go_simp;try go_bits
   exact kz _ rfl
  apply GCh.v4
  ·rfl
  ·intro K' a wy ho hd hb hK kz;have q2:=hd ⟨2,.data⟩ (by simp) rfl;have q3:=hd ⟨3,.data⟩ (by simp) rfl;simp [rAt,IsV,slot] at q2 q3;clear hd ho;refine wp_bin_val .eql 155 155 (.tmp 6) (.tmp 7) rfl (by simp [Act.eval,slot,q2]) (by simp [Act.eval,slot,q3]) (run_eqGuard_agg _ _ _ _ _ _ _ (by kernel_rfl)) (HE.out wy) ?_;exact kz _ rfl
  apply GCh.v5
  ·rfl
  ·intro K' a wy ho hd hb hK kz;have q4:=hd ⟨4,.data⟩ (by simp) rfl;simp [rAt,IsV,slot] at q4;clear hd ho;go_simp;try go_bits
   exact kz _ rfl
  intro X wz hR hz;obtain ⟨x0,x1,x2,x3,x4,x5,-⟩:=hR;simp only [IsV] at x0 x1 x2 x3 x4 x5;simp only [putsFrom,x0,x1,x2,x3,x4,x5];clear x0 x1 x2 x3 x4 x5;go_simp;try go_bits
  refine hK2 _ _ (hJ _ _ ?_);(repeat apply Exists.intro)
  refine ⟨⟨rfl,HZ.out.drew.trans (hz.mono HZ.out.size)⟩,rfl⟩
 case rest =>
  obtain ⟨rfl,hb⟩:=hcut;have HB:Hid (Below w.heap.size w wc):=hb;clear hb;go_wp2_with fail
  go_ret;exact ⟨rfl,HB.out⟩
theorem cloneS_any (s:ByteArray) (w:World) (h:s.size≤1048576) :
  Cb 154 #[.string s] w (.string s):=by
 have HC:Hid (∀ W,Cb 175 #[.string s] W (.string s)):=fun W=>Tryz.stringslite_Clone s W (by omega)
 go_enter Tryz.func154,Tryz.ntmps154
 go_wp2_with fail
 refine (HC.out _).mono ?_;rintro e w1 ⟨rfl,b1⟩;go_wp2_with fail
 go_ret;exact ⟨rfl,b1⟩
theorem copyBind_any (p:Bd) (w:World) (h1:p.inn.size≤1048576) (h2:p.out.size≤1048576) :
  Cb 113 #[bdC p] w (bdC p):=by
 have H1:Hid (∀ W,Cb 154 #[.string p.inn] W (.string p.inn)):=fun W=>cloneS_any _ W h1
 have H2:Hid (∀ W,Cb 154 #[.string p.out] W (.string p.out)):=fun W=>cloneS_any _ W h2
 have hun:undef=Value.tuple #[]:=rfl;clear h1 h2;have HP:Hid (HoldsL ((aW w (BdV p) 94).alloc (.cells (BdR 0 ⟨#[]⟩ 0 ⟨#[]⟩ 0).toArray 94)) w.heap.size (bdL p)):=(HoldsL.new w (bdL p) _).alloc _;have HO:Hid (HoldsL ((aW w (BdV p) 94).alloc (.cells (BdR 0 ⟨#[]⟩ 0 ⟨#[]⟩ 0).toArray 94)) (w.heap.size+1) (BdR 0 ⟨#[]⟩ 0 ⟨#[]⟩ 0)):=by
  have h:=HoldsL.new (w.alloc (.cells (BdV p).toArray 94)) (BdR 0 ⟨#[]⟩ 0 ⟨#[]⟩ 0) 94;rwa [World.size_alloc] at h
 have HZ:Hid (Below w.heap.size w ((aW w (BdV p) 94).alloc (.cells (BdR 0 ⟨#[]⟩ 0 ⟨#[]⟩ 0).toArray 94))):=(bR.alloc (Nat.le_refl _) _).alloc (by simp) _;unfold bdC;go_enter Tryz.func113,Tryz.ntmps113
 go_upto_region 1 with fail
 generalize ((aW w (BdV p) 94).alloc (.cells (BdR 0 ⟨#[]⟩ 0 ⟨#[]⟩ 0).toArray 94))=W at *;go_cut [3] (fun v wx=>HoldsL wx w.heap.size (bdL p)∧HoldsL wx (w.heap.size+1) (BdR 0 ⟨#[]⟩ 0 ⟨#[]⟩ 0)∧Below w.heap.size w wx)
 case first =>
  rename_i J K2 hJ hK2;clear hun;have HCP:Hid (∀ wy,Below W.drew.heap.size W.drew wy→HoldsL wy w.heap.size (bdL p)∧HoldsL wy (w.heap.size+1) (BdR 0 ⟨#[]⟩ 0 ⟨#[]⟩ 0)):=fun wy hy=>⟨HP.out.drew.kept (by simp [bdL]) hy,HO.out.drew.kept (by simp) hy⟩
  refine wp_region_growV [3,4,5,6,7,8,9] (by kernel_rfl) (by kernel_rfl) ?_;apply GChV.v0
  ·rfl
  ·intro K' a wy ho hd hb hK kz;have o1:=ho 1 (by decide);simp [slot] at o1;clear hd ho;go_simp;try go_bits
   exact kz _ rfl
  apply GChV.v1
  ·rfl
  ·intro K' a wy ho hd hb hK kz;have q0:=hd ⟨0,.data⟩ (by simp) rfl;simp [rAt,IsV,slot] at q0;clear hd ho;have hld:=(HCP.out wy hb).1;obtain ⟨k0,k1,k2,k3,k4⟩:=hld.c5;go_simp;try go_bits
   exact kz _ rfl
  apply GChV.v2
  ·rfl
  ·intro K' a wy ho hd hb hK kz;have q1:=hd ⟨1,.data⟩ (by simp) rfl;simp [rAt,IsV,slot] at q1;clear hd ho;go_simp;refine (H1.out wy).mono ?_;rintro e wz ⟨rfl,hz⟩;exact hK _ _ rfl hz
  apply GChV.v3
  ·rfl
  ·intro K' a wy ho hd hb hK kz;have o1:=ho 1 (by decide);simp [slot] at o1;clear hd ho;go_simp;try go_bits
   exact kz _ rfl
  apply GChV.v4
  ·rfl
  ·intro K' a wy ho hd hb hK kz;have q3:=hd ⟨3,.data⟩ (by simp) rfl;simp [rAt,IsV,slot] at q3;clear hd ho;have hld:=(HCP.out wy hb).1;obtain ⟨k0,k1,k2,k3,k4⟩:=hld.c5;go_simp;try go_bits
   exact kz _ rfl
  apply GChV.v5
  ·rfl
  ·intro K' a wy ho hd hb hK kz;have q4:=hd ⟨4,.data⟩ (by simp) rfl;simp [rAt,IsV,slot] at q4;clear hd ho;go_simp;refine (H2.out wy).mono ?_;rintro e wz ⟨rfl,hz⟩;exact hK _ _ rfl hz
  apply GChV.v6
  ·rfl
  ·intro K' a wy ho hd hb hK kz;have o1:=ho 1 (by decide);simp [slot] at o1;clear hd ho;go_simp;try go_bits
   exact kz _ rfl
  intro X wz hR hz;obtain ⟨x0,x1,x2,x3,x4,x5,x6,-⟩:=hR;simp only [IsV] at x0 x1 x2 x3 x4 x5 x6;simp only [putsFrom,x0,x1,x2,x3,x4,x5,x6];clear x0 x1 x2 x3 x4 x5 x6;obtain ⟨hh,hz0⟩:=HCP.out wz hz;have HB:Hid (Below w.heap.size w wz):=HZ.out.drew.trans (hz.mono HZ.out.size);have f1:wz.frozen? ⟨w.heap.size,1,none⟩=false:=hh.free (j:=1) (by simp [bdL]);have f3:wz.frozen? ⟨w.heap.size,3,none⟩=false:=hh.free (j:=3) (by simp [bdL]);obtain ⟨k0,k1,k2,k3,k4⟩:=hh.c5;have HH:Hid (HoldsL wz w.heap.size (bdL p)):=hh;have HH0:Hid (HoldsL wz (w.heap.size+1) (BdR 0 ⟨#[]⟩ 0 ⟨#[]⟩ 0)):=hz0;clear hh hz0;intro K10 hK10;go_simp;refine hK10 _ _ ?_;intro K11 hK11;go_simp;refine hK11 _ _ ?_;intro K12 hK12;go_simp;refine hK12 _ _ ?_;show Exit.then _ _ _ _ _;refine hK2 _ _ (hJ _ _ ?_);(repeat apply Exists.intro)
  refine ⟨⟨(HH.out.set 1 _).set 3 _,(HH0.out.setOther (by omega) _).setOther (by omega) _,?_⟩,rfl⟩;exact (HB.out.setCell (p:=⟨w.heap.size,1,none⟩) (Nat.le_refl _) _).setCell (p:=⟨w.heap.size,3,none⟩) (Nat.le_refl _) _
 case rest =>
  obtain ⟨hh,h0,hb⟩:=hcut;have HB:Hid (Below w.heap.size w wc):=hb;obtain ⟨k0,k1,k2,k3,k4⟩:=hh.c5;obtain ⟨y0,y1,y2,y3,y4⟩:=h0.f5;obtain ⟨z0,z1,z2,z3,z4⟩:=h0.c5;clear hh h0 hb;go_wp2_with fail
  refine bodyPost_ret (v:=.agg (BdV p).toArray) (by simp [results,Tryz.results113,go_sem,z0,z1,z2,z3,z4]) rfl ⟨rfl,?_⟩;have hsz:w.heap.size≤w.heap.size+1:=Nat.le_succ _;exact (((((HB.out.setCell (p:=⟨w.heap.size+1,0,none⟩) hsz _).setCell (p:=⟨w.heap.size+1,1,none⟩) hsz _).setCell (p:=⟨w.heap.size+1,2,none⟩) hsz _).setCell (p:=⟨w.heap.size+1,3,none⟩) hsz _).setCell (p:=⟨w.heap.size+1,4,none⟩) hsz _)
theorem copySession_any (p:Ss) (w:World) (h1:p.inn.size≤1048576) (h2:p.peer.size≤1048576) :
  Cb 147 #[ssC p] w (ssC p):=by
 have H1:Hid (∀ W,Cb 154 #[.string p.inn] W (.string p.inn)):=fun W=>cloneS_any _ W h1
 have H2:Hid (∀ W,Cb 154 #[.string p.peer] W (.string p.peer)):=fun W=>cloneS_any _ W h2
 have hun:undef=Value.tuple #[]:=rfl;clear h1 h2;have HP:Hid (HoldsL ((aW w (SsV p) 103).alloc (.cells (SsR 0 ⟨#[]⟩ 0 ⟨#[]⟩ 0 0 0).toArray 103)) w.heap.size (ssL p)):=(HoldsL.new w (ssL p) _).alloc _;have HO:Hid (HoldsL ((aW w (SsV p) 103).alloc (.cells (SsR 0 ⟨#[]⟩ 0 ⟨#[]⟩ 0 0 0).toArray 103)) (w.heap.size+1) (SsR 0 ⟨#[]⟩ 0 ⟨#[]⟩ 0 0 0)):=by
  have h:=HoldsL.new (w.alloc (.cells (SsV p).toArray 103)) (SsR 0 ⟨#[]⟩ 0 ⟨#[]⟩ 0 0 0) 103;rwa [World.size_alloc] at h
 have HZ:Hid (Below w.heap.size w ((aW w (SsV p) 103).alloc (.cells (SsR 0 ⟨#[]⟩ 0 ⟨#[]⟩ 0 0 0).toArray 103))):=(bR.alloc (Nat.le_refl _) _).alloc (by simp) _;unfold ssC;go_enter Tryz.func147,Tryz.ntmps147
 go_upto_region 1 with fail
 generalize ((aW w (SsV p) 103).alloc (.cells (SsR 0 ⟨#[]⟩ 0 ⟨#[]⟩ 0 0 0).toArray 103))=W at *;go_cut [3] (fun v wx=>HoldsL wx w.heap.size (ssL p)∧HoldsL wx (w.heap.size+1) (SsR 0 ⟨#[]⟩ 0 ⟨#[]⟩ 0 0 0)∧Below w.heap.size w wx)
 case first =>
  rename_i J K2 hJ hK2;clear hun;have HCP:Hid (∀ wy,Below W.drew.heap.size W.drew wy→HoldsL wy w.heap.size (ssL p)∧HoldsL wy (w.heap.size+1) (SsR 0 ⟨#[]⟩ 0 ⟨#[]⟩ 0 0 0)):=fun wy hy=>⟨HP.out.drew.kept (by simp [ssL]) hy,HO.out.drew.kept (by simp) hy⟩
  refine wp_region_growV [3,4,5,6,7,8,9] (by kernel_rfl) (by kernel_rfl) ?_;apply GChV.v0
  ·rfl
  ·intro K' a wy ho hd hb hK kz;have o1:=ho 1 (by decide);simp [slot] at o1;clear hd ho;go_simp;try go_bits
   exact kz _ rfl
  apply GChV.v1
  ·rfl
  ·intro K' a wy ho hd hb hK kz;have q0:=hd ⟨0,.data⟩ (by simp) rfl;simp [rAt,IsV,slot] at q0;clear hd ho;have hld:=(HCP.out wy hb).1;obtain ⟨k0,k1,k2,k3,k4,k5,k6⟩:=hld.c7;go_simp;try go_bits
   exact kz _ rfl
  apply GChV.v2
  ·rfl
  ·intro K' a wy ho hd hb hK kz;have q1:=hd ⟨1,.data⟩ (by simp) rfl;simp [rAt,IsV,slot] at q1;clear hd ho;go_simp;refine (H1.out wy).mono ?_;rintro e wz ⟨rfl,hz⟩;exact hK _ _ rfl hz
  apply GChV.v3
  ·rfl
  ·intro K' a wy ho hd hb hK kz;have o1:=ho 1 (by decide);simp [slot] at o1;clear hd ho;go_simp;try go_bits
   exact kz _ rfl
  apply GChV.v4
  ·rfl
  ·intro K' a wy ho hd hb hK kz;have q3:=hd ⟨3,.data⟩ (by simp) rfl;simp [rAt,IsV,slot] at q3;clear hd ho;have hld:=(HCP.out wy hb).1;obtain ⟨k0,k1,k2,k3,k4,k5,k6⟩:=hld.c7;go_simp;try go_bits
   exact kz _ rfl
  apply GChV.v5
  ·rfl
  ·intro K' a wy ho hd hb hK kz;have q4:=hd ⟨4,.data⟩ (by simp) rfl;simp [rAt,IsV,slot] at q4;clear hd ho;go_simp;refine (H2.out wy).mono ?_;rintro e wz ⟨rfl,hz⟩;exact hK _ _ rfl hz
  apply GChV.v6
  ·rfl
  ·intro K' a wy ho hd hb hK kz;have o1:=ho 1 (by decide);simp [slot] at o1;clear hd ho;go_simp;try go_bits
   exact kz _ rfl
  intro X wz hR hz;obtain ⟨x0,x1,x2,x3,x4,x5,x6,-⟩:=hR;simp only [IsV] at x0 x1 x2 x3 x4 x5 x6;simp only [putsFrom,x0,x1,x2,x3,x4,x5,x6];clear x0 x1 x2 x3 x4 x5 x6;obtain ⟨hh,hz0⟩:=HCP.out wz hz;have HB:Hid (Below w.heap.size w wz):=HZ.out.drew.trans (hz.mono HZ.out.size);have f1:wz.frozen? ⟨w.heap.size,1,none⟩=false:=hh.free (j:=1) (by simp [ssL]);have f3:wz.frozen? ⟨w.heap.size,3,none⟩=false:=hh.free (j:=3) (by simp [ssL]);obtain ⟨k0,k1,k2,k3,k4,k5,k6⟩:=hh.c7;have HH:Hid (HoldsL wz w.heap.size (ssL p)):=hh;have HH0:Hid (HoldsL wz (w.heap.size+1) (SsR 0 ⟨#[]⟩ 0 ⟨#[]⟩ 0 0 0)):=hz0;clear hh hz0;intro K10 hK10;go_simp;refine hK10 _ _ ?_;intro K11 hK11;go_simp;refine hK11 _ _ ?_;intro K12 hK12;go_simp;refine hK12 _ _ ?_;show Exit.then _ _ _ _ _;refine hK2 _ _ (hJ _ _ ?_);(repeat apply Exists.intro)
  refine ⟨⟨(HH.out.set 1 _).set 3 _,(HH0.out.setOther (by omega) _).setOther (by omega) _,?_⟩,rfl⟩;exact (HB.out.setCell (p:=⟨w.heap.size,1,none⟩) (Nat.le_refl _) _).setCell (p:=⟨w.heap.size,3,none⟩) (Nat.le_refl _) _
 case rest =>
  obtain ⟨hh,h0,hb⟩:=hcut;have HB:Hid (Below w.heap.size w wc):=hb;obtain ⟨k0,k1,k2,k3,k4,k5,k6⟩:=hh.c7;obtain ⟨y0,y1,y2,y3,y4,y5,y6⟩:=h0.f7;obtain ⟨z0,z1,z2,z3,z4,z5,z6⟩:=h0.c7;clear hh h0 hb;go_wp2_with fail
  refine bodyPost_ret (v:=.agg (SsV p).toArray) (by simp [results,Tryz.results147,go_sem,z0,z1,z2,z3,z4,z5,z6]) rfl ⟨rfl,?_⟩;have hsz:w.heap.size≤w.heap.size+1:=Nat.le_succ _;exact (((((((HB.out.setCell (p:=⟨w.heap.size+1,0,none⟩) hsz _).setCell (p:=⟨w.heap.size+1,1,none⟩) hsz _).setCell (p:=⟨w.heap.size+1,2,none⟩) hsz _).setCell (p:=⟨w.heap.size+1,3,none⟩) hsz _).setCell (p:=⟨w.heap.size+1,4,none⟩) hsz _).setCell (p:=⟨w.heap.size+1,5,none⟩) hsz _).setCell (p:=⟨w.heap.size+1,6,none⟩) hsz _)
end Go.Proofs.YtcckaeppiamebaaGreatDoor
