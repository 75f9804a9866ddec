import Derived.Test.YtdkepkaflielhaaGreatDoorSPort
import Derived.Laws.StructEq
set_option linter.unusedVariables false
set_option linter.unusedSimpArgs false
set_option maxRecDepth 100000
set_option maxHeartbeats 8000000
namespace Go.Proofs.YtdkepkaflielhaaGreatDoor
open Go.RowKit Go.PlainAid Go.ChangeShapes Go.WideShapes
section
variable {α:Type} {en:α→List Value} {n:Nat} {w W:World}
end
structure BbMk (base:Nat) (w:World) (a b:Option Addr) (k nb ns:Nat):Prop where
 bd:MkOwn 5 bindM base w a k nb
 ss:MkOwn 7 sessionM base w b (k+5*nb) ns
structure Bo where
 bib:Bb
 bind:Bd
 code:Int
def boL (a b:Option Addr) (ca cb:Nat) (o:Bo):List Value:=[.slice a o.bib.binds.length ca,.slice b o.bib.sess.length cb,iV o.bind.proto,.string o.bind.inn,iV o.bind.inPort,.string o.bind.out,iV o.bind.outPort,iV o.code]
def boC (a b:Option Addr) (ca cb:Nat) (o:Bo):Value:=.agg #[.slice a o.bib.binds.length ca,.slice b o.bib.sess.length cb,iV o.bind.proto,.string o.bind.inn,iV o.bind.inPort,.string o.bind.out,iV o.bind.outPort,iV o.code]
def BoRet (base:Nat) (o:Bo) (e:Ending) (w:World):Prop:=∃ a b ca cb,e=.returned (boC a b ca cb o)∧BbOwn base w a b o.bib
abbrev BoV (a : Option Addr) (b : Nat) (c : Option Addr) (d : Nat) (o : Bo) : List Value := [.slice a o.bib.binds.length b,.slice c o.bib.sess.length d,iV o.bind.proto,.string o.bind.inn,iV o.bind.inPort,.string o.bind.out,iV o.bind.outPort,iV o.code]
def bbZ:Bb:=⟨[],[]⟩
structure Fl where
 proto:Int
 src:ByteArray
 dst:ByteArray
 sp:Int
 dp:Int
def fwC (f:Fl):Value:=.agg (FlR f.proto f.src f.dst f.sp f.dp).toArray
def fwCO (f:Fl) (code:Int):Value:=.agg #[iV f.proto,.string f.src,.string f.dst,iV f.sp,iV f.dp,iV code]
def flZero:Fl:=⟨0,⟨#[]⟩,⟨#[]⟩,0,0⟩
def pairOk (s d:ByteArray):Bool:=addrOk s&&decide (s.size=d.size)
def echoP (p:Int):Bool:=decide (p=1)||decide (p=58)
def protoOk (p:Int) (n:Nat):Bool:=decide (p=6)||decide (p=17)||(decide (p=1)&&decide (n=4))||(decide (p=58)&&decide (n=16))
def flowOk (f:Fl):Bool:=pairOk f.src f.dst&&protoOk f.proto f.src.size&&isW f.sp&&isW f.dp&&(!echoP f.proto||decide (f.sp=f.dp))
theorem pairOk_parts {s d:ByteArray} (h:pairOk s d=true):(s.size=4∨s.size=16)∧d.size=s.size:=by
 unfold pairOk at h;rw [Bool.and_eq_true,decide_eq_true_iff] at h;exact ⟨addrOk_size h.1,h.2.symm⟩
def shortP (p:Int) (t:ByteArray):Bool:=(decide (p=6)&&(decide (t.size < 20)||decide (bt t 12 / 16 < 5)||decide ((t.size:Int) < 4*(bt t 12 / 16))))||decide (t.size < 8)
def askP (p:Int):Int:=if p=58 then 128 else 8
def ansP (p:Int):Int:=if p=58 then 129 else 0
def ofCode (n:Nat) (p:Int) (t:ByteArray):Int :=
 if protoOk p n=false then 11
 else if shortP p t=true then 4
 else if echoP p=true then (if (bt t 0≠askP p∧bt t 0≠ansP p)∨bt t 1≠0 then 11 else 0)
 else 0
def ofFl (s d:ByteArray) (p:Int) (t:ByteArray):Fl :=
 if ofCode s.size p t=0 then (if echoP p=true then ⟨p,s,d,wordN (bt t) 4,wordN (bt t) 4⟩ else ⟨p,s,d,wordN (bt t) 0,wordN (bt t) 2⟩)
 else ⟨p,s,d,0,0⟩
def flowCode (s d:ByteArray) (p:Int) (t:ByteArray):Int :=
 if 20000 < t.size∨20000 < s.size∨20000 < d.size then 2 else if pairOk s d=false then 1 else ofCode s.size p t
def flowOfV (s d:ByteArray) (p:Int) (t:ByteArray):Fl:=if flowCode s d p t=0 then ofFl s d p t else flZero
def quadW (x y:Int):ByteArray:=⟨#[UInt8.ofNat x.toNat,0,0,UInt8.ofNat y.toNat]⟩
theorem quadW_size (x y:Int):(quadW x y).size=4:=rfl
def pseudoV (s d:ByteArray) (p:Int) (n:Nat):ByteArray :=
 if p=1∧s.size=4 then ⟨#[]⟩
 else if s.size=4 then s++d++pairV 0 p++twoV (n:Int)
 else s++d++twoV ((n:Int) / 65536)++twoV ((n:Int) % 65536)++quadW 0 p
theorem pseudoV_size (s d:ByteArray) (p:Int) (n:Nat) (hs:s.size≤16) (hd:d.size≤16):(pseudoV s d p n).size≤40:=by
 unfold pseudoV;split
 ·exact Nat.zero_le _
 ·split
  ·simp only [ByteArray.size_append,pairV_size,twoV_size]; omega
  ·simp only [ByteArray.size_append,twoV_size,quadW_size]; omega
def putV (t:ByteArray) (k:Nat) (u:ByteArray):ByteArray:=t.extract 0 k++u++t.extract (k+u.size) t.size
theorem putV_size {t u:ByteArray} {k:Nat} (h:k+u.size≤t.size):(putV t k u).size=t.size:=by
 unfold putV; simp only [ByteArray.size_append,ByteArray.size_extract]; omega
def checkP (p:Int):Nat:=if p=6 then 16 else if p=17 then 6 else 2
def partV (f:Fl) (t:ByteArray):ByteArray:=(if echoP f.proto=true then t.extract 0 2++t.extract 4 6 else t.extract 0 4)++pseudoV f.src f.dst f.proto t.size
def swapV (b:Int):Int:=if b=8 then 128 else if b=0 then 129 else if b=128 then 8 else 0
def firstV8 (f g:Fl) (t:ByteArray):Int:=if f.proto≠g.proto then swapV (bt t 0) else bt t 0
def oneV (x:Int):ByteArray:=⟨#[UInt8.ofNat x.toNat]⟩
def setOut (f g:Fl) (t:ByteArray):ByteArray :=
 if echoP f.proto=true then putV (putV t 0 (oneV (firstV8 f g t))) 4 (twoV g.sp) else putV t 0 (twoV g.sp++twoV g.dp)
def newCheck (f g:Fl) (t:ByteArray):Int :=
 let n:=65535-add1 (add1 (65535-wordN (bt t) (checkP f.proto)) (65535-sumV (partV f t))) (sumV (partV g (setOut f g t)))
 if n=0 then 65535 else n
def bareUdp (f:Fl) (t:ByteArray):Bool:=decide (f.proto=17)&&decide (wordN (bt t) (checkP f.proto)=0)&&decide (f.src.size=4)
def setIn (f g:Fl) (t:ByteArray):Bool:=flowOk f&&flowOk g&&(decide (f.proto=g.proto)||(echoP f.proto&&echoP g.proto))&&decide (ofCode f.src.size f.proto t=0)&&decide ((ofFl f.src f.dst f.proto t).sp=f.sp)&&decide ((ofFl f.src f.dst f.proto t).dp=f.dp)
def setCode (f g:Fl) (t:ByteArray):Int :=
 if 20000 < t.size then 2 else if setIn f g t=false then 1 else if bareUdp f t=true∧g.src.size=16 then 5 else 0
def setData (f g:Fl) (t:ByteArray):ByteArray :=
 if setCode f g t=0 then (if bareUdp f t=true then setOut f g t else putV (setOut f g t) (checkP f.proto) (twoV (newCheck f g t))) else ⟨#[]⟩
def dtCO (t:ByteArray) (code:Int):Value:=.agg #[.string t,iV code]
def tcpFlagsV (t:ByteArray):Int:=if 20000 < t.size∨t.size < 20 then 0 else bt t 13
abbrev FlV (p : Fl) : List Value := [iV p.proto,.string p.src,.string p.dst,iV p.sp,iV p.dp]
structure Pc where
 src:ByteArray
 dst:ByteArray
 proto:Int
 id:Int
 off:Int
 more:Bool
 data:ByteArray
 since:Int
instance:Inhabited Pc:=⟨⟨⟨#[]⟩,⟨#[]⟩,0,0,0,false,⟨#[]⟩,0⟩⟩
def isTime (n:Int):Bool:=isIn n 0 1000000000
theorem find_at {α:Type} {p:α→Bool} {xs:List α} {i:Nat} (h:i < xs.length) (hn:(xs.take i).find? p=none) (hp:p xs[i]=true):xs.find? p=some xs[i]:=by
 conv=>lhs; rw [← List.take_append_drop i xs]
 rw [List.find?_append,hn,List.drop_eq_getElem_cons h,List.find?_cons_of_pos hp];rfl
structure PcOut where
 pieces:List Pc
 data:ByteArray
 done:Bool
 code:Int
def touchOk (t:Tc):Bool:=protoB t.proto&&addrOk t.addr&&(t.inside||decide (t.addr.size=4))&&isW t.port&&decide (t.peer.size=4)&&isW t.peerPort&&isIn t.flags 0 255
def withP (c:Bd) (peer:ByteArray) (port:Int) (s:Ss):Bool:=hasS c s&&decide (s.peer.toList=peer.toList)&&decide (s.peerPort=port)
def withA (c:Bd) (peer:ByteArray) (s:Ss):Bool:=hasS c s&&decide (s.peer.toList=peer.toList)
def sessN (p:Pl) (t:Tc) (c:Bd) (st now:Int):Ss:=⟨t.proto,c.inn,c.inPort,t.peer,t.peerPort,st,now+trackLifeV p.lv t.proto st⟩
def newB (xs:List Bd) (c:Bd):List Bd:=if findI (ofIn c.proto c.inn c.inPort) xs < 0 then xs++[c] else xs
def boE (n:Int):Bo:=⟨bbZ,bdZ,n⟩
def newV (p:Pl) (x:Bb) (t:Tc) (c:Bd) (now:Int):Bo :=
 if trackNewV t.proto t.inside t.flags=0 then boE 6
 else if p.most≤(x.sess.length:Int) then boE 9
 else if (if t.inside=true then (lendV p x.binds t.proto t.addr t.port).2 else 0)≠0 then boE (if t.inside=true then (lendV p x.binds t.proto t.addr t.port).2 else 0)
 else ⟨⟨newB x.binds (if t.inside=true then (lendV p x.binds t.proto t.addr t.port).1 else c),x.sess++[sessN p t (if t.inside=true then (lendV p x.binds t.proto t.addr t.port).1 else c) (trackNewV t.proto t.inside t.flags) now]⟩,(if t.inside=true then (lendV p x.binds t.proto t.addr t.port).1 else c),0⟩
def nextS (p:Pl) (t:Tc) (now:Int) (s:Ss):Ss:={ s with state:=trackNextV t.proto s.state t.inside t.flags,untl:=now+trackLifeV p.lv t.proto (trackNextV t.proto s.state t.inside t.flags) }
def setN (xs:List Ss) (i:Nat) (f:Ss→Ss):List Ss:=match xs[i]? with | some s=>xs.set i (f s) | none=>xs
def goneB (p:Pl) (x:Bb) (t:Tc) (c:Bd):Bool:=!t.inside&&(decide (p.filter=2)||(decide (p.filter=1)&&!x.sess.any (withA c t.peer)))
def goV (p:Pl) (x:Bb) (t:Tc) (now:Int):Bo :=
 match x.binds.find? (if t.inside=true then ofIn t.proto t.addr t.port else ofOut t.proto t.addr t.port) with
 | none=>if t.inside=true then newV p x t bdZ now else boE 6
 | some c=>match x.sess.findIdx? (withP c t.peer t.peerPort) with
  | none=>if goneB p x t c=true then boE 6 else newV p x t c now
  | some i=>⟨⟨x.binds,setN x.sess i (nextS p t now)⟩,c,0⟩
def bibTouchV (p:Pl) (x:Bb) (t:Tc) (now:Int):Bo:=if (bibOk p x&&isTime now&&touchOk t)=true then goV p x t now else boE 1
structure BoxV4 (w:World) (B:Nat) (p:P4):Prop where
 c0:w.cell? ⟨B,0,none⟩=some (iV p.tos)
 c1:w.cell? ⟨B,1,none⟩=some (iV p.id)
 c2:w.cell? ⟨B,2,none⟩=some (.bool p.whole)
 c3:w.cell? ⟨B,3,none⟩=some (.bool p.more)
 c4:w.cell? ⟨B,4,none⟩=some (iV p.off)
 c5:w.cell? ⟨B,5,none⟩=some (iV p.ttl)
 c6:w.cell? ⟨B,6,none⟩=some (iV p.proto)
 c7:w.cell? ⟨B,7,none⟩=some (.string p.src)
 c8:w.cell? ⟨B,8,none⟩=some (.string p.dst)
 c9:w.cell? ⟨B,9,none⟩=some (.string p.opts)
 c10:w.cell? ⟨B,10,none⟩=some (.string p.data)
theorem implByte_any (n:Int) (w:World) :
  Cw 121 #[iV n] w (.bool (isIn n 0 255)):=by
 by_cases h1:0≤n
 ·by_cases h2:n≤255
  ·have HV:Hid (isIn n 0 255=true):=by unfold Hid isIn; simp [h1,h2]
   go_enter Tryz.func121,Tryz.ntmps121
   go_wp2_with fail
   go_ret;exact ⟨ret_bool (by rw [HV.out]),rfl⟩
  ·have HV:Hid (isIn n 0 255=false):=by unfold Hid isIn; simp [h2]
   go_enter Tryz.func121,Tryz.ntmps121
   go_wp2_with fail
   go_ret;exact ⟨ret_bool (by rw [HV.out]),rfl⟩
 ·have HV:Hid (isIn n 0 255=false):=by unfold Hid isIn; simp [h1]
  have h1':n < 0:=by omega
  go_enter Tryz.func121,Tryz.ntmps121
  go_wp2_with fail
  go_ret;exact ⟨ret_bool (by rw [HV.out]),rfl⟩
def pcV (off:Int) (more:Bool) (data:ByteArray) (top:Int):Bool:=isIn off 0 8191&&decide (data.size≤1400)&&(!more||decide (data.size % 8=0))&&decide (8*off+data.size≤top)
theorem v4Ok_prog (p:P4):v4Ok p=(isIn p.tos 0 255&&(isIn p.ttl 0 255&&(isIn p.proto 0 255&&(isIn p.id 0 65535&&(decide (p.src.size=4)&&(decide (p.dst.size=4)&&(decide (p.opts.size≤40)&&(decide (p.opts.size % 4=0)&&(pcV p.off p.more p.data 65515&&!(p.whole&&(p.more||!decide (p.off=0))))))))))) ):=by
 unfold v4Ok v4A v4B v4C pcV;simp only [Bool.not_and,Bool.not_not,Bool.not_or];ac_rfl
theorem implPiece_any (off:Int) (more:Bool) (data:ByteArray) (top:Int) (w:World) (h4:data.size≤1048576) :
  Cw 123 #[iV off,.bool more,.string data,iV top] w (.bool (pcV off more data top)):=by
 have HV:Hid (pcV off more data top=(decide (0≤off)&&decide (off≤8191)&&decide (data.size≤1400)&&(!more||decide (data.size % 8=0))&&decide (8*off+data.size≤top))):=by unfold Hid pcV isIn; rfl
 generalize pcV off more data top=ok at *;by_cases e0:0≤off
 ·by_cases e1:off≤8191
  ·by_cases e2:data.size≤1400
   ·have d2:decide ((data.size:Int)≤1400)=true:=by simp; omega
    have em:(!more||decide (data.size % 8=0))=true∨(more=true∧¬ data.size % 8=0):=by cases more<;>simp<;>omega
    rcases em with em | ⟨rfl,em⟩
    ·by_cases e9:8*off+data.size≤top
     ·replace HV:Hid (ok=true):=by unfold Hid; rw [HV.out,em]; simp [e0,e1,e2,e9]
      cases more with
      | false =>
       clear em;go_enter Tryz.func123,Tryz.ntmps123
       go_wp2_with fail
       go_ret;exact ⟨ret_bool HV.out.symm,rfl⟩
      | true =>
       have dm:(((data.size:Int) % 8)==0)=true:=by simp at em; simp; omega
       clear em;go_enter Tryz.func123,Tryz.ntmps123
       go_wp2_with fail
       go_ret;exact ⟨ret_bool HV.out.symm,rfl⟩
     ·replace HV:Hid (ok=false):=by unfold Hid; rw [HV.out]; simp [e9]
      cases more with
      | false =>
       clear em;go_enter Tryz.func123,Tryz.ntmps123
       go_wp2_with fail
       go_ret;exact ⟨ret_bool HV.out.symm,rfl⟩
      | true =>
       have dm:(((data.size:Int) % 8)==0)=true:=by simp at em; simp; omega
       clear em;go_enter Tryz.func123,Tryz.ntmps123
       go_wp2_with fail
       go_ret;exact ⟨ret_bool HV.out.symm,rfl⟩
    ·replace HV:Hid (ok=false):=by unfold Hid; rw [HV.out]; simp [em]
     have dm:(((data.size:Int) % 8)==0)=false:=by simp; omega
     go_enter Tryz.func123,Tryz.ntmps123
     go_wp2_with fail
     go_ret;exact ⟨ret_bool HV.out.symm,rfl⟩
   ·replace HV:Hid (ok=false):=by unfold Hid; rw [HV.out]; simp [e2]
    have d2:decide ((data.size:Int)≤1400)=false:=by simp; omega
    go_enter Tryz.func123,Tryz.ntmps123
    go_wp2_with fail
    go_ret;exact ⟨ret_bool HV.out.symm,rfl⟩
  ·replace HV:Hid (ok=false):=by unfold Hid; rw [HV.out]; simp [e1]
   go_enter Tryz.func123,Tryz.ntmps123
   go_wp2_with fail
   go_ret;exact ⟨ret_bool HV.out.symm,rfl⟩
 ·replace HV:Hid (ok=false):=by unfold Hid; rw [HV.out]; simp [e0]
  go_enter Tryz.func123,Tryz.ntmps123
  go_wp2_with fail
  go_ret;exact ⟨ret_bool HV.out.symm,rfl⟩
theorem isLife_any (n:Int) (w:World) :
  Cw 172 #[iV n] w (.bool (isIn n 1 10000)):=by
 by_cases h1:1≤n
 ·by_cases h2:n≤10000
  ·have HV:Hid (isIn n 1 10000=true):=by unfold Hid isIn; simp [h1,h2]
   go_enter Tryz.func172,Tryz.ntmps172
   go_wp2_with fail
   go_ret;exact ⟨ret_bool (by rw [HV.out]),rfl⟩
  ·have HV:Hid (isIn n 1 10000=false):=by unfold Hid isIn; simp [h2]
   go_enter Tryz.func172,Tryz.ntmps172
   go_wp2_with fail
   go_ret;exact ⟨ret_bool (by rw [HV.out]),rfl⟩
 ·have HV:Hid (isIn n 1 10000=false):=by unfold Hid isIn; simp [h1]
  have h1':n < 1:=by omega
  go_enter Tryz.func172,Tryz.ntmps172
  go_wp2_with fail
  go_ret;exact ⟨ret_bool (by rw [HV.out]),rfl⟩
theorem isState_any (n:Int) (w:World) :
  Cw 144 #[iV n] w (.bool (isIn n 1 7)):=by
 by_cases h1:1≤n
 ·by_cases h2:n≤7
  ·have HV:Hid (isIn n 1 7=true):=by unfold Hid isIn; simp [h1,h2]
   go_enter Tryz.func144,Tryz.ntmps144
   go_wp2_with fail
   go_ret;exact ⟨ret_bool (by rw [HV.out]),rfl⟩
  ·have HV:Hid (isIn n 1 7=false):=by unfold Hid isIn; simp [h2]
   go_enter Tryz.func144,Tryz.ntmps144
   go_wp2_with fail
   go_ret;exact ⟨ret_bool (by rw [HV.out]),rfl⟩
 ·have HV:Hid (isIn n 1 7=false):=by unfold Hid isIn; simp [h1]
  have h1':n < 1:=by omega
  go_enter Tryz.func144,Tryz.ntmps144
  go_wp2_with fail
  go_ret;exact ⟨ret_bool (by rw [HV.out]),rfl⟩
theorem implStill_any (proto:Int) (w:World) :
  Cw 143 #[iV proto] w (.bool (stillP proto)):=by
 by_cases h1:proto=17
 ·have HV:Hid (stillP proto=true):=by unfold Hid stillP; simp [h1]
  go_enter Tryz.func143,Tryz.ntmps143
  go_wp2_with fail
  go_ret;exact ⟨ret_bool HV.out.symm,rfl⟩
 ·by_cases h2:proto=1
  ·have HV:Hid (stillP proto=true):=by unfold Hid stillP; simp [h2]
   go_enter Tryz.func143,Tryz.ntmps143
   go_wp2_with fail
   go_ret;exact ⟨ret_bool HV.out.symm,rfl⟩
  ·have HV:Hid (stillP proto=false):=by unfold Hid stillP; simp [h1,h2]
   go_enter Tryz.func143,Tryz.ntmps143
   go_wp2_with fail
   go_ret;exact ⟨ret_bool (by rw [HV.out]; simp [h1,h2]),rfl⟩
theorem implLives_any (l:Lv) (w:World) :
  Cb 147 #[lvC l] w (.bool (livesOk l)):=by
 have HC0:Hid (∀ W,Cw 172 #[iV l.udp] W (.bool (isIn l.udp 1 10000))):=fun W=>isLife_any _ W
 have HC1:Hid (∀ W,Cw 172 #[iV l.echo] W (.bool (isIn l.echo 1 10000))):=fun W=>isLife_any _ W
 have HC2:Hid (∀ W,Cw 172 #[iV l.opening] W (.bool (isIn l.opening 1 10000))):=fun W=>isLife_any _ W
 have HC3:Hid (∀ W,Cw 172 #[iV l.opn] W (.bool (isIn l.opn 1 10000))):=fun W=>isLife_any _ W
 have HC4:Hid (∀ W,Cw 172 #[iV l.closing] W (.bool (isIn l.closing 1 10000))):=fun W=>isLife_any _ W
 have HV:Hid (livesOk l=(isIn l.udp 1 10000&&isIn l.echo 1 10000&&isIn l.opening 1 10000&&isIn l.opn 1 10000&&isIn l.closing 1 10000)):=rfl;generalize livesOk l=ans at *;generalize isIn l.udp 1 10000=b0 at *;generalize isIn l.echo 1 10000=b1 at *;generalize isIn l.opening 1 10000=b2 at *;generalize isIn l.opn 1 10000=b3 at *;generalize isIn l.closing 1 10000=b4 at *;have HZ:Hid (Below w.heap.size w (w.alloc (.cells #[iV l.udp,iV l.echo,iV l.opening,iV l.opn,iV l.closing] 25))):=bR.alloc lR _;unfold lvC;go_enter Tryz.func147,Tryz.ntmps147
 go_wp2_with fail
 cases b0 with
 | false =>
  refine (HC0.out _).mono ?_;rintro e w0 ⟨rfl,rfl⟩;go_wp2_with fail
  go_ret;exact ⟨ret_bool (by rw [HV.out]; rfl),HZ.out⟩
 | true =>
  refine (HC0.out _).mono ?_;rintro e w0 ⟨rfl,rfl⟩;go_wp2_with fail
  cases b1 with
  | false =>
   refine (HC1.out _).mono ?_;rintro e w1 ⟨rfl,rfl⟩;go_wp2_with fail
   go_ret;exact ⟨ret_bool (by rw [HV.out]; rfl),HZ.out⟩
  | true =>
   refine (HC1.out _).mono ?_;rintro e w1 ⟨rfl,rfl⟩;go_wp2_with fail
   cases b2 with
   | false =>
    refine (HC2.out _).mono ?_;rintro e w2 ⟨rfl,rfl⟩;go_wp2_with fail
    go_ret;exact ⟨ret_bool (by rw [HV.out]; rfl),HZ.out⟩
   | true =>
    refine (HC2.out _).mono ?_;rintro e w2 ⟨rfl,rfl⟩;go_wp2_with fail
    cases b3 with
    | false =>
     refine (HC3.out _).mono ?_;rintro e w3 ⟨rfl,rfl⟩;go_wp2_with fail
     go_ret;exact ⟨ret_bool (by rw [HV.out]; rfl),HZ.out⟩
    | true =>
     refine (HC3.out _).mono ?_;rintro e w3 ⟨rfl,rfl⟩;go_wp2_with fail
     cases b4 with
     | false =>
      refine (HC4.out _).mono ?_;rintro e w4 ⟨rfl,rfl⟩;go_wp2_with fail
      go_ret;exact ⟨ret_bool (by rw [HV.out]; rfl),HZ.out⟩
     | true =>
      refine (HC4.out _).mono ?_;rintro e w4 ⟨rfl,rfl⟩;go_wp2_with fail
      go_ret;exact ⟨ret_bool (by rw [HV.out]; rfl),HZ.out⟩
theorem connLife_any (l:Lv) (state:Int) (w:World) :
  Cb 148 #[lvC l,iV state] w (iV (if state=1∨state=2 then l.opening else if state=3∨state=4∨state=5 then l.opn else if state=6∨state=7 then l.closing else 0)):=by
 have HZ:Hid (Below w.heap.size w (w.alloc (.cells #[iV l.udp,iV l.echo,iV l.opening,iV l.opn,iV l.closing] 25))):=bR.alloc lR _;obtain ⟨ans,hans⟩ : ∃ x,x=(if state=1∨state=2 then l.opening else if state=3∨state=4∨state=5 then l.opn else if state=6∨state=7 then l.closing else 0):=⟨_,rfl⟩;rw [← hans];have HX:Hid (ans=_):=hans;clear hans;unfold lvC;by_cases s1:state=1
 ·subst s1; simp at HX; go_enter Tryz.func148,Tryz.ntmps148; go_wp2_with fail; go_ret; exact ⟨ret_int HX.out.symm,HZ.out⟩
 by_cases s2:state=2
 ·subst s2; simp at HX; go_enter Tryz.func148,Tryz.ntmps148; go_wp2_with fail; go_ret; exact ⟨ret_int HX.out.symm,HZ.out⟩
 by_cases s3:state=3
 ·subst s3; simp at HX; go_enter Tryz.func148,Tryz.ntmps148; go_wp2_with fail; go_ret; exact ⟨ret_int HX.out.symm,HZ.out⟩
 by_cases s4:state=4
 ·subst s4; simp at HX; go_enter Tryz.func148,Tryz.ntmps148; go_wp2_with fail; go_ret; exact ⟨ret_int HX.out.symm,HZ.out⟩
 by_cases s5:state=5
 ·subst s5; simp at HX; go_enter Tryz.func148,Tryz.ntmps148; go_wp2_with fail; go_ret; exact ⟨ret_int HX.out.symm,HZ.out⟩
 by_cases s6:state=6
 ·subst s6; simp at HX; go_enter Tryz.func148,Tryz.ntmps148; go_wp2_with fail; go_ret; exact ⟨ret_int HX.out.symm,HZ.out⟩
 by_cases s7:state=7
 ·subst s7; simp at HX; go_enter Tryz.func148,Tryz.ntmps148; go_wp2_with fail; go_ret; exact ⟨ret_int HX.out.symm,HZ.out⟩
 simp [s1,s2,s3,s4,s5,s6,s7] at HX;go_enter Tryz.func148,Tryz.ntmps148
 go_wp2_with fail
 go_ret;exact ⟨ret_int HX.out.symm,HZ.out⟩
theorem implLife_any (l:Lv) (proto state:Int) (w:World) :
  Cb 111 #[lvC l,iV proto,iV state] w (iV (trackLifeV l proto state)):=by
 have HL:Hid (∀ W,Cb 147 #[lvC l] W (.bool (livesOk l))):=fun W=>implLives_any l W
 have HN:Hid (∀ W,Cb 148 #[lvC l,iV state] W (iV (if state=1∨state=2 then l.opening else if state=3∨state=4∨state=5 then l.opn else if state=6∨state=7 then l.closing else 0))):=fun W=>connLife_any l state W
 have HK:Hid (BoxLives (w.alloc (.cells #[iV l.udp,iV l.echo,iV l.opening,iV l.opn,iV l.closing] 25)) w.heap.size l):=BoxLives.new w l;have HZ:Hid (Below w.heap.size w (w.alloc (.cells #[iV l.udp,iV l.echo,iV l.opening,iV l.opn,iV l.closing] 25))):=bR.alloc lR _;unfold lvC at HL HN ⊢
 cases hl:livesOk l with
 | false =>
  have HX:Hid (trackLifeV l proto state=0):=by unfold Hid trackLifeV; rw [if_pos hl]
  rw [hl] at HL;clear hl;go_enter Tryz.func111,Tryz.ntmps111
  go_wp2_with fail
  refine (HL.out _).mono ?_;rintro e w1 ⟨rfl,q1⟩;have G1:Hid _:=HZ.out.trans (q1.mono HZ.out.size);clear q1;go_wp2_with fail
  go_ret;exact ⟨ret_int HX.out.symm,G1.out⟩
 | true =>
  generalize hcl:(if state=1∨state=2 then l.opening else if state=3∨state=4∨state=5 then l.opn else if state=6∨state=7 then l.closing else 0)=cl at HN;have HX:Hid (trackLifeV l proto state=if proto=17 then l.udp else if proto=1 then l.echo else if proto=6 then cl else 0):=by unfold Hid trackLifeV; rw [if_neg (by rw [hl]; decide),hcl]
  rw [hl] at HL;clear hl hcl;go_enter Tryz.func111,Tryz.ntmps111
  go_wp2_with fail
  refine (HL.out _).mono ?_;rintro e w1 ⟨rfl,q1⟩;have G1:Hid _:=HZ.out.trans (q1.mono HZ.out.size);obtain ⟨k0,k1,k2,k3,k4⟩:=HK.out.kept q1;clear q1 HZ HK HL;by_cases p0:proto=17
  ·subst p0;rw [if_pos rfl] at HX;go_wp2_with fail
   go_ret;exact ⟨ret_int HX.out.symm,G1.out⟩
  ·by_cases p1:proto=1
   ·subst p1;rw [if_neg (by decide),if_pos rfl] at HX;go_wp2_with fail
    go_ret;exact ⟨ret_int HX.out.symm,G1.out⟩
   ·rw [if_neg p0,if_neg p1] at HX;by_cases p6:proto=6
    ·subst p6;rw [if_pos rfl] at HX;clear p0 p1;go_wp2_with fail
     refine (HN.out _).mono ?_;rintro e w2 ⟨rfl,q2⟩;have G2:Hid _:=G1.out.trans (q2.mono G1.out.size);clear q2;go_wp2_with fail
     go_ret;exact ⟨ret_int HX.out.symm,G2.out⟩
    ·rw [if_neg p6] at HX;go_wp2_with fail
     go_ret;exact ⟨ret_int HX.out.symm,G1.out⟩
def waitV (state flags:Int):Bool:=if state=1∨state=2 then flagB flags 2 else if state=3∨state=4∨state=5 then flagB flags 1 else true
theorem waits_any (state flags:Int) (w:World) (hr:state=1∨state=2∨state=3∨state=4∨state=5∨state=6∨state=7) :
  Cw 146 #[iV state,iV flags] w (.bool (waitV state flags)):=by
 obtain ⟨ans,hans⟩ : ∃ x,x=waitV state flags:=⟨_,rfl⟩;rw [← hans];have HX:Hid (ans=waitV state flags):=hans;clear hans;have e1:flagB flags 1=decide (¬ bits .and .i64 flags 1=0):=rfl;have e2:flagB flags 2=decide (¬ bits .and .i64 flags 2=0):=rfl;unfold waitV at HX;rw [e1,e2] at HX;clear e1 e2;rcases hr with rfl | rfl | rfl | rfl | rfl | rfl | rfl<;>by_cases h1:bits .and .i64 flags 1=0<;>by_cases h2:bits .and .i64 flags 2=0
 all_goals
  simp [h1,h2] at HX;go_enter Tryz.func146,Tryz.ntmps146
  go_wp2_with fail
  go_ret;exact ⟨ret_bool (by first | exact HX.out.symm | (rw [HX.out]; simp [h1,h2])),rfl⟩
theorem from_any (a b:Int) (inside:Bool) (w:World) :
  Cb 145 #[.agg #[iV a,iV b],.bool inside] w (iV (if inside=true then a else b)):=by
 have HZ:Hid (Below w.heap.size w (w.alloc (.cells #[iV a,iV b] 171))):=bR.alloc lR _
 cases inside;all_goals
  go_enter Tryz.func145,Tryz.ntmps145
  go_wp2_with fail
  go_ret;exact ⟨ret_int (by simp),HZ.out⟩
def TabB (w:World):Prop:=∀ i:Nat,i < 16→w.cell? ⟨0,i,none⟩=some (iV ([0,0,0,3,3,0,4,5,0,6,6,0,0,0,3,3].getD i 0))
theorem TabB.below {w W:World} (h:TabB w) (hb:Below w.heap.size w W):TabB W:=fun i hi=>((bcell hb).1 _ _ (World.block_lt_of_cell? w _ (h i hi))).trans (h i hi)
theorem next_six (state:Int) (inside:Bool) (flags:Int) (hb:isIn state 1 7=true) (hc:isIn flags 0 255=true):trackNextV 6 state inside flags=(
  if flagB flags 4=true then 7
  else if state=1 then (if inside=false∧flagB flags 2=true then 3 else 1)
  else if state=2 then (if inside=true∧flagB flags 2=true then 3 else 2)
  else if state=3 then (if flagB flags 1=true then (if inside=true then 4 else 5) else 3)
  else if state=4 then (if inside=false∧flagB flags 1=true then 6 else 4)
  else if state=5 then (if inside=true∧flagB flags 1=true then 6 else 5)
  else if state=7 then 3 else state):=by
 unfold trackNextV; rw [if_neg (by decide),if_pos ⟨rfl,hb,hc⟩]
theorem implNext_any (proto state:Int) (inside:Bool) (flags:Int) (w:World) (hT:TabB w) :
  Cb 110 #[iV proto,iV state,.bool inside,iV flags] w (iV (trackNextV proto state inside flags)):=by
 have HA:Hid (∀ W,Cw 143 #[iV proto] W (.bool (stillP proto))):=fun W=>implStill_any _ W
 have HB:Hid (∀ W,Cw 144 #[iV state] W (.bool (isIn state 1 7))):=fun W=>isState_any _ W
 have HC:Hid (∀ W,Cw 121 #[iV flags] W (.bool (isIn flags 0 255))):=fun W=>implByte_any _ W
 cases hs:stillP proto with
 | true =>
  have HX:Hid (trackNextV proto state inside flags=3):=by unfold Hid trackNextV; rw [if_pos hs]
  rw [hs] at HA;clear hs hT;go_enter Tryz.func110,Tryz.ntmps110
  go_wp2_with fail
  refine (HA.out _).mono ?_;rintro e w1 ⟨rfl,rfl⟩;go_wp2_with fail
  go_ret;exact ⟨ret_int HX.out.symm,Below.refl _ _⟩
 | false =>
  rw [hs] at HA;have HS:Hid (stillP proto=false):=hs;clear hs;by_cases hp:proto=6
  ·subst hp
   cases hb:isIn state 1 7 with
   | false =>
    have HX:Hid (trackNextV 6 state inside flags=0):=by unfold Hid trackNextV; rw [if_neg (by rw [HS.out]; decide),if_neg (by rw [hb]; simp)]
    rw [hb] at HB;clear hb hT;go_enter Tryz.func110,Tryz.ntmps110
    go_wp2_with fail
    refine (HA.out _).mono ?_;rintro e w1 ⟨rfl,rfl⟩;go_wp2_with fail
    refine (HB.out _).mono ?_;rintro e w1 ⟨rfl,rfl⟩;go_wp2_with fail
    go_ret;exact ⟨ret_int HX.out.symm,Below.refl _ _⟩
   | true =>
    cases hc:isIn flags 0 255 with
    | false =>
     have HX:Hid (trackNextV 6 state inside flags=0):=by unfold Hid trackNextV; rw [if_neg (by rw [HS.out]; decide),if_neg (by rw [hc]; simp)]
     rw [hb] at HB;rw [hc] at HC;clear hb hc hT;go_enter Tryz.func110,Tryz.ntmps110
     go_wp2_with fail
     refine (HA.out _).mono ?_;rintro e w1 ⟨rfl,rfl⟩;go_wp2_with fail
     refine (HB.out _).mono ?_;rintro e w1 ⟨rfl,rfl⟩;go_wp2_with fail
     refine (HC.out _).mono ?_;rintro e w1 ⟨rfl,rfl⟩;go_wp2_with fail
     go_ret;exact ⟨ret_int HX.out.symm,Below.refl _ _⟩
    | true =>
     have HX:Hid _:=next_six state inside flags hb hc;rw [hb] at HB;rw [hc] at HC;have hr:state=1∨state=2∨state=3∨state=4∨state=5∨state=6∨state=7:=by
      unfold isIn at hb; simp only [Bool.and_eq_true,decide_eq_true_eq] at hb; omega
     have HW:Hid (∀ W,Cw 146 #[iV state,iV flags] W (.bool (waitV state flags))):=fun W=>waits_any state flags W hr
     have HF:Hid (∀ a b W,Cb 145 #[.agg #[iV a,iV b],.bool inside] W (iV (if inside=true then a else b))):=fun a b W=>from_any a b inside W
     clear hb hc;have k0:=hT 0 (by decide);have k1:=hT 1 (by decide);have k2:=hT 2 (by decide);have k3:=hT 3 (by decide);have k4:=hT 4 (by decide);have k5:=hT 5 (by decide);have k6:=hT 6 (by decide);have k7:=hT 7 (by decide);have k8:=hT 8 (by decide);have k9:=hT 9 (by decide);have k10:=hT 10 (by decide);have k11:=hT 11 (by decide);have k12:=hT 12 (by decide);have k13:=hT 13 (by decide);have k14:=hT 14 (by decide);have k15:=hT 15 (by decide);simp only [List.getD_cons_zero,List.getD_cons_succ] at k0 k1 k2 k3 k4 k5 k6 k7 k8 k9 k10 k11 k12 k13 k14 k15;clear hT;go_enter Tryz.func110,Tryz.ntmps110
     go_wp2_with fail
     refine (HA.out _).mono ?_;rintro e w1 ⟨rfl,rfl⟩;go_wp2_with fail
     refine (HB.out _).mono ?_;rintro e w1 ⟨rfl,rfl⟩;go_wp2_with fail
     refine (HC.out _).mono ?_;rintro e w1 ⟨rfl,rfl⟩;clear HA HB HC;go_upto_region 5 with fail
     by_cases h4:bits .and .i64 flags 4=0
     ·have n4:flagB flags 4=false:=by unfold flagB; simp [h4]
      rw [n4,if_neg (by decide)] at HX;clear n4;have e1:flagB flags 1=decide (¬ bits .and .i64 flags 1=0):=rfl;have e2:flagB flags 2=decide (¬ bits .and .i64 flags 2=0):=rfl;unfold waitV at HW;rw [e1,e2] at HX HW;clear e1 e2;rcases hr with rfl | rfl | rfl | rfl | rfl | rfl | rfl<;>by_cases h1:bits .and .i64 flags 1=0<;>by_cases h2:bits .and .i64 flags 2=0<;>cases inside
      all_goals
       simp [h1,h2] at HX;simp [h1,h2] at HW;simp at HF;go_wp2_with fail
       refine (HF.out _ _ _).mono ?_;rintro e w2 ⟨rfl,q2⟩;have G2:Hid (Below w1.heap.size w1 w2):=q2;clear q2;go_wp2_with (go_at_call 146; refine (HW.out _).mono ?_; rintro e w3 ⟨rfl,rfl⟩)
       go_ret;exact ⟨ret_int HX.out.symm,G2.out⟩
     ·have HY:Hid (trackNextV 6 state inside flags=7):=by unfold Hid; rw [HX.out,if_pos (by unfold flagB; exact decide_eq_true h4)]
      go_wp2_with fail
      go_ret;exact ⟨ret_int HY.out.symm,Below.refl _ _⟩
  ·have HX:Hid (trackNextV proto state inside flags=0):=by unfold Hid trackNextV; rw [if_neg (by rw [HS.out]; decide),if_neg (fun h=>hp h.1)]
   clear hT;go_enter Tryz.func110,Tryz.ntmps110
   go_wp2_with fail
   refine (HA.out _).mono ?_;rintro e w1 ⟨rfl,rfl⟩;go_wp2_with fail
   go_ret;exact ⟨ret_int HX.out.symm,Below.refl _ _⟩
theorem isBound_any (proto:Int) (w:World) :
  Cw 136 #[iV proto] w (.bool (protoB proto)):=by
 have hun:undef=Value.tuple #[]:=rfl;by_cases h0:proto=6
 ·subst h0;go_enter Tryz.func136,Tryz.ntmps136
  go_wp2_with fail
  go_ret;exact ⟨rfl,rfl⟩
 ·by_cases h1:proto=17
  ·subst h1;go_enter Tryz.func136,Tryz.ntmps136
   go_wp2_with fail
   go_ret;exact ⟨rfl,rfl⟩
  ·by_cases h2:proto=1
   ·subst h2;go_enter Tryz.func136,Tryz.ntmps136
    go_wp2_with fail
    go_ret;exact ⟨rfl,rfl⟩
   ·have HV:Hid (protoB proto=false):=by unfold Hid protoB; simp [h0,h1,h2]
    go_enter Tryz.func136,Tryz.ntmps136
    go_wp2_with fail
    go_ret;exact ⟨ret_bool (by rw [HV.out]; simp [h0,h1,h2]),rfl⟩
theorem strIndex_any (xs:List ByteArray) (s:ByteArray) (a:Option Addr) (cap:Nat) (w:World) (hlen:xs.length≤1048576) (hr:SlIs strL1 1 w a xs) :
  Calls Tryz.prog 128 #[.slice a xs.length cap,.string s] w fun e w'=>∃ j:Int,e=.returned (iV j)∧-1≤j∧j≤1048576∧Hid (decide (0≤j)=inL xs s)∧Below w.heap.size w w':=by
 have HR:Hid (SlIs strL1 1 w a xs):=hr;have HV:Hid (inL xs s=xs.any fun t=>decide (t.toList=s.toList)):=rfl;generalize inL xs s=ans at *;clear hr;go_enter Tryz.func128,Tryz.ntmps128
 go_wp2_with fail
 go_loopw [8] (fun iv wr=>∃ i:Nat,i≤xs.length∧iv=iV i∧(xs.take i).any (fun t=>decide (t.toList=s.toList))=false∧Below w.heap.size w wr) (fun iv _=>xs.length-(intOf iv).toNat)
 case atStart=>exact ⟨0,Nat.zero_le _,rfl,rfl,Below.refl _ _⟩
 case round =>
  obtain ⟨i,hi,rfl,hn,hbel⟩:=hrel;have HN:Hid ((xs.take i).any (fun t=>decide (t.toList=s.toList))=false):=hn;have HL:Hid (Below w.heap.size w wr):=hbel;clear hn hbel;by_cases hlt:i < xs.length
  ·obtain ⟨b,off,rfl,hb,hat⟩:=HR.out.at hlt;have hA:=(hat.below hb HL.out) i hlt;have HST:Hid _:=any_take (fun t:ByteArray=>decide (t.toList=s.toList)) xs i hlt;have HAT:Hid _:=any_at (fun t:ByteArray=>decide (t.toList=s.toList)) xs i hlt;obtain ⟨t,ht⟩ : ∃ t,xs[i]=t:=⟨_,rfl⟩;rw [ht] at hA HST HAT;have c0:wr.cell? ⟨b,off+i,none⟩=some (.string t):=by have:=hA 0 _ rfl; simpa using this
   have c0':wr.cell? ⟨b,off+i*1,none⟩=some (.string t):=by simpa using c0
   clear hA hat ht;by_cases he:t.toList=s.toList
   ·have HX:Hid (decide (0≤(i:Int))=ans):=by unfold Hid; rw [HV.out,HAT.out (decide_eq_true he)]; simp
    have hbq:(s.toList==t.toList)=true:=by simp [he]
    clear he;go_wp2_with fail
    go_ret;exact ⟨i,rfl,by omega,by omega,HX,HL.out⟩
   ·have HN2:Hid ((xs.take (i+1)).any (fun t=>decide (t.toList=s.toList))=false):=by unfold Hid; rw [HST.out,HN.out,decide_eq_false he]; rfl
    have hbq:(s.toList==t.toList)=false:=by simp; exact fun e=>he e.symm
    clear he;go_wp2_with fail
    go_roundw
    case rel=>exact ⟨i+1,by omega,by go_num,HN2.out,HL.out⟩
    case measure=>simp [intOf]; omega
  ·have hie:i=xs.length:=by omega
   have HX:Hid (decide (0≤(-1:Int))=ans):=by unfold Hid; have:=HN.out; rw [hie,List.take_length] at this; rw [HV.out,this]; rfl
   go_wp2_with fail
   go_ret;exact ⟨-1,rfl,by omega,by omega,HX,HL.out⟩
theorem strHas_any (xs:List ByteArray) (s:ByteArray) (a:Option Addr) (cap:Nat) (w:World) (hlen:xs.length≤1048576) (hr:SlIs strL1 1 w a xs) :
  Cb 96 #[.slice a xs.length cap,.string s] w (.bool (inL xs s)):=by
 have HI:Hid _:=strIndex_any xs s a cap w hlen hr;generalize inL xs s=ans at *;clear hr;go_enter Tryz.func96,Tryz.ntmps96
 go_wp2_with fail
 refine Calls.mono HI.out ?_;rintro e w1 ⟨j,rfl,h1,h2,h3,b1⟩;have B1:Hid _:=b1;clear b1;go_wp2_with fail
 go_ret;exact ⟨ret_bool h3.out,B1.out⟩
def poolA (xs:List ByteArray):Bool:=decide (1≤xs.length)&&decide (xs.length≤8)&&upN addrOne xs xs.length
theorem implPoolA_any (xs:List ByteArray) (a:Option Addr) (cap:Nat) (w:World) (hlen:xs.length≤1048576) (hcap:xs.length≤cap) (hsz:∀ s∈xs,s.size≤1048576) (hr:SlIs strL1 1 w a xs) :
  Cb 163 #[.slice a xs.length cap] w (.bool (poolA xs)):=by
 have HR:Hid (SlIs strL1 1 w a xs):=hr;have HZ:Hid (∀ s∈xs,s.size≤1048576):=hsz;have HV:Hid (poolA xs=(decide (1≤xs.length)&&decide (xs.length≤8)&&upN addrOne xs xs.length)):=rfl;generalize poolA xs=ans at *;have hun:undef=Value.tuple #[]:=rfl;clear hr hsz;by_cases h1:xs.length < 1
 ·have HX:Hid (ans=false):=by unfold Hid; rw [HV.out,decide_eq_false (show ¬ 1≤xs.length by omega)]; rfl
  have h1':(xs.length:Int) < 1:=by omega
  go_enter Tryz.func163,Tryz.ntmps163
  go_wp2_with fail
  go_ret;exact ⟨ret_bool HX.out.symm,Below.refl _ _⟩
 ·have h1n:¬ (xs.length:Int) < 1:=by omega
  by_cases h2:8 < xs.length
  ·have HX:Hid (ans=false):=by unfold Hid; rw [HV.out,decide_eq_false (show ¬ xs.length≤8 by omega)]; simp
   have h2':(8:Int) < (xs.length:Int):=by omega
   go_enter Tryz.func163,Tryz.ntmps163
   go_wp2_with fail
   go_ret;exact ⟨ret_bool HX.out.symm,Below.refl _ _⟩
  ·have HU:Hid (ans=upN addrOne xs xs.length):=by unfold Hid; rw [HV.out,decide_eq_true (show 1≤xs.length by omega),decide_eq_true (show xs.length≤8 by omega)]; rfl
   have h2n:¬ (8:Int) < (xs.length:Int):=by omega
   clear HV;go_enter Tryz.func163,Tryz.ntmps163
   go_wp2_with fail
   go_loopw [15] (fun iv wr=>∃ i:Nat,i≤xs.length∧iv=iV i∧upN addrOne xs i=true∧Below w.heap.size w wr) (fun iv _=>xs.length-(intOf iv).toNat)
   case atStart=>exact ⟨0,Nat.zero_le _,rfl,rfl,Below.refl _ _⟩
   case round =>
    obtain ⟨i,hi,rfl,hn,hbel⟩:=hrel;have HN:Hid (upN addrOne xs i=true):=hn;have HL:Hid (Below w.heap.size w wr):=hbel;clear hn hbel;by_cases hlt:i < xs.length
    ·obtain ⟨b,off,rfl,hb,hat⟩:=HR.out.at hlt;have hA:=(hat.below hb HL.out) i hlt;have HST:Hid _:=upN_step (f:=addrOne) hlt;have HATF:Hid (addrOne (xs.take i) xs[i]=false→upN addrOne xs xs.length=false):=upN_at hlt;have hts:=HZ.out xs[i] (List.getElem_mem hlt);obtain ⟨t,ht⟩ : ∃ t,xs[i]=t:=⟨_,rfl⟩;rw [ht] at hA HST HATF hts;have c0:wr.cell? ⟨b,off+i,none⟩=some (.string t):=by have:=hA 0 _ rfl; simpa using this
     have c0':wr.cell? ⟨b,off+i*1,none⟩=some (.string t):=by simpa using c0
     have HOV:Hid (addrOne (xs.take i) t=(decide (t.size=4)&&!inL (xs.take i) t)):=rfl;have hltI:(i:Int) < (xs.length:Int):=by omega
     have HC:Hid (∀ W,Below w.heap.size w W→Cb 96 #[.slice (some ⟨b,off,none⟩) i cap,.string t] W (.bool (inL (xs.take i) t))):=fun W hW=>by
      have h:=strHas_any (xs.take i) t (some ⟨b,off,none⟩) cap W (by simp; omega) ((HR.out.below hW).take i);rw [List.length_take,Nat.min_eq_left (by omega)] at h; exact h
     generalize inL (xs.take i) t=il at *;clear hA hat ht;by_cases h4:t.size=4
     ·have h4i:(t.size:Int)=4:=by omega
      have d1:((t.size:Int) != 4)=false:=by simp [h4i]
      clear h4i;go_wp2_with fail
      refine (HC.out _ HL.out).mono ?_;rintro e w1 ⟨rfl,q1⟩;have HL1:Hid _:=HL.out.trans (q1.mono HL.out.size);clear q1
      cases il with
      | true =>
       have HX:Hid (ans=false):=by unfold Hid; rw [HU.out]; refine HATF.out ?_; rw [HOV.out]; simp
       go_wp2_with fail
       go_ret;exact ⟨ret_bool HX.out.symm,HL1.out⟩
      | false =>
       have HN2:Hid (upN addrOne xs (i+1)=true):=by unfold Hid; rw [HST.out,HN.out,HOV.out,decide_eq_true h4]; rfl
       go_wp2_with fail
       go_roundw
       case rel=>exact ⟨i+1,by omega,by go_num,HN2.out,HL1.out⟩
       case measure=>simp [intOf]; omega
     ·have HX:Hid (ans=false):=by unfold Hid; rw [HU.out]; refine HATF.out ?_; rw [HOV.out,decide_eq_false h4]; rfl
      have h4i:¬ (t.size:Int)=4:=by omega
      have d1:((t.size:Int) != 4)=true:=by simp [h4i]
      go_wp2_with fail
      go_ret;exact ⟨ret_bool HX.out.symm,HL.out⟩
    ·have hie:i=xs.length:=by omega
     have HX:Hid (ans=true):=by unfold Hid; have:=HN.out; rw [hie] at this; rw [HU.out]; exact this
     go_wp2_with fail
     go_ret;exact ⟨ret_bool HX.out.symm,HL.out⟩
structure En where
 proto:Int
 addr:ByteArray
 port:Int
def enC (q:En):Value:=.agg (EnV q.proto q.addr q.port).toArray
def enL (q:En):List Value:=(EnV q.proto q.addr q.port)
def sameEn (q p:En):Bool:=(q.proto==p.proto)&&((q.addr.toList==p.addr.toList)&&(q.port==p.port))
structure Sk where
 host:En
 peer:ByteArray
 peerPort:Int
def skC (q:Sk):Value:=.agg (BdR q.host.proto q.host.addr q.host.port q.peer q.peerPort).toArray
def skL (q:Sk):List Value:=(BdR q.host.proto q.host.addr q.host.port q.peer q.peerPort)
def sameSk (q p:Sk):Bool:=sameEn q.host p.host&&((q.peer.toList==p.peer.toList)&&(q.peerPort==p.peerPort))
theorem eqEn_run (D:Nat) (q p:En) (W:World):(Op.equalIn (D+2) 86 (.agg (EnV q.proto q.addr q.port).toArray) (.agg (EnV p.proto p.addr p.port).toArray)).run Tryz.prog W=.ok (sameEn q p) W:=by
 have h1:Tryz.prog.underlying 86=some (.struct (Tryz.prog.fieldsOf 86)):=by kernel_rfl
 have h2:Tryz.prog.stoodInHeld 86=false:=by kernel_rfl
 rw [run_equalIn_agg _ _ _ _ _ h1 h2];have h3:(Tryz.prog.fieldsOf 86).toList.length=3:=by kernel_rfl
 have h4 : ((Tryz.prog.fieldsOf 86).toList.map fun f => (f.type, f.offset, f.name == "_")) = [(2, 0, false), (9, 1, false), (2, 2, false)] := by kernel_rfl
 generalize (Tryz.prog.fieldsOf 86).toList=fs at *;match fs,h3 with
 | [f0,f1,f2],_ =>
  simp only [List.map_cons,List.map_nil,List.cons.injEq,Prod.mk.injEq,and_true] at h4;obtain ⟨⟨a0,b0,c0⟩,⟨a1,b1,c1⟩,⟨a2,b2,c2⟩⟩:=h4
  have d0 : (f0.name ≠ "_") = True := by simpa using c0
  have q0:∀ W,(part 2 (EnV q.proto q.addr q.port).toArray 0).run Tryz.prog W=.ok (iV q.proto) W:=fun W=>by kernel_rfl
  have p0:∀ W,(part 2 (EnV p.proto p.addr p.port).toArray 0).run Tryz.prog W=.ok (iV p.proto) W:=fun W=>by kernel_rfl
  have d1 : (f1.name ≠ "_") = True := by simpa using c1
  have q1:∀ W,(part 9 (EnV q.proto q.addr q.port).toArray 1).run Tryz.prog W=.ok (.string q.addr) W:=fun W=>by kernel_rfl
  have p1:∀ W,(part 9 (EnV p.proto p.addr p.port).toArray 1).run Tryz.prog W=.ok (.string p.addr) W:=fun W=>by kernel_rfl
  have d2 : (f2.name ≠ "_") = True := by simpa using c2
  have q2:∀ W,(part 2 (EnV q.proto q.addr q.port).toArray 2).run Tryz.prog W=.ok (iV q.port) W:=fun W=>by kernel_rfl
  have p2:∀ W,(part 2 (EnV p.proto p.addr p.port).toArray 2).run Tryz.prog W=.ok (iV p.port) W:=fun W=>by kernel_rfl
  unfold sameEn;simp only [Op.eqFields,a0,b0,d0,q0,p0,a1,b1,d1,q1,p1,a2,b2,d2,q2,p2,if_true,Sem.run_bind,Sem.run_ite,Sem.run_pure,Result.andThen_ok,run_equalIn_string _ _ _ _ _ Tryz.underlying9,run_equalIn_int _ _ _ _ _ _ _ Tryz.underlying2];generalize (q.proto==p.proto)=g0;generalize (q.addr.toList==p.addr.toList)=g1;generalize (q.port==p.port)=g2
  cases g0
  ·simp
  simp only [Bool.not_true,Bool.false_eq_true,if_false,Bool.true_and]
  cases g1
  ·simp
  simp only [Bool.not_true,Bool.false_eq_true,if_false,Bool.true_and]
  cases g2<;>simp
theorem eqEn_bin (q p:En) (W:World):(binOp .eql 86 (.agg (EnV q.proto q.addr q.port).toArray) (.agg (EnV p.proto p.addr p.port).toArray)).run Tryz.prog W=.ok (.bool (sameEn q p)) W:=by
 rw [run_eql_struct,eqEn_run 9998 q p W]; rfl
theorem eqSk_run (D:Nat) (q p:Sk) (W:World):(Op.equalIn (D+3) 147 (.agg (BdR q.host.proto q.host.addr q.host.port q.peer q.peerPort).toArray) (.agg (BdR p.host.proto p.host.addr p.host.port p.peer p.peerPort).toArray)).run Tryz.prog W=.ok (sameSk q p) W:=by
 have h1:Tryz.prog.underlying 147=some (.struct (Tryz.prog.fieldsOf 147)):=by kernel_rfl
 have h2:Tryz.prog.stoodInHeld 147=false:=by kernel_rfl
 rw [run_equalIn_agg _ _ _ _ _ h1 h2];have h3:(Tryz.prog.fieldsOf 147).toList.length=3:=by kernel_rfl
 have h4 : ((Tryz.prog.fieldsOf 147).toList.map fun f => (f.type, f.offset, f.name == "_")) = [(86, 0, false), (9, 3, false), (2, 4, false)] := by kernel_rfl
 generalize (Tryz.prog.fieldsOf 147).toList=fs at *;match fs,h3 with
 | [f0,f1,f2],_ =>
  simp only [List.map_cons,List.map_nil,List.cons.injEq,Prod.mk.injEq,and_true] at h4;obtain ⟨⟨a0,b0,c0⟩,⟨a1,b1,c1⟩,⟨a2,b2,c2⟩⟩:=h4
  have d0 : (f0.name ≠ "_") = True := by simpa using c0
  have q0:∀ W,(part 86 (BdR q.host.proto q.host.addr q.host.port q.peer q.peerPort).toArray 0).run Tryz.prog W=.ok (.agg (EnV q.host.proto q.host.addr q.host.port).toArray) W:=fun W=>by kernel_rfl
  have p0:∀ W,(part 86 (BdR p.host.proto p.host.addr p.host.port p.peer p.peerPort).toArray 0).run Tryz.prog W=.ok (.agg (EnV p.host.proto p.host.addr p.host.port).toArray) W:=fun W=>by kernel_rfl
  have d1 : (f1.name ≠ "_") = True := by simpa using c1
  have q1:∀ W,(part 9 (BdR q.host.proto q.host.addr q.host.port q.peer q.peerPort).toArray 3).run Tryz.prog W=.ok (.string q.peer) W:=fun W=>by kernel_rfl
  have p1:∀ W,(part 9 (BdR p.host.proto p.host.addr p.host.port p.peer p.peerPort).toArray 3).run Tryz.prog W=.ok (.string p.peer) W:=fun W=>by kernel_rfl
  have d2 : (f2.name ≠ "_") = True := by simpa using c2
  have q2:∀ W,(part 2 (BdR q.host.proto q.host.addr q.host.port q.peer q.peerPort).toArray 4).run Tryz.prog W=.ok (iV q.peerPort) W:=fun W=>by kernel_rfl
  have p2:∀ W,(part 2 (BdR p.host.proto p.host.addr p.host.port p.peer p.peerPort).toArray 4).run Tryz.prog W=.ok (iV p.peerPort) W:=fun W=>by kernel_rfl
  unfold sameSk;simp only [Op.eqFields,a0,b0,d0,q0,p0,a1,b1,d1,q1,p1,a2,b2,d2,q2,p2,if_true,Sem.run_bind,Sem.run_ite,Sem.run_pure,Result.andThen_ok,run_equalIn_string _ _ _ _ _ Tryz.underlying9,run_equalIn_int _ _ _ _ _ _ _ Tryz.underlying2,eqEn_run D q.host p.host];generalize (sameEn q.host p.host)=g0;generalize (q.peer.toList==p.peer.toList)=g1;generalize (q.peerPort==p.peerPort)=g2
  cases g0
  ·simp
  simp only [Bool.not_true,Bool.false_eq_true,if_false,Bool.true_and]
  cases g1
  ·simp
  simp only [Bool.not_true,Bool.false_eq_true,if_false,Bool.true_and]
  cases g2<;>simp
theorem eqSk_bin (q p:Sk) (W:World):(binOp .eql 147 (.agg (BdR q.host.proto q.host.addr q.host.port q.peer q.peerPort).toArray) (.agg (BdR p.host.proto p.host.addr p.host.port p.peer p.peerPort).toArray)).run Tryz.prog W=.ok (.bool (sameSk q p)) W:=by
 rw [run_eql_struct,eqSk_run 9997 q p W]; rfl
end Go.Proofs.YtdkepkaflielhaaGreatDoor
