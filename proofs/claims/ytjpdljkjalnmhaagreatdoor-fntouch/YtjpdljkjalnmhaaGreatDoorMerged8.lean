import Derived.Test.YtjpdljkjalnmhaaGreatDoorMerged7
import Derived.Test.YtjpdljkjalnmhaaGreatDoorSPort
import Derived.Test.YtjpdljkjalnmhaaGreatDoorMerged1
import Derived.Test.YtjpdljkjalnmhaaGreatDoorMerged2
import Derived.Deep.DeepCutAuto
import Derived.Test.YtjpdljkjalnmhaaGreatDoorMerged4
set_option linter.unusedVariables false
set_option linter.unusedSimpArgs false
set_option maxRecDepth 100000
set_option maxHeartbeats 8000000
namespace Go.Proofs.YtjpdljkjalnmhaaGreatDoor
open Go.RowKit Go.PlainAid Go.ChangeShapes Go.WideShapes
section
variable {α:Type} {en:α→List Value} {n:Nat} {w W:World}
end
structure BbMk (base:Nat) (w:World) (a b:Option Addr) (k nb ns:Nat):Prop where
 bd:MkOwn 5 bindM base w a k nb
 ss:MkOwn 7 sessionM base w b (k+5*nb) ns
theorem BbMk.kept {base:Nat} {w W:World} {a b:Option Addr} {k nb ns:Nat} (h:BbMk base w a b k nb ns) (hB:Below w.heap.size w W):BbMk base W a b k nb ns:=⟨h.bd.kept hB,h.ss.kept hB⟩
structure Bo where
 bib:Bb
 bind:Bd
 code:Int
def boL (a b:Option Addr) (ca cb:Nat) (o:Bo):List Value:=[.slice a o.bib.binds.length ca,.slice b o.bib.sess.length cb,.int .i64 o.bind.proto,.string o.bind.inn,.int .i64 o.bind.inPort,.string o.bind.out,.int .i64 o.bind.outPort,.int .i64 o.code]
def boC (a b:Option Addr) (ca cb:Nat) (o:Bo):Value:=.agg #[.slice a o.bib.binds.length ca,.slice b o.bib.sess.length cb,.int .i64 o.bind.proto,.string o.bind.inn,.int .i64 o.bind.inPort,.string o.bind.out,.int .i64 o.bind.outPort,.int .i64 o.code]
def BoRet (base:Nat) (o:Bo) (e:Ending) (w:World):Prop:=∃ a b ca cb,e=.returned (boC a b ca cb o)∧BbOwn base w a b o.bib
end Go.Proofs.YtjpdljkjalnmhaaGreatDoor
namespace Go.Proofs.YtjpdljkjalnmhaaGreatDoor
open Go.RowKit Go.PlainAid
def bbZ:Bb:=⟨[],[]⟩
structure Fl where
 proto:Int
 src:ByteArray
 dst:ByteArray
 sp:Int
 dp:Int
structure Pc where
 src:ByteArray
 dst:ByteArray
 proto:Int
 id:Int
 off:Int
 more:Bool
 data:ByteArray
 since:Int
instance:Inhabited Pc:=⟨⟨⟨#[]⟩,⟨#[]⟩,0,0,0,false,⟨#[]⟩,0⟩⟩
def isTime (n:Int):Bool:=isIn n 0 1000000000
theorem find_at {α:Type} {p:α→Bool} {xs:List α} {i:Nat} (h:i < xs.length) (hn:(xs.take i).find? p=none) (hp:p xs[i]=true):xs.find? p=some xs[i]:=by
 conv=>lhs; rw [← List.take_append_drop i xs]
 rw [List.find?_append,hn,List.drop_eq_getElem_cons h,List.find?_cons_of_pos hp];rfl
structure PcOut where
 pieces:List Pc
 data:ByteArray
 done:Bool
 code:Int
end Go.Proofs.YtjpdljkjalnmhaaGreatDoor
namespace Go.Proofs.YtjpdljkjalnmhaaGreatDoor
open Go.RowKit
def touchOk (t:Tc):Bool:=protoB t.proto&&addrOk t.addr&&(t.inside||decide (t.addr.size=4))&&isW t.port&&decide (t.peer.size=4)&&isW t.peerPort&&isIn t.flags 0 255
def withP (c:Bd) (peer:ByteArray) (port:Int) (s:Ss):Bool:=hasS c s&&decide (s.peer.toList=peer.toList)&&decide (s.peerPort=port)
def withA (c:Bd) (peer:ByteArray) (s:Ss):Bool:=hasS c s&&decide (s.peer.toList=peer.toList)
def sessN (p:Pl) (t:Tc) (c:Bd) (st now:Int):Ss:=⟨t.proto,c.inn,c.inPort,t.peer,t.peerPort,st,now+trackLifeV p.lv t.proto st⟩
def newB (xs:List Bd) (c:Bd):List Bd:=if findI (ofIn c.proto c.inn c.inPort) xs < 0 then xs++[c] else xs
def boE (n:Int):Bo:=⟨bbZ,bdZ,n⟩
def newV (p:Pl) (x:Bb) (t:Tc) (c:Bd) (now:Int):Bo :=
 if trackNewV t.proto t.inside t.flags=0 then boE 6
 else if p.most≤(x.sess.length:Int) then boE 9
 else if (if t.inside=true then (lendV p x.binds t.proto t.addr t.port).2 else 0)≠0 then boE (if t.inside=true then (lendV p x.binds t.proto t.addr t.port).2 else 0)
 else ⟨⟨newB x.binds (if t.inside=true then (lendV p x.binds t.proto t.addr t.port).1 else c),x.sess++[sessN p t (if t.inside=true then (lendV p x.binds t.proto t.addr t.port).1 else c) (trackNewV t.proto t.inside t.flags) now]⟩,(if t.inside=true then (lendV p x.binds t.proto t.addr t.port).1 else c),0⟩
def nextS (p:Pl) (t:Tc) (now:Int) (s:Ss):Ss:={ s with state:=trackNextV t.proto s.state t.inside t.flags,untl:=now+trackLifeV p.lv t.proto (trackNextV t.proto s.state t.inside t.flags) }
def setN (xs:List Ss) (i:Nat) (f:Ss→Ss):List Ss:=match xs[i]? with | some s=>xs.set i (f s) | none=>xs
def goneB (p:Pl) (x:Bb) (t:Tc) (c:Bd):Bool:=!t.inside&&(decide (p.filter=2)||(decide (p.filter=1)&&!x.sess.any (withA c t.peer)))
def goV (p:Pl) (x:Bb) (t:Tc) (now:Int):Bo :=
 match x.binds.find? (if t.inside=true then ofIn t.proto t.addr t.port else ofOut t.proto t.addr t.port) with
 | none=>if t.inside=true then newV p x t bdZ now else boE 6
 | some c=>match x.sess.findIdx? (withP c t.peer t.peerPort) with
  | none=>if goneB p x t c=true then boE 6 else newV p x t c now
  | some i=>⟨⟨x.binds,setN x.sess i (nextS p t now)⟩,c,0⟩
def bibTouchV (p:Pl) (x:Bb) (t:Tc) (now:Int):Bo:=if (bibOk p x&&isTime now&&touchOk t)=true then goV p x t now else boE 1
open Go.PlainAid Go.ChangeShapes Go.WideShapes
structure BoxV4 (w:World) (B:Nat) (p:P4):Prop where
 c0:w.cell? ⟨B,0,none⟩=some (.int .i64 p.tos)
 c1:w.cell? ⟨B,1,none⟩=some (.int .i64 p.id)
 c2:w.cell? ⟨B,2,none⟩=some (.bool p.whole)
 c3:w.cell? ⟨B,3,none⟩=some (.bool p.more)
 c4:w.cell? ⟨B,4,none⟩=some (.int .i64 p.off)
 c5:w.cell? ⟨B,5,none⟩=some (.int .i64 p.ttl)
 c6:w.cell? ⟨B,6,none⟩=some (.int .i64 p.proto)
 c7:w.cell? ⟨B,7,none⟩=some (.string p.src)
 c8:w.cell? ⟨B,8,none⟩=some (.string p.dst)
 c9:w.cell? ⟨B,9,none⟩=some (.string p.opts)
 c10:w.cell? ⟨B,10,none⟩=some (.string p.data)
theorem BoxV4.kept {w W:World} {B:Nat} {p:P4} (h:BoxV4 w B p) (hB:Below w.heap.size w W):BoxV4 W B p:=by
 have hb:=World.block_lt_of_cell? w _ h.c0;exact ⟨((bcell hB).1 B 0 hb).trans h.c0,((bcell hB).1 B 1 hb).trans h.c1,((bcell hB).1 B 2 hb).trans h.c2,((bcell hB).1 B 3 hb).trans h.c3,((bcell hB).1 B 4 hb).trans h.c4,((bcell hB).1 B 5 hb).trans h.c5,((bcell hB).1 B 6 hb).trans h.c6,((bcell hB).1 B 7 hb).trans h.c7,((bcell hB).1 B 8 hb).trans h.c8,((bcell hB).1 B 9 hb).trans h.c9,((bcell hB).1 B 10 hb).trans h.c10⟩
theorem BoxV4.new (w:World) (p:P4) {t:TypeId}:BoxV4 (w.alloc (.cells #[.int .i64 p.tos,.int .i64 p.id,.bool p.whole,.bool p.more,.int .i64 p.off,.int .i64 p.ttl,.int .i64 p.proto,.string p.src,.string p.dst,.string p.opts,.string p.data] t)) w.heap.size p:=⟨cell_new rfl,cell_new rfl,cell_new rfl,cell_new rfl,cell_new rfl,cell_new rfl,cell_new rfl,cell_new rfl,cell_new rfl,cell_new rfl,cell_new rfl⟩
end Go.Proofs.YtjpdljkjalnmhaaGreatDoor
namespace Go.Proofs.YtjpdljkjalnmhaaGreatDoor
open Go.RowKit Go.PlainAid
theorem implByte_any (n:Int) (w:World) :
  Calls Tryz.prog 52 #[.int .i64 n] w fun e w'=>e=.returned (.bool (isIn n 0 255))∧w'=w:=by
 by_cases h1:0≤n
 ·by_cases h2:n≤255
  ·have HV:Hid (isIn n 0 255=true):=by unfold Hid isIn; simp [h1,h2]
   go_enter Tryz.func52,Tryz.ntmps52
   go_wp2_with fail
   go_ret;exact ⟨ret_bool (by rw [HV.out]),rfl⟩
  ·have HV:Hid (isIn n 0 255=false):=by unfold Hid isIn; simp [h2]
   go_enter Tryz.func52,Tryz.ntmps52
   go_wp2_with fail
   go_ret;exact ⟨ret_bool (by rw [HV.out]),rfl⟩
 ·have HV:Hid (isIn n 0 255=false):=by unfold Hid isIn; simp [h1]
  have h1':n < 0:=by omega
  go_enter Tryz.func52,Tryz.ntmps52
  go_wp2_with fail
  go_ret;exact ⟨ret_bool (by rw [HV.out]),rfl⟩
theorem isLife_any (n:Int) (w:World) :
  Calls Tryz.prog 97 #[.int .i64 n] w fun e w'=>e=.returned (.bool (isIn n 1 10000))∧w'=w:=by
 by_cases h1:1≤n
 ·by_cases h2:n≤10000
  ·have HV:Hid (isIn n 1 10000=true):=by unfold Hid isIn; simp [h1,h2]
   go_enter Tryz.func97,Tryz.ntmps97
   go_wp2_with fail
   go_ret;exact ⟨ret_bool (by rw [HV.out]),rfl⟩
  ·have HV:Hid (isIn n 1 10000=false):=by unfold Hid isIn; simp [h2]
   go_enter Tryz.func97,Tryz.ntmps97
   go_wp2_with fail
   go_ret;exact ⟨ret_bool (by rw [HV.out]),rfl⟩
 ·have HV:Hid (isIn n 1 10000=false):=by unfold Hid isIn; simp [h1]
  have h1':n < 1:=by omega
  go_enter Tryz.func97,Tryz.ntmps97
  go_wp2_with fail
  go_ret;exact ⟨ret_bool (by rw [HV.out]),rfl⟩
theorem isState_any (n:Int) (w:World) :
  Calls Tryz.prog 60 #[.int .i64 n] w fun e w'=>e=.returned (.bool (isIn n 1 7))∧w'=w:=by
 by_cases h1:1≤n
 ·by_cases h2:n≤7
  ·have HV:Hid (isIn n 1 7=true):=by unfold Hid isIn; simp [h1,h2]
   go_enter Tryz.func60,Tryz.ntmps60
   go_wp2_with fail
   go_ret;exact ⟨ret_bool (by rw [HV.out]),rfl⟩
  ·have HV:Hid (isIn n 1 7=false):=by unfold Hid isIn; simp [h2]
   go_enter Tryz.func60,Tryz.ntmps60
   go_wp2_with fail
   go_ret;exact ⟨ret_bool (by rw [HV.out]),rfl⟩
 ·have HV:Hid (isIn n 1 7=false):=by unfold Hid isIn; simp [h1]
  have h1':n < 1:=by omega
  go_enter Tryz.func60,Tryz.ntmps60
  go_wp2_with fail
  go_ret;exact ⟨ret_bool (by rw [HV.out]),rfl⟩
theorem implStill_any (proto:Int) (w:World) :
  Calls Tryz.prog 59 #[.int .i64 proto] w fun e w'=>e=.returned (.bool (stillP proto))∧w'=w:=by
 by_cases h1:proto=17
 ·have HV:Hid (stillP proto=true):=by unfold Hid stillP; simp [h1]
  go_enter Tryz.func59,Tryz.ntmps59
  go_wp2_with fail
  go_ret;exact ⟨ret_bool HV.out.symm,rfl⟩
 ·by_cases h2:proto=1
  ·have HV:Hid (stillP proto=true):=by unfold Hid stillP; simp [h2]
   go_enter Tryz.func59,Tryz.ntmps59
   go_wp2_with fail
   go_ret;exact ⟨ret_bool HV.out.symm,rfl⟩
  ·have HV:Hid (stillP proto=false):=by unfold Hid stillP; simp [h1,h2]
   go_enter Tryz.func59,Tryz.ntmps59
   go_wp2_with fail
   go_ret;exact ⟨ret_bool (by rw [HV.out]; simp [h1,h2]),rfl⟩
theorem implLives_any (l:Lv) (w:World) :
  Calls Tryz.prog 63 #[lvC l] w fun e w'=>e=.returned (.bool (livesOk l))∧Below w.heap.size w w':=by
 have HC0:Hid (∀ W,Calls Tryz.prog 97 #[.int .i64 l.udp] W fun e w'=>e=.returned (.bool (isIn l.udp 1 10000))∧w'=W):=fun W=>isLife_any _ W
 have HC1:Hid (∀ W,Calls Tryz.prog 97 #[.int .i64 l.echo] W fun e w'=>e=.returned (.bool (isIn l.echo 1 10000))∧w'=W):=fun W=>isLife_any _ W
 have HC2:Hid (∀ W,Calls Tryz.prog 97 #[.int .i64 l.opening] W fun e w'=>e=.returned (.bool (isIn l.opening 1 10000))∧w'=W):=fun W=>isLife_any _ W
 have HC3:Hid (∀ W,Calls Tryz.prog 97 #[.int .i64 l.opn] W fun e w'=>e=.returned (.bool (isIn l.opn 1 10000))∧w'=W):=fun W=>isLife_any _ W
 have HC4:Hid (∀ W,Calls Tryz.prog 97 #[.int .i64 l.closing] W fun e w'=>e=.returned (.bool (isIn l.closing 1 10000))∧w'=W):=fun W=>isLife_any _ W
 have HV:Hid (livesOk l=(isIn l.udp 1 10000&&isIn l.echo 1 10000&&isIn l.opening 1 10000&&isIn l.opn 1 10000&&isIn l.closing 1 10000)):=rfl;generalize livesOk l=ans at *;generalize isIn l.udp 1 10000=b0 at *;generalize isIn l.echo 1 10000=b1 at *;generalize isIn l.opening 1 10000=b2 at *;generalize isIn l.opn 1 10000=b3 at *;generalize isIn l.closing 1 10000=b4 at *;have HZ:Hid (Below w.heap.size w (w.alloc (.cells #[.int .i64 l.udp,.int .i64 l.echo,.int .i64 l.opening,.int .i64 l.opn,.int .i64 l.closing] 25))):=(Below.refl _ _).alloc (Nat.le_refl _) _;unfold lvC;go_enter Tryz.func63,Tryz.ntmps63
 go_wp2_with fail
 cases b0 with
 | false =>
  refine (HC0.out _).mono ?_;rintro e w0 ⟨rfl,rfl⟩;go_wp2_with fail
  go_ret;exact ⟨ret_bool (by rw [HV.out]; rfl),HZ.out⟩
 | true =>
  refine (HC0.out _).mono ?_;rintro e w0 ⟨rfl,rfl⟩;go_wp2_with fail
  cases b1 with
  | false =>
   refine (HC1.out _).mono ?_;rintro e w1 ⟨rfl,rfl⟩;go_wp2_with fail
   go_ret;exact ⟨ret_bool (by rw [HV.out]; rfl),HZ.out⟩
  | true =>
   refine (HC1.out _).mono ?_;rintro e w1 ⟨rfl,rfl⟩;go_wp2_with fail
   cases b2 with
   | false =>
    refine (HC2.out _).mono ?_;rintro e w2 ⟨rfl,rfl⟩;go_wp2_with fail
    go_ret;exact ⟨ret_bool (by rw [HV.out]; rfl),HZ.out⟩
   | true =>
    refine (HC2.out _).mono ?_;rintro e w2 ⟨rfl,rfl⟩;go_wp2_with fail
    cases b3 with
    | false =>
     refine (HC3.out _).mono ?_;rintro e w3 ⟨rfl,rfl⟩;go_wp2_with fail
     go_ret;exact ⟨ret_bool (by rw [HV.out]; rfl),HZ.out⟩
    | true =>
     refine (HC3.out _).mono ?_;rintro e w3 ⟨rfl,rfl⟩;go_wp2_with fail
     cases b4 with
     | false =>
      refine (HC4.out _).mono ?_;rintro e w4 ⟨rfl,rfl⟩;go_wp2_with fail
      go_ret;exact ⟨ret_bool (by rw [HV.out]; rfl),HZ.out⟩
     | true =>
      refine (HC4.out _).mono ?_;rintro e w4 ⟨rfl,rfl⟩;go_wp2_with fail
      go_ret;exact ⟨ret_bool (by rw [HV.out]; rfl),HZ.out⟩
theorem connLife_any (l:Lv) (state:Int) (w:World) :
  Calls Tryz.prog 64 #[lvC l,.int .i64 state] w fun e w'=>e=.returned (.int .i64 (if state=1∨state=2 then l.opening else if state=3∨state=4∨state=5 then l.opn else if state=6∨state=7 then l.closing else 0))∧Below w.heap.size w w':=by
 have HZ:Hid (Below w.heap.size w (w.alloc (.cells #[.int .i64 l.udp,.int .i64 l.echo,.int .i64 l.opening,.int .i64 l.opn,.int .i64 l.closing] 25))):=(Below.refl _ _).alloc (Nat.le_refl _) _;obtain ⟨ans,hans⟩ : ∃ x,x=(if state=1∨state=2 then l.opening else if state=3∨state=4∨state=5 then l.opn else if state=6∨state=7 then l.closing else 0):=⟨_,rfl⟩;rw [← hans];have HX:Hid (ans=_):=hans;clear hans;unfold lvC;by_cases s1:state=1
 ·subst s1; simp at HX; go_enter Tryz.func64,Tryz.ntmps64; go_wp2_with fail; go_ret; exact ⟨ret_int HX.out.symm,HZ.out⟩
 by_cases s2:state=2
 ·subst s2; simp at HX; go_enter Tryz.func64,Tryz.ntmps64; go_wp2_with fail; go_ret; exact ⟨ret_int HX.out.symm,HZ.out⟩
 by_cases s3:state=3
 ·subst s3; simp at HX; go_enter Tryz.func64,Tryz.ntmps64; go_wp2_with fail; go_ret; exact ⟨ret_int HX.out.symm,HZ.out⟩
 by_cases s4:state=4
 ·subst s4; simp at HX; go_enter Tryz.func64,Tryz.ntmps64; go_wp2_with fail; go_ret; exact ⟨ret_int HX.out.symm,HZ.out⟩
 by_cases s5:state=5
 ·subst s5; simp at HX; go_enter Tryz.func64,Tryz.ntmps64; go_wp2_with fail; go_ret; exact ⟨ret_int HX.out.symm,HZ.out⟩
 by_cases s6:state=6
 ·subst s6; simp at HX; go_enter Tryz.func64,Tryz.ntmps64; go_wp2_with fail; go_ret; exact ⟨ret_int HX.out.symm,HZ.out⟩
 by_cases s7:state=7
 ·subst s7; simp at HX; go_enter Tryz.func64,Tryz.ntmps64; go_wp2_with fail; go_ret; exact ⟨ret_int HX.out.symm,HZ.out⟩
 simp [s1,s2,s3,s4,s5,s6,s7] at HX;go_enter Tryz.func64,Tryz.ntmps64
 go_wp2_with fail
 go_ret;exact ⟨ret_int HX.out.symm,HZ.out⟩
theorem implLife_any (l:Lv) (proto state:Int) (w:World) :
  Calls Tryz.prog 25 #[lvC l,.int .i64 proto,.int .i64 state] w fun e w'=>e=.returned (.int .i64 (trackLifeV l proto state))∧Below w.heap.size w w':=by
 have HL:Hid (∀ W,Calls Tryz.prog 63 #[lvC l] W fun e w'=>e=.returned (.bool (livesOk l))∧Below W.heap.size W w'):=fun W=>implLives_any l W
 have HN:Hid (∀ W,Calls Tryz.prog 64 #[lvC l,.int .i64 state] W fun e w'=>e=.returned (.int .i64 (if state=1∨state=2 then l.opening else if state=3∨state=4∨state=5 then l.opn else if state=6∨state=7 then l.closing else 0))∧Below W.heap.size W w'):=fun W=>connLife_any l state W
 have HK:Hid (BoxLives (w.alloc (.cells #[.int .i64 l.udp,.int .i64 l.echo,.int .i64 l.opening,.int .i64 l.opn,.int .i64 l.closing] 25)) w.heap.size l):=BoxLives.new w l;have HZ:Hid (Below w.heap.size w (w.alloc (.cells #[.int .i64 l.udp,.int .i64 l.echo,.int .i64 l.opening,.int .i64 l.opn,.int .i64 l.closing] 25))):=(Below.refl _ _).alloc (Nat.le_refl _) _;unfold lvC at HL HN ⊢
 cases hl:livesOk l with
 | false =>
  have HX:Hid (trackLifeV l proto state=0):=by unfold Hid trackLifeV; rw [if_pos hl]
  rw [hl] at HL;clear hl;go_enter Tryz.func25,Tryz.ntmps25
  go_wp2_with fail
  refine (HL.out _).mono ?_;rintro e w1 ⟨rfl,q1⟩;have G1:Hid (Below w.heap.size w w1):=HZ.out.trans (q1.mono HZ.out.size);clear q1;go_wp2_with fail
  go_ret;exact ⟨ret_int HX.out.symm,G1.out⟩
 | true =>
  generalize hcl:(if state=1∨state=2 then l.opening else if state=3∨state=4∨state=5 then l.opn else if state=6∨state=7 then l.closing else 0)=cl at HN;have HX:Hid (trackLifeV l proto state=if proto=17 then l.udp else if proto=1 then l.echo else if proto=6 then cl else 0):=by unfold Hid trackLifeV; rw [if_neg (by rw [hl]; decide),hcl]
  rw [hl] at HL;clear hl hcl;go_enter Tryz.func25,Tryz.ntmps25
  go_wp2_with fail
  refine (HL.out _).mono ?_;rintro e w1 ⟨rfl,q1⟩;have G1:Hid (Below w.heap.size w w1):=HZ.out.trans (q1.mono HZ.out.size);obtain ⟨k0,k1,k2,k3,k4⟩:=HK.out.kept q1;clear q1 HZ HK HL;by_cases p0:proto=17
  ·subst p0;rw [if_pos rfl] at HX;go_wp2_with fail
   go_ret;exact ⟨ret_int HX.out.symm,G1.out⟩
  ·by_cases p1:proto=1
   ·subst p1;rw [if_neg (by decide),if_pos rfl] at HX;go_wp2_with fail
    go_ret;exact ⟨ret_int HX.out.symm,G1.out⟩
   ·rw [if_neg p0,if_neg p1] at HX;by_cases p6:proto=6
    ·subst p6;rw [if_pos rfl] at HX;clear p0 p1;go_wp2_with fail
     refine (HN.out _).mono ?_;rintro e w2 ⟨rfl,q2⟩;have G2:Hid (Below w.heap.size w w2):=G1.out.trans (q2.mono G1.out.size);clear q2;go_wp2_with fail
     go_ret;exact ⟨ret_int HX.out.symm,G2.out⟩
    ·rw [if_neg p6] at HX;go_wp2_with fail
     go_ret;exact ⟨ret_int HX.out.symm,G1.out⟩
def waitV (state flags:Int):Bool:=if state=1∨state=2 then flagB flags 2 else if state=3∨state=4∨state=5 then flagB flags 1 else true
theorem waits_any (state flags:Int) (w:World) (hr:state=1∨state=2∨state=3∨state=4∨state=5∨state=6∨state=7) :
  Calls Tryz.prog 62 #[.int .i64 state,.int .i64 flags] w fun e w'=>e=.returned (.bool (waitV state flags))∧w'=w:=by
 obtain ⟨ans,hans⟩ : ∃ x,x=waitV state flags:=⟨_,rfl⟩;rw [← hans];have HX:Hid (ans=waitV state flags):=hans;clear hans;have e1:flagB flags 1=decide (¬ bits .and .i64 flags 1=0):=rfl;have e2:flagB flags 2=decide (¬ bits .and .i64 flags 2=0):=rfl;unfold waitV at HX;rw [e1,e2] at HX;clear e1 e2;rcases hr with rfl | rfl | rfl | rfl | rfl | rfl | rfl<;>by_cases h1:bits .and .i64 flags 1=0<;>by_cases h2:bits .and .i64 flags 2=0
 all_goals
  simp [h1,h2] at HX;go_enter Tryz.func62,Tryz.ntmps62
  go_wp2_with fail
  go_ret;exact ⟨ret_bool (by first | exact HX.out.symm | (rw [HX.out]; simp [h1,h2])),rfl⟩
theorem from_any (a b:Int) (inside:Bool) (w:World) :
  Calls Tryz.prog 61 #[.agg #[.int .i64 a,.int .i64 b],.bool inside] w fun e w'=>e=.returned (.int .i64 (if inside=true then a else b))∧Below w.heap.size w w':=by
 have HZ:Hid (Below w.heap.size w (w.alloc (.cells #[.int .i64 a,.int .i64 b] 98))):=(Below.refl _ _).alloc (Nat.le_refl _) _
 cases inside;all_goals
  go_enter Tryz.func61,Tryz.ntmps61
  go_wp2_with fail
  go_ret;exact ⟨ret_int (by simp),HZ.out⟩
def TabB (w:World):Prop:=∀ i:Nat,i < 16→w.cell? ⟨0,i,none⟩=some (.int .i64 ([0,0,0,3,3,0,4,5,0,6,6,0,0,0,3,3].getD i 0))
theorem TabB.below {w W:World} (h:TabB w) (hb:Below w.heap.size w W):TabB W:=fun i hi=>((bcell hb).1 _ _ (World.block_lt_of_cell? w _ (h i hi))).trans (h i hi)
theorem next_six (state:Int) (inside:Bool) (flags:Int) (hb:isIn state 1 7=true) (hc:isIn flags 0 255=true):trackNextV 6 state inside flags=(
  if flagB flags 4=true then 7
  else if state=1 then (if inside=false∧flagB flags 2=true then 3 else 1)
  else if state=2 then (if inside=true∧flagB flags 2=true then 3 else 2)
  else if state=3 then (if flagB flags 1=true then (if inside=true then 4 else 5) else 3)
  else if state=4 then (if inside=false∧flagB flags 1=true then 6 else 4)
  else if state=5 then (if inside=true∧flagB flags 1=true then 6 else 5)
  else if state=7 then 3 else state):=by
 unfold trackNextV; rw [if_neg (by decide),if_pos ⟨rfl,hb,hc⟩]
theorem implNext_any (proto state:Int) (inside:Bool) (flags:Int) (w:World) (hT:TabB w) :
  Calls Tryz.prog 24 #[.int .i64 proto,.int .i64 state,.bool inside,.int .i64 flags] w fun e w'=>e=.returned (.int .i64 (trackNextV proto state inside flags))∧Below w.heap.size w w':=by
 have HA:Hid (∀ W,Calls Tryz.prog 59 #[.int .i64 proto] W fun e w'=>e=.returned (.bool (stillP proto))∧w'=W):=fun W=>implStill_any _ W
 have HB:Hid (∀ W,Calls Tryz.prog 60 #[.int .i64 state] W fun e w'=>e=.returned (.bool (isIn state 1 7))∧w'=W):=fun W=>isState_any _ W
 have HC:Hid (∀ W,Calls Tryz.prog 52 #[.int .i64 flags] W fun e w'=>e=.returned (.bool (isIn flags 0 255))∧w'=W):=fun W=>implByte_any _ W
 cases hs:stillP proto with
 | true =>
  have HX:Hid (trackNextV proto state inside flags=3):=by unfold Hid trackNextV; rw [if_pos hs]
  rw [hs] at HA;clear hs hT;go_enter Tryz.func24,Tryz.ntmps24
  go_wp2_with fail
  refine (HA.out _).mono ?_;rintro e w1 ⟨rfl,rfl⟩;go_wp2_with fail
  go_ret;exact ⟨ret_int HX.out.symm,Below.refl _ _⟩
 | false =>
  rw [hs] at HA;have HS:Hid (stillP proto=false):=hs;clear hs;by_cases hp:proto=6
  ·subst hp
   cases hb:isIn state 1 7 with
   | false =>
    have HX:Hid (trackNextV 6 state inside flags=0):=by unfold Hid trackNextV; rw [if_neg (by rw [HS.out]; decide),if_neg (by rw [hb]; simp)]
    rw [hb] at HB;clear hb hT;go_enter Tryz.func24,Tryz.ntmps24
    go_wp2_with fail
    refine (HA.out _).mono ?_;rintro e w1 ⟨rfl,rfl⟩;go_wp2_with fail
    refine (HB.out _).mono ?_;rintro e w1 ⟨rfl,rfl⟩;go_wp2_with fail
    go_ret;exact ⟨ret_int HX.out.symm,Below.refl _ _⟩
   | true =>
    cases hc:isIn flags 0 255 with
    | false =>
     have HX:Hid (trackNextV 6 state inside flags=0):=by unfold Hid trackNextV; rw [if_neg (by rw [HS.out]; decide),if_neg (by rw [hc]; simp)]
     rw [hb] at HB;rw [hc] at HC;clear hb hc hT;go_enter Tryz.func24,Tryz.ntmps24
     go_wp2_with fail
     refine (HA.out _).mono ?_;rintro e w1 ⟨rfl,rfl⟩;go_wp2_with fail
     refine (HB.out _).mono ?_;rintro e w1 ⟨rfl,rfl⟩;go_wp2_with fail
     refine (HC.out _).mono ?_;rintro e w1 ⟨rfl,rfl⟩;go_wp2_with fail
     go_ret;exact ⟨ret_int HX.out.symm,Below.refl _ _⟩
    | true =>
     have HX:Hid _:=next_six state inside flags hb hc;rw [hb] at HB;rw [hc] at HC;have hr:state=1∨state=2∨state=3∨state=4∨state=5∨state=6∨state=7:=by
      unfold isIn at hb; simp only [Bool.and_eq_true,decide_eq_true_eq] at hb; omega
     have HW:Hid (∀ W,Calls Tryz.prog 62 #[.int .i64 state,.int .i64 flags] W fun e w'=>e=.returned (.bool (waitV state flags))∧w'=W):=fun W=>waits_any state flags W hr
     have HF:Hid (∀ a b W,Calls Tryz.prog 61 #[.agg #[.int .i64 a,.int .i64 b],.bool inside] W fun e w'=>e=.returned (.int .i64 (if inside=true then a else b))∧Below W.heap.size W w'):=fun a b W=>from_any a b inside W
     clear hb hc;have k0:=hT 0 (by decide);have k1:=hT 1 (by decide);have k2:=hT 2 (by decide);have k3:=hT 3 (by decide);have k4:=hT 4 (by decide);have k5:=hT 5 (by decide);have k6:=hT 6 (by decide);have k7:=hT 7 (by decide);have k8:=hT 8 (by decide);have k9:=hT 9 (by decide);have k10:=hT 10 (by decide);have k11:=hT 11 (by decide);have k12:=hT 12 (by decide);have k13:=hT 13 (by decide);have k14:=hT 14 (by decide);have k15:=hT 15 (by decide);simp only [List.getD_cons_zero,List.getD_cons_succ] at k0 k1 k2 k3 k4 k5 k6 k7 k8 k9 k10 k11 k12 k13 k14 k15;clear hT;go_enter Tryz.func24,Tryz.ntmps24
     go_wp2_with fail
     refine (HA.out _).mono ?_;rintro e w1 ⟨rfl,rfl⟩;go_wp2_with fail
     refine (HB.out _).mono ?_;rintro e w1 ⟨rfl,rfl⟩;go_wp2_with fail
     refine (HC.out _).mono ?_;rintro e w1 ⟨rfl,rfl⟩;clear HA HB HC;go_upto_region 5 with fail
     by_cases h4:bits .and .i64 flags 4=0
     ·have n4:flagB flags 4=false:=by unfold flagB; simp [h4]
      rw [n4,if_neg (by decide)] at HX;clear n4;have e1:flagB flags 1=decide (¬ bits .and .i64 flags 1=0):=rfl;have e2:flagB flags 2=decide (¬ bits .and .i64 flags 2=0):=rfl;unfold waitV at HW;rw [e1,e2] at HX HW;clear e1 e2;rcases hr with rfl | rfl | rfl | rfl | rfl | rfl | rfl<;>by_cases h1:bits .and .i64 flags 1=0<;>by_cases h2:bits .and .i64 flags 2=0<;>cases inside
      all_goals
       simp [h1,h2] at HX;simp [h1,h2] at HW;simp at HF;go_wp2_with fail
       refine (HF.out _ _ _).mono ?_;rintro e w2 ⟨rfl,q2⟩;have G2:Hid (Below w1.heap.size w1 w2):=q2;clear q2;go_wp2_with (go_at_call 62; refine (HW.out _).mono ?_; rintro e w3 ⟨rfl,rfl⟩)
       go_ret;exact ⟨ret_int HX.out.symm,G2.out⟩
     ·have HY:Hid (trackNextV 6 state inside flags=7):=by unfold Hid; rw [HX.out,if_pos (by unfold flagB; exact decide_eq_true h4)]
      go_wp2_with fail
      go_ret;exact ⟨ret_int HY.out.symm,Below.refl _ _⟩
  ·have HX:Hid (trackNextV proto state inside flags=0):=by unfold Hid trackNextV; rw [if_neg (by rw [HS.out]; decide),if_neg (fun h=>hp h.1)]
   clear hT;go_enter Tryz.func24,Tryz.ntmps24
   go_wp2_with fail
   refine (HA.out _).mono ?_;rintro e w1 ⟨rfl,rfl⟩;go_wp2_with fail
   go_ret;exact ⟨ret_int HX.out.symm,Below.refl _ _⟩
end Go.Proofs.YtjpdljkjalnmhaaGreatDoor
