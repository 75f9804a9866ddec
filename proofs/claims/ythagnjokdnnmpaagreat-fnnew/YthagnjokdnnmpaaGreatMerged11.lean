import Derived.Test.YthagnjokdnnmpaaGreatMerged1
import Derived.Test.YthagnjokdnnmpaaGreatMerged9
import Derived.Deep.RegionWith
import Derived.Test.YthagnjokdnnmpaaGreatMerged10
import Derived.Test.YthagnjokdnnmpaaGreatMerged3
import Derived.Test.YthagnjokdnnmpaaGreatMerged7
import Derived.Deep.DeepCutAuto
import Derived.Test.YthagnjokdnnmpaaGreatHoldL
import Derived.Maps.AppendAt
import Derived.OwnWalk
set_option linter.unusedVariables false
set_option linter.unusedSimpArgs false
set_option maxRecDepth 100000
set_option maxHeartbeats 8000000
namespace Go.Proofs.YthagnjokdnnmpaaGreat
open Go.RowKit Go.PlainAid
def oneM (x:Nat):ByteArray:=⟨#[UInt8.ofNat x]⟩
def markA (k:Nat) (o:ByteArray):ByteArray:=if h:k=0 then o else markA (k / 10) (oneM (48+k % 10)++o)
termination_by k
decreasing_by omega
def emM:ByteArray:=⟨#[109]⟩
def markV (k:Nat):ByteArray:=emM++markA k ⟨#[]⟩
def marksOf (n k L:Nat):List Nat:=(List.range L).map fun i=>k+n*i
theorem marksOf_get (n k L i:Nat) (h:i < (marksOf n k L).length):(marksOf n k L)[i]=k+n*i:=by simp [marksOf]
structure MkSt (en:Nat→List Value) (n:Nat) (w0:World) (B k L m:Nat) (cs:List Value) (w:World):Prop where
 laid:SlLaid en n w B (marksOf n k L) L m
 part:w.rangeAt B (m*n) cs
 grown:w0.grownBy w (some B)
section
variable {en:Nat→List Value} {n:Nat} {w0 w w':World} {B k L m:Nat} {cs:List Value}
theorem MkSt.new (h:SlLaid en n w B (marksOf n k L) L m) (hg:w0.grownBy w (some B)):MkSt en n w0 B k L m [] w:=⟨h,fun j v hv=>by simp at hv,hg⟩
theorem MkSt.idx (hm:m < L) {j:Nat} (hj:j < n):m*n+j < L*n:=by
 have:=Nat.mul_le_mul_right n (show m+1≤L from hm); rw [Nat.succ_mul] at this; omega
theorem MkSt.put (h:MkSt en n w0 B k L m cs w) (hn:∀ x,(en x).length=n) (hc:cs.length < n) (hm:m < L) (v:Value):MkSt en n w0 B k L m (cs++[v]) (w.setCell ⟨B,m*n+cs.length,none⟩ v):=by
 have hix:=MkSt.idx hm hc;obtain ⟨x,hx⟩:=Option.isSome_iff_exists.1 (h.laid.there _ hix);have ho:∀ o,o≠m*n+cs.length→(w.setCell ⟨B,m*n+cs.length,none⟩ v).cell? ⟨B,o,none⟩=w.cell? ⟨B,o,none⟩:=fun o ho=>World.cell?_setCell_other _ _ _ _ (fun e=>ho (by injection e with _ e2; exact e2.symm))
 have hs:(w.setCell ⟨B,m*n+cs.length,none⟩ v).cell? ⟨B,m*n+cs.length,none⟩=some v:=World.cell?_setCell_same _ _ _ hx;refine ⟨⟨?_,fun i hi hk j u hu=>?_,fun i hi=>?_,fun i hi=>by rw [World.frozen?_setCell]; exact h.laid.free i hi⟩,fun j u hu=>?_,grown_set h.grown v⟩
 ·exact Nat.lt_of_lt_of_le h.laid.blk (((Below.refl 0 w).setCell (p:=⟨B,m*n+cs.length,none⟩) (Nat.zero_le _) v).size)
 ·have hj:=(List.getElem?_eq_some_iff.1 hu).1;rw [hn] at hj;have hle:i*n+n≤m*n:=by have:=Nat.mul_le_mul_right n (show i+1≤m by omega); rw [Nat.succ_mul] at this; exact this
  rw [ho _ (by omega)]; exact h.laid.at0 i hi hk j u hu
 ·by_cases e:i=m*n+cs.length
  ·rw [e,hs]; rfl
  ·rw [ho _ e]; exact h.laid.there i hi
 ·by_cases e:j < cs.length
  ·rw [List.getElem?_append_left e] at hu;rw [ho _ (by omega)]; exact h.part j u hu
  ·have hj:=(List.getElem?_eq_some_iff.1 hu).1;rw [List.length_append] at hj;have:j=cs.length:=by simp at hj; omega
   subst this;simp at hu;rw [hs,hu]
theorem MkSt.call (h:MkSt en n w0 B k L m cs w) (q:Below w.heap.size w w'):MkSt en n w0 B k L m cs w' :=
 ⟨h.laid.kept q,fun j v hv=>((bcell q).1 B _ h.laid.blk).trans (h.part j v hv),grown_trans h.grown (grown_of_below q)⟩
theorem MkSt.there (h:MkSt en n w0 B k L m cs w) (hm:m < L) {j:Nat} (hj:j < n):∃ v,w.cell? ⟨B,m*n+j,none⟩=some v:=Option.isSome_iff_exists.1 (h.laid.there _ (MkSt.idx hm hj))
theorem MkSt.free (h:MkSt en n w0 B k L m cs w) (hm:m < L) {j:Nat} (hj:j < n):w.frozen? ⟨B,m*n+j,none⟩=false:=h.laid.free _ (MkSt.idx hm hj)
theorem MkSt.next (hn:∀ x,(en x).length=n) (h:MkSt en n w0 B k L m cs w) (hc:cs=en (k+n*m)) (hm:m < L):SlLaid en n w B (marksOf n k L) L (m+1):=by
 refine ⟨h.laid.blk,fun i hi hk j v hv=>?_,h.laid.there,h.laid.free⟩;by_cases e:i=m
 ·subst e;rw [marksOf_get,← hc] at hv;exact h.part j v hv
 ·exact h.laid.at0 i hi (by omega) j v hv
end
end Go.Proofs.YthagnjokdnnmpaaGreat
namespace Go.Proofs.YthagnjokdnnmpaaGreat
open Go.RowKit
structure Bd where
 proto:Int
 inn:ByteArray
 inPort:Int
 out:ByteArray
 outPort:Int
def bdC (p:Bd):Value:=.agg #[.int .i64 p.proto,.string p.inn,.int .i64 p.inPort,.string p.out,.int .i64 p.outPort]
def bdL (p:Bd):List Value:=[.int .i64 p.proto,.string p.inn,.int .i64 p.inPort,.string p.out,.int .i64 p.outPort]
theorem bdL_length (p:Bd):(bdL p).length=5:=rfl
instance:Inhabited Bd:=⟨⟨0,⟨#[]⟩,0,⟨#[]⟩,0⟩⟩
structure Ss where
 proto:Int
 inn:ByteArray
 inPort:Int
 peer:ByteArray
 peerPort:Int
 state:Int
 untl:Int
def ssC (p:Ss):Value:=.agg #[.int .i64 p.proto,.string p.inn,.int .i64 p.inPort,.string p.peer,.int .i64 p.peerPort,.int .i64 p.state,.int .i64 p.untl]
def ssL (p:Ss):List Value:=[.int .i64 p.proto,.string p.inn,.int .i64 p.inPort,.string p.peer,.int .i64 p.peerPort,.int .i64 p.state,.int .i64 p.untl]
theorem ssL_length (p:Ss):(ssL p).length=7:=rfl
instance:Inhabited Ss:=⟨⟨0,⟨#[]⟩,0,⟨#[]⟩,0,0,0⟩⟩
structure Tc where
 proto:Int
 inside:Bool
 addr:ByteArray
 port:Int
 peer:ByteArray
 peerPort:Int
 flags:Int
structure Pl where
 addrs:List ByteArray
 low:Int
 high:Int
 most:Int
 filter:Int
 lv:Lv
def plL (a:Option Addr) (cap:Nat) (p:Pl):List Value:=[.slice a p.addrs.length cap,.int .i64 p.low,.int .i64 p.high,.int .i64 p.most,.int .i64 p.filter,.int .i64 p.lv.udp,.int .i64 p.lv.echo,.int .i64 p.lv.opening,.int .i64 p.lv.opn,.int .i64 p.lv.closing]
def plC (a:Option Addr) (cap:Nat) (p:Pl):Value:=.agg #[.slice a p.addrs.length cap,.int .i64 p.low,.int .i64 p.high,.int .i64 p.most,.int .i64 p.filter,.int .i64 p.lv.udp,.int .i64 p.lv.echo,.int .i64 p.lv.opening,.int .i64 p.lv.opn,.int .i64 p.lv.closing]
structure Bb where
 binds:List Bd
 sess:List Ss
def bbC (a b:Option Addr) (ca cb:Nat) (x:Bb):Value:=.agg #[.slice a x.binds.length ca,.slice b x.sess.length cb]
def strL1 (s:ByteArray):List Value:=[.string s]
def protoB (proto:Int):Bool:=decide (proto=6)||decide (proto=17)||decide (proto=1)
def inL (xs:List ByteArray) (s:ByteArray):Bool:=xs.any fun t=>decide (t.toList=s.toList)
def findI {α:Type} (f:α→Bool) (xs:List α):Int:=match xs.findIdx? f with | some i=>i | none=>-1
def ofIn (proto:Int) (s:ByteArray) (port:Int) (q:Bd):Bool:=decide (q.proto=proto)&&decide (q.inn.toList=s.toList)&&decide (q.inPort=port)
def ofOut (proto:Int) (s:ByteArray) (port:Int) (q:Bd):Bool:=decide (q.proto=proto)&&decide (q.out.toList=s.toList)&&decide (q.outPort=port)
def hasS (p:Bd) (q:Ss):Bool:=decide (p.proto=q.proto)&&decide (p.inn.toList=q.inn.toList)&&decide (p.inPort=q.inPort)
def upN {α:Type} (f:List α→α→Bool) (xs:List α):Nat→Bool
 | 0=>true
 | n+1=>upN f xs n&&(match xs[n]? with | some x=>f (xs.take n) x | none=>true)
theorem upN_step {α:Type} {f:List α→α→Bool} {xs:List α} {n:Nat} (h:n < xs.length):upN f xs (n+1)=(upN f xs n&&f (xs.take n) xs[n]):=by
 show (upN f xs n&&_)=_;rw [List.getElem?_eq_getElem h]
theorem upN_false {α:Type} {f:List α→α→Bool} {xs:List α}:∀ {m n:Nat},n≤m→upN f xs n=false→upN f xs m=false
 | 0,n,h,hf=>by have e:n=0:=(by omega); rw [e] at hf; exact hf
 | m+1,n,h,hf=>by
  by_cases e:n=m+1
  ·subst e; exact hf
  ·show (upN f xs m&&_)=false;rw [upN_false (m:=m) (n:=n) (by omega) hf]; rfl
theorem upN_at {α:Type} {f:List α→α→Bool} {xs:List α} {i:Nat} (h:i < xs.length) (hf:f (xs.take i) xs[i]=false):upN f xs xs.length=false:=by
 refine upN_false (n:=i+1) (by omega) ?_;rw [upN_step h,hf,Bool.and_false]
def addrOne (ys:List ByteArray) (s:ByteArray):Bool:=decide (s.size=4)&&!inL ys s
def poolOk (p:Pl):Bool:=decide (1≤p.addrs.length)&&decide (p.addrs.length≤8)&&decide (1≤p.low)&&decide (p.low≤p.high)&&decide (p.high≤65535)&&isIn p.most 1 60&&isIn p.filter 0 2&&livesOk p.lv&&upN addrOne p.addrs p.addrs.length
def clashB (c b:Bd):Bool:=(decide (c.inn.toList=b.inn.toList)&&!decide (c.out.toList=b.out.toList))||(decide (c.proto=b.proto)&&((decide (c.inn.toList=b.inn.toList)&&decide (c.inPort=b.inPort))||(decide (c.out.toList=b.out.toList)&&decide (c.outPort=b.outPort))))
def bindOne (p:Pl) (ys:List Bd) (b:Bd):Bool:=protoB b.proto&&addrOk b.inn&&isW b.inPort&&inL p.addrs b.out&&isIn b.outPort p.low p.high&&!ys.any fun c=>clashB c b
def sameS (s t:Ss):Bool:=decide (s.proto=t.proto)&&decide (s.inn.toList=t.inn.toList)&&decide (s.inPort=t.inPort)&&decide (s.peer.toList=t.peer.toList)&&decide (s.peerPort=t.peerPort)
def sessOne (bs:List Bd) (ys:List Ss) (s:Ss):Bool:=decide (s.peer.size=4)&&isW s.peerPort&&isIn s.state 1 7&&(decide (s.proto=6)||decide (s.state=3))&&isIn s.untl 0 2000000000&&decide (0≤findI (ofIn s.proto s.inn s.inPort) bs)&&!ys.any fun t=>sameS s t
def bibOk (p:Pl) (b:Bb):Bool:=poolOk p&&decide ((b.sess.length:Int)≤p.most)&&decide (b.binds.length≤60)&&upN (bindOne p) b.binds b.binds.length&&upN (sessOne b.binds) b.sess b.sess.length&&b.binds.all fun x=>b.sess.any fun s=>hasS x s
open Go.PlainAid Go.ChangeShapes Go.WideShapes
theorem SlLaid.setOther {α:Type} {en:α→List Value} {n:Nat} {w:World} {B X o:Nat} {xs:List α} {L k:Nat} (h:SlLaid en n w B xs L k) (hne:B≠X) (v:Value):SlLaid en n (w.setCell ⟨X,o,none⟩ v) B xs L k:=by
 have ho:∀ i,(w.setCell ⟨X,o,none⟩ v).cell? ⟨B,i,none⟩=w.cell? ⟨B,i,none⟩:=fun i=>World.cell?_setCell_other _ _ _ _ (fun e=>hne (by injection e with h1 h2; exact h1.symm))
 exact ⟨Nat.lt_of_lt_of_le h.blk ((Below.refl 0 w).setCell (Nat.zero_le _) _).size,fun i hi hk j u hu=>(ho _).trans (h.at0 i hi hk j u hu),fun i hi=>by rw [ho]; exact h.there i hi,fun i hi=>by rw [World.frozen?_setCell]; exact h.free i hi⟩
theorem strL1_length (s:ByteArray):(strL1 s).length=1:=rfl
section
variable {H:Type} {enc:TypeId × Value→H} {w:World} {base:Nat} {spare:Nat→Bool} {held:Bool}
end
structure BoxLives (w:World) (B:Nat) (p:Lv):Prop where
 c0:w.cell? ⟨B,0,none⟩=some (.int .i64 p.udp)
 c1:w.cell? ⟨B,1,none⟩=some (.int .i64 p.echo)
 c2:w.cell? ⟨B,2,none⟩=some (.int .i64 p.opening)
 c3:w.cell? ⟨B,3,none⟩=some (.int .i64 p.opn)
 c4:w.cell? ⟨B,4,none⟩=some (.int .i64 p.closing)
theorem BoxLives.kept {w W:World} {B:Nat} {p:Lv} (h:BoxLives w B p) (hB:Below w.heap.size w W):BoxLives W B p:=by
 have hb:=World.block_lt_of_cell? w _ h.c0;exact ⟨((bcell hB).1 B 0 hb).trans h.c0,((bcell hB).1 B 1 hb).trans h.c1,((bcell hB).1 B 2 hb).trans h.c2,((bcell hB).1 B 3 hb).trans h.c3,((bcell hB).1 B 4 hb).trans h.c4⟩
theorem BoxLives.new (w:World) (p:Lv) {t:TypeId}:BoxLives (w.alloc (.cells #[.int .i64 p.udp,.int .i64 p.echo,.int .i64 p.opening,.int .i64 p.opn,.int .i64 p.closing] t)) w.heap.size p:=⟨cell_new rfl,cell_new rfl,cell_new rfl,cell_new rfl,cell_new rfl⟩
section
variable {H:Type} {enc:TypeId × Value→H} {w:World} {base:Nat} {spare:Nat→Bool} {held:Bool}
end
section
variable {H:Type} {enc:TypeId × Value→H} {w:World} {base:Nat} {spare:Nat→Bool} {held:Bool}
end
end Go.Proofs.YthagnjokdnnmpaaGreat
namespace Go.Proofs.YthagnjokdnnmpaaGreat
open Go.RowKit
theorem wp_append_run {P:Program} {o:Oper} {a:Act} {w w':World} {v1 v2 v':Value} {K:Act→World→Prop} {Q:Exit→Act→World→Prop} (s x:Operand) (t:TypeId) (hop:o.op=Op.call { callee:=Callee.builtin Builtin.append,args:=#[s,x],argTypes:=#[t,t] })
  (hs:a.eval s=v1) (hx:a.eval x=v2) (hrun:(Builtin.append_ #[t,t] o.type #[v1,v2]).run P w=.ok v' w') (hK:K (a.put o.dst v') w'):Oper.wp P o a w K Q:=by
 unfold Oper.wp;simp [execOp,hop,resolve,invoke,builtin,hs,hx,hrun,Result.andThen];exact hK
theorem wpList_append_run {P:Program} {ops:Array Oper} {rest:List Oper} {o:Oper} {a:Act} {w w':World} {v1 v2 v':Value} {Q:Exit→Act→World→Prop} (hg:o.guard=none) (s x:Operand) (t:TypeId) (hop:o.op=Op.call { callee:=Callee.builtin Builtin.append,args:=#[s,x],argTypes:=#[t,t] })
  (hs:a.eval s=v1) (hx:a.eval x=v2) (hrun:(Builtin.append_ #[t,t] o.type #[v1,v2]).run P w=.ok v' w') (hK:wpList P ops Q rest (a.put o.dst v') w'):wpList P ops Q (o::rest) a w :=
 wpList_plain hg fun K hK'=>wp_append_run s x t hop hs hx hrun (hK' _ _ hK)
theorem own_stable {base n z:Nat} {e:TypeId} {v:Value} {xs:List Value} {w w':World} (h:w.ownsRow base e z v n xs) (hb:Below w.heap.size w w'):w'.ownsRow base e z v n xs:=h.kept (grown_of_below (r:=none) hb) (by cases v.ownBlock<;>simp)
open Go.PlainAid Go.ChangeShapes Go.WideShapes
structure BoxBind (w:World) (B:Nat) (p:Bd):Prop where
 c0:w.cell? ⟨B,0,none⟩=some (.int .i64 p.proto)
 c1:w.cell? ⟨B,1,none⟩=some (.string p.inn)
 c2:w.cell? ⟨B,2,none⟩=some (.int .i64 p.inPort)
 c3:w.cell? ⟨B,3,none⟩=some (.string p.out)
 c4:w.cell? ⟨B,4,none⟩=some (.int .i64 p.outPort)
theorem BoxBind.kept {w W:World} {B:Nat} {p:Bd} (h:BoxBind w B p) (hB:Below w.heap.size w W):BoxBind W B p:=by
 have hb:=World.block_lt_of_cell? w _ h.c0;exact ⟨((bcell hB).1 B 0 hb).trans h.c0,((bcell hB).1 B 1 hb).trans h.c1,((bcell hB).1 B 2 hb).trans h.c2,((bcell hB).1 B 3 hb).trans h.c3,((bcell hB).1 B 4 hb).trans h.c4⟩
theorem BoxBind.new (w:World) (p:Bd) {t:TypeId}:BoxBind (w.alloc (.cells #[.int .i64 p.proto,.string p.inn,.int .i64 p.inPort,.string p.out,.int .i64 p.outPort] t)) w.heap.size p:=⟨cell_new rfl,cell_new rfl,cell_new rfl,cell_new rfl,cell_new rfl⟩
section
variable {H:Type} {enc:TypeId × Value→H} {w:World} {base:Nat} {spare:Nat→Bool} {held:Bool}
end
section
variable {H:Type} {enc:TypeId × Value→H} {w:World} {base:Nat} {spare:Nat→Bool} {held:Bool}
end
theorem Tryz.infoBd:(Tryz.prog.info? 153).map (fun i=>(i.zero,i.size,i.bytes))=some (some (.agg #[.int .i64 0,.string ⟨#[]⟩,.int .i64 0,.string ⟨#[]⟩,.int .i64 0]),5,56):=by kernel_rfl
def bindM (k:Nat):List Value:=[.int .i64 ((k:Nat):Int),.string (markV (k+1)),.int .i64 ((k+2:Nat):Int),.string (markV (k+3)),.int .i64 ((k+4:Nat):Int)]
structure BoxSession (w:World) (B:Nat) (p:Ss):Prop where
 c0:w.cell? ⟨B,0,none⟩=some (.int .i64 p.proto)
 c1:w.cell? ⟨B,1,none⟩=some (.string p.inn)
 c2:w.cell? ⟨B,2,none⟩=some (.int .i64 p.inPort)
 c3:w.cell? ⟨B,3,none⟩=some (.string p.peer)
 c4:w.cell? ⟨B,4,none⟩=some (.int .i64 p.peerPort)
 c5:w.cell? ⟨B,5,none⟩=some (.int .i64 p.state)
 c6:w.cell? ⟨B,6,none⟩=some (.int .i64 p.untl)
theorem BoxSession.kept {w W:World} {B:Nat} {p:Ss} (h:BoxSession w B p) (hB:Below w.heap.size w W):BoxSession W B p:=by
 have hb:=World.block_lt_of_cell? w _ h.c0;exact ⟨((bcell hB).1 B 0 hb).trans h.c0,((bcell hB).1 B 1 hb).trans h.c1,((bcell hB).1 B 2 hb).trans h.c2,((bcell hB).1 B 3 hb).trans h.c3,((bcell hB).1 B 4 hb).trans h.c4,((bcell hB).1 B 5 hb).trans h.c5,((bcell hB).1 B 6 hb).trans h.c6⟩
theorem BoxSession.new (w:World) (p:Ss) {t:TypeId}:BoxSession (w.alloc (.cells #[.int .i64 p.proto,.string p.inn,.int .i64 p.inPort,.string p.peer,.int .i64 p.peerPort,.int .i64 p.state,.int .i64 p.untl] t)) w.heap.size p:=⟨cell_new rfl,cell_new rfl,cell_new rfl,cell_new rfl,cell_new rfl,cell_new rfl,cell_new rfl⟩
section
variable {H:Type} {enc:TypeId × Value→H} {w:World} {base:Nat} {spare:Nat→Bool} {held:Bool}
end
section
variable {H:Type} {enc:TypeId × Value→H} {w:World} {base:Nat} {spare:Nat→Bool} {held:Bool}
end
theorem Tryz.infoSs:(Tryz.prog.info? 150).map (fun i=>(i.zero,i.size,i.bytes))=some (some (.agg #[.int .i64 0,.string ⟨#[]⟩,.int .i64 0,.string ⟨#[]⟩,.int .i64 0,.int .i64 0,.int .i64 0]),7,72):=by kernel_rfl
def sessionM (k:Nat):List Value:=[.int .i64 ((k:Nat):Int),.string (markV (k+1)),.int .i64 ((k+2:Nat):Int),.string (markV (k+3)),.int .i64 ((k+4:Nat):Int),.int .i64 ((k+5:Nat):Int),.int .i64 ((k+6:Nat):Int)]
structure BbIs (w:World) (a b:Option Addr) (x:Bb):Prop where
 bd:SlIs bdL 5 w a x.binds
 ss:SlIs ssL 7 w b x.sess
theorem BbIs.below {w W:World} {a b:Option Addr} {x:Bb} (h:BbIs w a b x) (hB:Below w.heap.size w W):BbIs W a b x:=⟨h.bd.below hB,h.ss.below hB⟩
structure BbOwn (base:Nat) (w:World) (a b:Option Addr) (x:Bb):Prop where
 bd:SlOwn bdL 5 base w a x.binds
 ss:SlOwn ssL 7 base w b x.sess
 ne:∀ g h,a=some ⟨g,0,none⟩→b=some ⟨h,0,none⟩→x.binds≠[]→x.sess≠[]→g≠h
theorem BbOwn.is {base:Nat} {w:World} {a b:Option Addr} {x:Bb} (h:BbOwn base w a b x):BbIs w a b x:=⟨h.bd.is,h.ss.is⟩
theorem BbOwn.kept {base:Nat} {w W:World} {a b:Option Addr} {x:Bb} (h:BbOwn base w a b x) (hB:Below w.heap.size w W):BbOwn base W a b x:=⟨h.bd.kept hB,h.ss.kept hB,h.ne⟩
section
variable {H:Type} {enc:TypeId × Value→H} {w:World} {base:Nat} {spare:Nat→Bool} {held:Bool}
end
end Go.Proofs.YthagnjokdnnmpaaGreat
