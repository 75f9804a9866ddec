import Derived.Test.YtjpdljkjalnmhaaGreatDoorMerged1
import Derived.ChangeArms
import Derived.WideShapes
import Derived.ChangeShapes
import Derived.Deep.Slices
import Derived.Deep.MidRow
import Derived.OwnWalk
import Derived.WalkLawsBesides
import Derived.Lib.LazyBuf
import Derived.Deep.AppendLies
set_option linter.unusedVariables false
set_option linter.unusedSimpArgs false
set_option maxRecDepth 100000
set_option maxHeartbeats 8000000
namespace Go.Proofs.YtjpdljkjalnmhaaGreatDoor
open Go.RowKit
structure Pl where
 addrs:List ByteArray
 low:Int
 high:Int
 most:Int
 filter:Int
 lv:Lv
def plL (a:Option Addr) (cap:Nat) (p:Pl):List Value:=[.slice a p.addrs.length cap,.int .i64 p.low,.int .i64 p.high,.int .i64 p.most,.int .i64 p.filter,.int .i64 p.lv.udp,.int .i64 p.lv.echo,.int .i64 p.lv.opening,.int .i64 p.lv.opn,.int .i64 p.lv.closing]
def plC (a:Option Addr) (cap:Nat) (p:Pl):Value:=.agg #[.slice a p.addrs.length cap,.int .i64 p.low,.int .i64 p.high,.int .i64 p.most,.int .i64 p.filter,.int .i64 p.lv.udp,.int .i64 p.lv.echo,.int .i64 p.lv.opening,.int .i64 p.lv.opn,.int .i64 p.lv.closing]
structure Bb where
 binds:List Bd
 sess:List Ss
def bbC (a b:Option Addr) (ca cb:Nat) (x:Bb):Value:=.agg #[.slice a x.binds.length ca,.slice b x.sess.length cb]
def strL1 (s:ByteArray):List Value:=[.string s]
def protoB (proto:Int):Bool:=decide (proto=6)||decide (proto=17)||decide (proto=1)
def inL (xs:List ByteArray) (s:ByteArray):Bool:=xs.any fun t=>decide (t.toList=s.toList)
def findI {α:Type} (f:α→Bool) (xs:List α):Int:=match xs.findIdx? f with | some i=>i | none=>-1
def ofIn (proto:Int) (s:ByteArray) (port:Int) (q:Bd):Bool:=decide (q.proto=proto)&&decide (q.inn.toList=s.toList)&&decide (q.inPort=port)
def ofOut (proto:Int) (s:ByteArray) (port:Int) (q:Bd):Bool:=decide (q.proto=proto)&&decide (q.out.toList=s.toList)&&decide (q.outPort=port)
def hasS (p:Bd) (q:Ss):Bool:=decide (p.proto=q.proto)&&decide (p.inn.toList=q.inn.toList)&&decide (p.inPort=q.inPort)
def upN {α:Type} (f:List α→α→Bool) (xs:List α):Nat→Bool
 | 0=>true
 | n+1=>upN f xs n&&(match xs[n]? with | some x=>f (xs.take n) x | none=>true)
theorem upN_step {α:Type} {f:List α→α→Bool} {xs:List α} {n:Nat} (h:n < xs.length):upN f xs (n+1)=(upN f xs n&&f (xs.take n) xs[n]):=by
 show (upN f xs n&&_)=_;rw [List.getElem?_eq_getElem h]
theorem upN_false {α:Type} {f:List α→α→Bool} {xs:List α}:∀ {m n:Nat},n≤m→upN f xs n=false→upN f xs m=false
 | 0,n,h,hf=>by have e:n=0:=(by omega); rw [e] at hf; exact hf
 | m+1,n,h,hf=>by
  by_cases e:n=m+1
  ·subst e; exact hf
  ·show (upN f xs m&&_)=false;rw [upN_false (m:=m) (n:=n) (by omega) hf]; rfl
theorem upN_at {α:Type} {f:List α→α→Bool} {xs:List α} {i:Nat} (h:i < xs.length) (hf:f (xs.take i) xs[i]=false):upN f xs xs.length=false:=by
 refine upN_false (n:=i+1) (by omega) ?_;rw [upN_step h,hf,Bool.and_false]
def addrOne (ys:List ByteArray) (s:ByteArray):Bool:=decide (s.size=4)&&!inL ys s
def poolOk (p:Pl):Bool:=decide (1≤p.addrs.length)&&decide (p.addrs.length≤8)&&decide (1≤p.low)&&decide (p.low≤p.high)&&decide (p.high≤65535)&&isIn p.most 1 60&&isIn p.filter 0 2&&livesOk p.lv&&upN addrOne p.addrs p.addrs.length
def clashB (c b:Bd):Bool:=(decide (c.inn.toList=b.inn.toList)&&!decide (c.out.toList=b.out.toList))||(decide (c.proto=b.proto)&&((decide (c.inn.toList=b.inn.toList)&&decide (c.inPort=b.inPort))||(decide (c.out.toList=b.out.toList)&&decide (c.outPort=b.outPort))))
def bindOne (p:Pl) (ys:List Bd) (b:Bd):Bool:=protoB b.proto&&addrOk b.inn&&isW b.inPort&&inL p.addrs b.out&&isIn b.outPort p.low p.high&&!ys.any fun c=>clashB c b
def sameS (s t:Ss):Bool:=decide (s.proto=t.proto)&&decide (s.inn.toList=t.inn.toList)&&decide (s.inPort=t.inPort)&&decide (s.peer.toList=t.peer.toList)&&decide (s.peerPort=t.peerPort)
def sessOne (bs:List Bd) (ys:List Ss) (s:Ss):Bool:=decide (s.peer.size=4)&&isW s.peerPort&&isIn s.state 1 7&&(decide (s.proto=6)||decide (s.state=3))&&isIn s.untl 0 2000000000&&decide (0≤findI (ofIn s.proto s.inn s.inPort) bs)&&!ys.any fun t=>sameS s t
def bibOk (p:Pl) (b:Bb):Bool:=poolOk p&&decide ((b.sess.length:Int)≤p.most)&&decide (b.binds.length≤60)&&upN (bindOne p) b.binds b.binds.length&&upN (sessOne b.binds) b.sess b.sess.length&&b.binds.all fun x=>b.sess.any fun s=>hasS x s
open Go.ChangeShapes Go.WideShapes
def In64t (n:Int):Prop:=-9223372036854775808≤n∧n≤9223372036854775807
theorem cell_new {w:World} {cs:Array Value} {t:TypeId} {j:Nat} {v:Value} (h:cs[j]?=some v):(w.alloc (.cells cs t)).cell? ⟨w.heap.size,j,none⟩=some v:=by
 simp [h]
section
variable {H:Type} {enc:TypeId × Value→H} {P:Program} {w:World} {base:Nat} {spare:Nat→Bool} {held:Bool}
end
open Go.PlainAid
structure BoxBind (w:World) (B:Nat) (p:Bd):Prop where
 c0:w.cell? ⟨B,0,none⟩=some (.int .i64 p.proto)
 c1:w.cell? ⟨B,1,none⟩=some (.string p.inn)
 c2:w.cell? ⟨B,2,none⟩=some (.int .i64 p.inPort)
 c3:w.cell? ⟨B,3,none⟩=some (.string p.out)
 c4:w.cell? ⟨B,4,none⟩=some (.int .i64 p.outPort)
theorem BoxBind.kept {w W:World} {B:Nat} {p:Bd} (h:BoxBind w B p) (hB:Below w.heap.size w W):BoxBind W B p:=by
 have hb:=World.block_lt_of_cell? w _ h.c0;exact ⟨((bcell hB).1 B 0 hb).trans h.c0,((bcell hB).1 B 1 hb).trans h.c1,((bcell hB).1 B 2 hb).trans h.c2,((bcell hB).1 B 3 hb).trans h.c3,((bcell hB).1 B 4 hb).trans h.c4⟩
theorem BoxBind.new (w:World) (p:Bd) {t:TypeId}:BoxBind (w.alloc (.cells #[.int .i64 p.proto,.string p.inn,.int .i64 p.inPort,.string p.out,.int .i64 p.outPort] t)) w.heap.size p:=⟨cell_new rfl,cell_new rfl,cell_new rfl,cell_new rfl,cell_new rfl⟩
end Go.Proofs.YtjpdljkjalnmhaaGreatDoor
namespace Go.Proofs.YtjpdljkjalnmhaaGreatDoor
open Go.RowKit Go.ChangeShapes Go.WideShapes
section
variable {α:Type} (en:α→List Value) (n:Nat)
def SlAt (w:World) (b off:Nat) (xs:List α):Prop:=∀ i (h:i < xs.length),w.rangeAt b (off+i*n) (en xs[i])
def SlIs (w:World) (a:Option Addr) (xs:List α):Prop:=xs=[]∨∃ b off,a=some ⟨b,off,none⟩∧b < w.heap.size∧SlAt en n w b off xs
structure SlLaid (w:World) (B:Nat) (xs:List α) (L k:Nat):Prop where
 blk:B < w.heap.size
 at0:∀ i (h:i < xs.length),i < k→w.rangeAt B (i*n) (en xs[i])
 there:∀ i,i < L*n→(w.cell? ⟨B,i,none⟩).isSome=true
 free:∀ i,i < L*n→w.frozen? ⟨B,i,none⟩=false
end
section
variable {α:Type} {en:α→List Value} {n:Nat} {w W:World}
theorem SlAt.below {b off:Nat} {xs:List α} (h:SlAt en n w b off xs) {m:Nat} (hb:b < m) (hB:Below m w W):SlAt en n W b off xs :=
 fun i hi j v hv=>(hB.cell (p:=⟨b,off+i*n+j,none⟩) hb).trans (h i hi j v hv)
theorem SlIs.below {a:Option Addr} {xs:List α} (h:SlIs en n w a xs) (hB:Below w.heap.size w W):SlIs en n W a xs:=by
 rcases h with h | ⟨b,off,ha,hb,hr⟩
 ·exact .inl h
 ·exact .inr ⟨b,off,ha,Nat.lt_of_lt_of_le hb hB.size,hr.below hb hB⟩
theorem SlIs.grown {a:Option Addr} {xs:List α} (h:SlIs en n w a xs) {B:Nat} (hg:w.grownBy W (some B)) (hne:xs=[]∨∀ g o,a=some ⟨g,o,none⟩→g≠B):SlIs en n W a xs:=by
 rcases h with h | ⟨b,off,ha,hb,hr⟩
 ·exact .inl h
 ·rcases hne with h0 | hne
  ·exact .inl h0
  ·have hbl:=hg.block b hb (by simp; exact hne b off ha);refine .inr ⟨b,off,ha,Nat.lt_of_lt_of_le hb hg.size,fun i hi j v hv=>?_⟩;have hc:∀ o,W.cell? ⟨b,o,none⟩=w.cell? ⟨b,o,none⟩:=fun o=>by unfold World.cell?; rw [show (⟨b,o,none⟩ : Addr).block=b from rfl,hbl]
   exact (hc _).trans (hr i hi j v hv)
theorem SlIs.at {a:Option Addr} {xs:List α} (h:SlIs en n w a xs) {k:Nat} (hk:k < xs.length):∃ b off,a=some ⟨b,off,none⟩∧b < w.heap.size∧SlAt en n w b off xs:=by
 rcases h with h | h
 ·rw [h] at hk; simp at hk
 ·exact h
theorem SlLaid.at {B:Nat} {xs:List α} {L:Nat} (h:SlLaid en n w B xs L xs.length):SlAt en n w B 0 xs:=fun i hi=>by
 rw [Nat.zero_add]; exact h.at0 i hi hi
theorem SlLaid.is {B:Nat} {xs:List α} {L:Nat} (h:SlLaid en n w B xs L xs.length):SlIs en n w (some ⟨B,0,none⟩) xs:=.inr ⟨B,0,rfl,h.blk,h.at⟩
theorem SlLaid.below {B:Nat} {xs:List α} {L k:Nat} (h:SlLaid en n w B xs L k) {m:Nat} (hm:B < m) (hB:Below m w W) (hs:w.heap.size≤W.heap.size):SlLaid en n W B xs L k:=by
 have hc:∀ o,W.cell? ⟨B,o,none⟩=w.cell? ⟨B,o,none⟩:=fun o=>hB.cell (p:=⟨B,o,none⟩) hm
 have hf:∀ o,W.frozen? ⟨B,o,none⟩=w.frozen? ⟨B,o,none⟩:=fun o=>hB.frozen (p:=⟨B,o,none⟩) hm
 exact ⟨Nat.lt_of_lt_of_le h.blk hs,fun i hi hk j v hv=>(hc _).trans (h.at0 i hi hk j v hv),fun i hi=>by rw [hc]; exact h.there i hi,fun i hi=>by rw [hf]; exact h.free i hi⟩
theorem SlLaid.kept {B:Nat} {xs:List α} {L k:Nat} (h:SlLaid en n w B xs L k) (hB:Below w.heap.size w W):SlLaid en n W B xs L k:=h.below h.blk hB hB.size
theorem SlLaid.mono {B:Nat} {xs:List α} {L k k':Nat} (h:SlLaid en n w B xs L k) (hk:k'≤k):SlLaid en n w B xs L k' :=
 ⟨h.blk,fun i hi hk'=>h.at0 i hi (by omega),h.there,h.free⟩
theorem SlLaid.other {β:Type} {en':β→List Value} {B:Nat} {xs:List α} {L k:Nat} (h:SlLaid en n w B xs L k) (ys:List β):SlLaid en' n w B ys L 0 :=
 ⟨h.blk,fun i hi hk=>by omega,h.there,h.free⟩
theorem SlLaid.set (hn:∀ x,(en x).length=n) {B:Nat} {xs:List α} {L k:Nat} (h:SlLaid en n w B xs L k) (hk:k < xs.length) (hL:k < L):SlLaid en n (w.setCells B (k*n) (en xs[k])) B xs L (k+1):=by
 have hb:k*n+n≤L*n:=by have:=Nat.mul_le_mul_right n (show k+1≤L from hL); rw [Nat.succ_mul] at this; exact this
 have hin:=World.cell?_setCells_in B (en xs[k]) (k*n) w (fun j hj=>h.there _ (by rw [hn] at hj; omega));refine ⟨Nat.lt_of_lt_of_le h.blk (below_setCells (B:=0) (Nat.zero_le _) _ _ _ (Below.refl 0 w)).size,fun i hi hk' j v hv=>?_,fun i hi=>?_,fun i hi=>by rw [World.frozen?_setCells]; exact h.free i hi⟩
 ·by_cases e:i=k
  ·subst e;obtain ⟨hj,hjv⟩:=List.getElem?_eq_some_iff.1 hv;rw [hin j hj,hjv]
  ·have hj:=(List.getElem?_eq_some_iff.1 hv).1;rw [hn] at hj;have hle:i*n+n≤k*n:=by have:=Nat.mul_le_mul_right n (show i+1≤k by omega); rw [Nat.succ_mul] at this; exact this
   rw [World.cell?_setCells_out B _ (k*n) w _ (fun _ _=>.inl (by show i*n+j < k*n; omega))];exact h.at0 i hi (by omega) j v hv
 ·by_cases e:k*n≤i∧i < k*n+n
  ·obtain ⟨j,rfl⟩ : ∃ j,i=k*n+j:=⟨i-k*n,by omega⟩;have hj:j < (en xs[k]).length:=by rw [hn]; omega
   rw [hin j hj]; rfl
  ·rw [World.cell?_setCells_out B _ (k*n) w _ (fun _ _=>by show i < k*n∨k*n+(en xs[k]).length≤i; rw [hn]; omega)]; exact h.there i hi
theorem SlLaid.start {base len cap g:Nat} {e:TypeId} {vs:List Value} {xs:List α} (h:w.ownsRow base e n (.slice (some ⟨g,0,none⟩) len cap) len vs):SlLaid en n w g xs len 0:=by
 obtain ⟨hl,h | ⟨g',cap',cur,hv,_,hh,hc,_,hsz,_⟩⟩:=h
 ·simp at h
 ·injection hv with hv _ hv3
  injection hv with hv
  injection hv with hv _
  subst hv hv3;have hlt:g < w.heap.size:=by
   by_cases hb:g < w.heap.size
   ·exact hb
   ·rw [Array.getElem?_eq_none (by omega)] at hh; simp at hh
  refine ⟨hlt,fun i hi hk=>by omega,fun i hi=>?_,fun i hi=>?_⟩
  ·have:i < cur.size:=by rw [hsz]; have:=Nat.mul_le_mul_right n hc; omega
   simp [World.cell?,hh,this]
  ·simp [World.frozen?,hh]
end
section
variable {H:Type} {enc:TypeId × Value→H} {P:Program} {w:World} {base:Nat} {spare:Nat→Bool} {held:Bool}
end
end Go.Proofs.YtjpdljkjalnmhaaGreatDoor
namespace Go.Proofs.YtjpdljkjalnmhaaGreatDoor
open Go.RowKit
structure HoldsL (w:World) (B:Nat) (cs:List Value):Prop where
 at0:w.rangeAt B 0 cs
 th:w.there B 0 cs.length
section
variable {w W:World} {B:Nat} {cs:List Value}
theorem HoldsL.new (w:World) (cs:List Value) (t:TypeId):HoldsL (w.alloc (.cells cs.toArray t)) w.heap.size cs :=
 ⟨fun j v hv=>by rw [Nat.zero_add,cell_of_row _ w.heap.size j cs.toArray t (0,0) (heap_alloc_new w _)]; simpa using hv,
   fun j hj=>⟨by rw [Nat.zero_add,cell_of_row _ w.heap.size j cs.toArray t (0,0) (heap_alloc_new w _)]; simp [hj],by simp⟩⟩
theorem HoldsL.cell (h:HoldsL w B cs) {j:Nat} {v:Value} (hv:cs[j]?=some v):w.cell? ⟨B,j,none⟩=some v:=by
 have:=h.at0 j v hv; rwa [Nat.zero_add] at this
theorem HoldsL.free (h:HoldsL w B cs) {j:Nat} (hj:j < cs.length):w.frozen? ⟨B,j,none⟩=false:=by
 have:=(h.th j hj).2; rwa [Nat.zero_add] at this
theorem HoldsL.c2 {v0 v1:Value} {l:List Value} (h:HoldsL w B (v0::v1::l)):w.cell? ⟨B,0,none⟩=some v0∧w.cell? ⟨B,1,none⟩=some v1:=⟨h.cell rfl,h.cell rfl⟩
theorem HoldsL.c3 {v0 v1 v2:Value} {l:List Value} (h:HoldsL w B (v0::v1::v2::l)):w.cell? ⟨B,0,none⟩=some v0∧w.cell? ⟨B,1,none⟩=some v1∧w.cell? ⟨B,2,none⟩=some v2:=⟨h.cell rfl,h.cell rfl,h.cell rfl⟩
theorem HoldsL.c4 {v0 v1 v2 v3:Value} {l:List Value} (h:HoldsL w B (v0::v1::v2::v3::l)):w.cell? ⟨B,0,none⟩=some v0∧w.cell? ⟨B,1,none⟩=some v1∧w.cell? ⟨B,2,none⟩=some v2∧w.cell? ⟨B,3,none⟩=some v3:=⟨h.cell rfl,h.cell rfl,h.cell rfl,h.cell rfl⟩
theorem HoldsL.c5 {v0 v1 v2 v3 v4:Value} {l:List Value} (h:HoldsL w B (v0::v1::v2::v3::v4::l)):w.cell? ⟨B,0,none⟩=some v0∧w.cell? ⟨B,1,none⟩=some v1∧w.cell? ⟨B,2,none⟩=some v2∧w.cell? ⟨B,3,none⟩=some v3∧w.cell? ⟨B,4,none⟩=some v4:=⟨h.cell rfl,h.cell rfl,h.cell rfl,h.cell rfl,h.cell rfl⟩
theorem HoldsL.c6 {v0 v1 v2 v3 v4 v5:Value} {l:List Value} (h:HoldsL w B (v0::v1::v2::v3::v4::v5::l)):w.cell? ⟨B,0,none⟩=some v0∧w.cell? ⟨B,1,none⟩=some v1∧w.cell? ⟨B,2,none⟩=some v2∧w.cell? ⟨B,3,none⟩=some v3∧w.cell? ⟨B,4,none⟩=some v4∧w.cell? ⟨B,5,none⟩=some v5:=⟨h.cell rfl,h.cell rfl,h.cell rfl,h.cell rfl,h.cell rfl,h.cell rfl⟩
theorem HoldsL.c7 {v0 v1 v2 v3 v4 v5 v6:Value} {l:List Value} (h:HoldsL w B (v0::v1::v2::v3::v4::v5::v6::l)):w.cell? ⟨B,0,none⟩=some v0∧w.cell? ⟨B,1,none⟩=some v1∧w.cell? ⟨B,2,none⟩=some v2∧w.cell? ⟨B,3,none⟩=some v3∧w.cell? ⟨B,4,none⟩=some v4∧w.cell? ⟨B,5,none⟩=some v5∧w.cell? ⟨B,6,none⟩=some v6:=⟨h.cell rfl,h.cell rfl,h.cell rfl,h.cell rfl,h.cell rfl,h.cell rfl,h.cell rfl⟩
theorem HoldsL.c8 {v0 v1 v2 v3 v4 v5 v6 v7:Value} {l:List Value} (h:HoldsL w B (v0::v1::v2::v3::v4::v5::v6::v7::l)):w.cell? ⟨B,0,none⟩=some v0∧w.cell? ⟨B,1,none⟩=some v1∧w.cell? ⟨B,2,none⟩=some v2∧w.cell? ⟨B,3,none⟩=some v3∧w.cell? ⟨B,4,none⟩=some v4∧w.cell? ⟨B,5,none⟩=some v5∧w.cell? ⟨B,6,none⟩=some v6∧w.cell? ⟨B,7,none⟩=some v7:=⟨h.cell rfl,h.cell rfl,h.cell rfl,h.cell rfl,h.cell rfl,h.cell rfl,h.cell rfl,h.cell rfl⟩
theorem HoldsL.c9 {v0 v1 v2 v3 v4 v5 v6 v7 v8:Value} {l:List Value} (h:HoldsL w B (v0::v1::v2::v3::v4::v5::v6::v7::v8::l)):w.cell? ⟨B,0,none⟩=some v0∧w.cell? ⟨B,1,none⟩=some v1∧w.cell? ⟨B,2,none⟩=some v2∧w.cell? ⟨B,3,none⟩=some v3∧w.cell? ⟨B,4,none⟩=some v4∧w.cell? ⟨B,5,none⟩=some v5∧w.cell? ⟨B,6,none⟩=some v6∧w.cell? ⟨B,7,none⟩=some v7∧w.cell? ⟨B,8,none⟩=some v8:=⟨h.cell rfl,h.cell rfl,h.cell rfl,h.cell rfl,h.cell rfl,h.cell rfl,h.cell rfl,h.cell rfl,h.cell rfl⟩
theorem HoldsL.c10 {v0 v1 v2 v3 v4 v5 v6 v7 v8 v9:Value} {l:List Value} (h:HoldsL w B (v0::v1::v2::v3::v4::v5::v6::v7::v8::v9::l)):w.cell? ⟨B,0,none⟩=some v0∧w.cell? ⟨B,1,none⟩=some v1∧w.cell? ⟨B,2,none⟩=some v2∧w.cell? ⟨B,3,none⟩=some v3∧w.cell? ⟨B,4,none⟩=some v4∧w.cell? ⟨B,5,none⟩=some v5∧w.cell? ⟨B,6,none⟩=some v6∧w.cell? ⟨B,7,none⟩=some v7∧w.cell? ⟨B,8,none⟩=some v8∧w.cell? ⟨B,9,none⟩=some v9:=⟨h.cell rfl,h.cell rfl,h.cell rfl,h.cell rfl,h.cell rfl,h.cell rfl,h.cell rfl,h.cell rfl,h.cell rfl,h.cell rfl⟩
theorem HoldsL.c11 {v0 v1 v2 v3 v4 v5 v6 v7 v8 v9 v10:Value} {l:List Value} (h:HoldsL w B (v0::v1::v2::v3::v4::v5::v6::v7::v8::v9::v10::l)):w.cell? ⟨B,0,none⟩=some v0∧w.cell? ⟨B,1,none⟩=some v1∧w.cell? ⟨B,2,none⟩=some v2∧w.cell? ⟨B,3,none⟩=some v3∧w.cell? ⟨B,4,none⟩=some v4∧w.cell? ⟨B,5,none⟩=some v5∧w.cell? ⟨B,6,none⟩=some v6∧w.cell? ⟨B,7,none⟩=some v7∧w.cell? ⟨B,8,none⟩=some v8∧w.cell? ⟨B,9,none⟩=some v9∧w.cell? ⟨B,10,none⟩=some v10:=⟨h.cell rfl,h.cell rfl,h.cell rfl,h.cell rfl,h.cell rfl,h.cell rfl,h.cell rfl,h.cell rfl,h.cell rfl,h.cell rfl,h.cell rfl⟩
theorem HoldsL.f2 {v0 v1:Value} {l:List Value} (h:HoldsL w B (v0::v1::l)):w.frozen? ⟨B,0,none⟩=false∧w.frozen? ⟨B,1,none⟩=false:=⟨h.free (by simp),h.free (by simp)⟩
theorem HoldsL.f3 {v0 v1 v2:Value} {l:List Value} (h:HoldsL w B (v0::v1::v2::l)):w.frozen? ⟨B,0,none⟩=false∧w.frozen? ⟨B,1,none⟩=false∧w.frozen? ⟨B,2,none⟩=false:=⟨h.free (by simp),h.free (by simp),h.free (by simp)⟩
theorem HoldsL.f4 {v0 v1 v2 v3:Value} {l:List Value} (h:HoldsL w B (v0::v1::v2::v3::l)):w.frozen? ⟨B,0,none⟩=false∧w.frozen? ⟨B,1,none⟩=false∧w.frozen? ⟨B,2,none⟩=false∧w.frozen? ⟨B,3,none⟩=false:=⟨h.free (by simp),h.free (by simp),h.free (by simp),h.free (by simp)⟩
theorem HoldsL.f5 {v0 v1 v2 v3 v4:Value} {l:List Value} (h:HoldsL w B (v0::v1::v2::v3::v4::l)):w.frozen? ⟨B,0,none⟩=false∧w.frozen? ⟨B,1,none⟩=false∧w.frozen? ⟨B,2,none⟩=false∧w.frozen? ⟨B,3,none⟩=false∧w.frozen? ⟨B,4,none⟩=false:=⟨h.free (by simp),h.free (by simp),h.free (by simp),h.free (by simp),h.free (by simp)⟩
theorem HoldsL.f6 {v0 v1 v2 v3 v4 v5:Value} {l:List Value} (h:HoldsL w B (v0::v1::v2::v3::v4::v5::l)):w.frozen? ⟨B,0,none⟩=false∧w.frozen? ⟨B,1,none⟩=false∧w.frozen? ⟨B,2,none⟩=false∧w.frozen? ⟨B,3,none⟩=false∧w.frozen? ⟨B,4,none⟩=false∧w.frozen? ⟨B,5,none⟩=false:=⟨h.free (by simp),h.free (by simp),h.free (by simp),h.free (by simp),h.free (by simp),h.free (by simp)⟩
theorem HoldsL.f7 {v0 v1 v2 v3 v4 v5 v6:Value} {l:List Value} (h:HoldsL w B (v0::v1::v2::v3::v4::v5::v6::l)):w.frozen? ⟨B,0,none⟩=false∧w.frozen? ⟨B,1,none⟩=false∧w.frozen? ⟨B,2,none⟩=false∧w.frozen? ⟨B,3,none⟩=false∧w.frozen? ⟨B,4,none⟩=false∧w.frozen? ⟨B,5,none⟩=false∧w.frozen? ⟨B,6,none⟩=false:=⟨h.free (by simp),h.free (by simp),h.free (by simp),h.free (by simp),h.free (by simp),h.free (by simp),h.free (by simp)⟩
theorem HoldsL.f8 {v0 v1 v2 v3 v4 v5 v6 v7:Value} {l:List Value} (h:HoldsL w B (v0::v1::v2::v3::v4::v5::v6::v7::l)):w.frozen? ⟨B,0,none⟩=false∧w.frozen? ⟨B,1,none⟩=false∧w.frozen? ⟨B,2,none⟩=false∧w.frozen? ⟨B,3,none⟩=false∧w.frozen? ⟨B,4,none⟩=false∧w.frozen? ⟨B,5,none⟩=false∧w.frozen? ⟨B,6,none⟩=false∧w.frozen? ⟨B,7,none⟩=false:=⟨h.free (by simp),h.free (by simp),h.free (by simp),h.free (by simp),h.free (by simp),h.free (by simp),h.free (by simp),h.free (by simp)⟩
theorem HoldsL.f9 {v0 v1 v2 v3 v4 v5 v6 v7 v8:Value} {l:List Value} (h:HoldsL w B (v0::v1::v2::v3::v4::v5::v6::v7::v8::l)):w.frozen? ⟨B,0,none⟩=false∧w.frozen? ⟨B,1,none⟩=false∧w.frozen? ⟨B,2,none⟩=false∧w.frozen? ⟨B,3,none⟩=false∧w.frozen? ⟨B,4,none⟩=false∧w.frozen? ⟨B,5,none⟩=false∧w.frozen? ⟨B,6,none⟩=false∧w.frozen? ⟨B,7,none⟩=false∧w.frozen? ⟨B,8,none⟩=false:=⟨h.free (by simp),h.free (by simp),h.free (by simp),h.free (by simp),h.free (by simp),h.free (by simp),h.free (by simp),h.free (by simp),h.free (by simp)⟩
theorem HoldsL.f10 {v0 v1 v2 v3 v4 v5 v6 v7 v8 v9:Value} {l:List Value} (h:HoldsL w B (v0::v1::v2::v3::v4::v5::v6::v7::v8::v9::l)):w.frozen? ⟨B,0,none⟩=false∧w.frozen? ⟨B,1,none⟩=false∧w.frozen? ⟨B,2,none⟩=false∧w.frozen? ⟨B,3,none⟩=false∧w.frozen? ⟨B,4,none⟩=false∧w.frozen? ⟨B,5,none⟩=false∧w.frozen? ⟨B,6,none⟩=false∧w.frozen? ⟨B,7,none⟩=false∧w.frozen? ⟨B,8,none⟩=false∧w.frozen? ⟨B,9,none⟩=false:=⟨h.free (by simp),h.free (by simp),h.free (by simp),h.free (by simp),h.free (by simp),h.free (by simp),h.free (by simp),h.free (by simp),h.free (by simp),h.free (by simp)⟩
theorem HoldsL.c13 {v0 v1 v2 v3 v4 v5 v6 v7 v8 v9 v10 v11 v12:Value} {l:List Value} (h:HoldsL w B (v0::v1::v2::v3::v4::v5::v6::v7::v8::v9::v10::v11::v12::l)):w.cell? ⟨B,0,none⟩=some v0∧w.cell? ⟨B,1,none⟩=some v1∧w.cell? ⟨B,2,none⟩=some v2∧w.cell? ⟨B,3,none⟩=some v3∧w.cell? ⟨B,4,none⟩=some v4∧w.cell? ⟨B,5,none⟩=some v5∧w.cell? ⟨B,6,none⟩=some v6∧w.cell? ⟨B,7,none⟩=some v7∧w.cell? ⟨B,8,none⟩=some v8∧w.cell? ⟨B,9,none⟩=some v9∧w.cell? ⟨B,10,none⟩=some v10∧w.cell? ⟨B,11,none⟩=some v11∧w.cell? ⟨B,12,none⟩=some v12:=⟨h.cell rfl,h.cell rfl,h.cell rfl,h.cell rfl,h.cell rfl,h.cell rfl,h.cell rfl,h.cell rfl,h.cell rfl,h.cell rfl,h.cell rfl,h.cell rfl,h.cell rfl⟩
theorem HoldsL.c14 {v0 v1 v2 v3 v4 v5 v6 v7 v8 v9 v10 v11 v12 v13:Value} {l:List Value} (h:HoldsL w B (v0::v1::v2::v3::v4::v5::v6::v7::v8::v9::v10::v11::v12::v13::l)):w.cell? ⟨B,0,none⟩=some v0∧w.cell? ⟨B,1,none⟩=some v1∧w.cell? ⟨B,2,none⟩=some v2∧w.cell? ⟨B,3,none⟩=some v3∧w.cell? ⟨B,4,none⟩=some v4∧w.cell? ⟨B,5,none⟩=some v5∧w.cell? ⟨B,6,none⟩=some v6∧w.cell? ⟨B,7,none⟩=some v7∧w.cell? ⟨B,8,none⟩=some v8∧w.cell? ⟨B,9,none⟩=some v9∧w.cell? ⟨B,10,none⟩=some v10∧w.cell? ⟨B,11,none⟩=some v11∧w.cell? ⟨B,12,none⟩=some v12∧w.cell? ⟨B,13,none⟩=some v13:=⟨h.cell rfl,h.cell rfl,h.cell rfl,h.cell rfl,h.cell rfl,h.cell rfl,h.cell rfl,h.cell rfl,h.cell rfl,h.cell rfl,h.cell rfl,h.cell rfl,h.cell rfl,h.cell rfl⟩
theorem HoldsL.f14 {v0 v1 v2 v3 v4 v5 v6 v7 v8 v9 v10 v11 v12 v13:Value} {l:List Value} (h:HoldsL w B (v0::v1::v2::v3::v4::v5::v6::v7::v8::v9::v10::v11::v12::v13::l)):w.frozen? ⟨B,0,none⟩=false∧w.frozen? ⟨B,1,none⟩=false∧w.frozen? ⟨B,2,none⟩=false∧w.frozen? ⟨B,3,none⟩=false∧w.frozen? ⟨B,4,none⟩=false∧w.frozen? ⟨B,5,none⟩=false∧w.frozen? ⟨B,6,none⟩=false∧w.frozen? ⟨B,7,none⟩=false∧w.frozen? ⟨B,8,none⟩=false∧w.frozen? ⟨B,9,none⟩=false∧w.frozen? ⟨B,10,none⟩=false∧w.frozen? ⟨B,11,none⟩=false∧w.frozen? ⟨B,12,none⟩=false∧w.frozen? ⟨B,13,none⟩=false:=⟨h.free (by simp),h.free (by simp),h.free (by simp),h.free (by simp),h.free (by simp),h.free (by simp),h.free (by simp),h.free (by simp),h.free (by simp),h.free (by simp),h.free (by simp),h.free (by simp),h.free (by simp),h.free (by simp)⟩
theorem HoldsL.lt (h:HoldsL w B cs) (hl:0 < cs.length):B < w.heap.size:=by
 obtain ⟨v,hv⟩:=Option.isSome_iff_exists.1 (h.th 0 hl).1;exact World.block_lt_of_cell? w _ hv
theorem HoldsL.of_block (hb:W.heap[B]?=w.heap[B]?) (h:HoldsL w B cs):HoldsL W B cs:=by
 have hc:∀ j,W.cell? ⟨B,j,none⟩=w.cell? ⟨B,j,none⟩:=fun j=>by unfold World.cell?; rw [show (⟨B,j,none⟩ : Addr).block=B from rfl,hb]
 exact ⟨fun j v hv=>by rw [hc]; exact h.at0 j v hv,fun j hj=>⟨by rw [hc]; exact (h.th j hj).1,(World.frozen?_of_block (a:=⟨B,0+j,none⟩) hb).trans (h.th j hj).2⟩⟩
theorem HoldsL.kept (h:HoldsL w B cs) (hl:0 < cs.length) (hB:Below w.heap.size w W):HoldsL W B cs:=h.of_block (hB.block B (h.lt hl))
theorem HoldsL.grown {row:Option Nat} (h:HoldsL w B cs) (hl:0 < cs.length) (hg:w.grownBy W row) (hr:some B≠row):HoldsL W B cs:=h.of_block (hg.block B (h.lt hl) hr)
theorem HoldsL.alloc (h:HoldsL w B cs) (o:Obj):HoldsL (w.alloc o) B cs:=⟨World.rangeAt_alloc h.at0 o,World.there_alloc h.th o⟩
theorem HoldsL.drew (h:HoldsL w B cs):HoldsL w.drew B cs:=⟨by simpa using h.at0,by simpa using h.th⟩
theorem HoldsL.set (h:HoldsL w B cs) (j:Nat) (v:Value):HoldsL (w.setCell ⟨B,j,none⟩ v) B (cs.set j v):=by
 refine ⟨fun i u hu=>?_,fun i hi=>⟨?_,by rw [World.frozen?_setCell]; exact (h.th i (by simpa using hi)).2⟩⟩
 ·rw [Nat.zero_add];by_cases e:i=j
  ·subst e;have hi:i < cs.length:=by
    rw [List.getElem?_set] at hu;by_cases e:i < cs.length
    ·exact e
    ·simp [e] at hu
   obtain ⟨x,hx⟩:=Option.isSome_iff_exists.1 (h.th i hi).1;rw [Nat.zero_add] at hx;rw [World.cell?_setCell_same _ _ _ hx];rw [List.getElem?_set_self hi] at hu;exact hu
  ·rw [World.cell?_setCell_other _ _ _ _ (fun e2=>e (by injection e2 with _ h2; exact h2.symm))];rw [List.getElem?_set_ne (fun e2=>e e2.symm)] at hu;exact h.cell hu
 ·have hi':i < cs.length:=by simpa using hi
  obtain ⟨x,hx⟩:=Option.isSome_iff_exists.1 (h.th i hi').1;by_cases e:i=j
  ·subst e; rw [Nat.zero_add] at hx ⊢; rw [World.cell?_setCell_same _ _ _ hx]; rfl
  ·rw [Nat.zero_add] at hx ⊢; rw [World.cell?_setCell_other _ _ _ _ (fun e2=>e (by injection e2 with _ h2; exact h2.symm)),hx]; rfl
theorem HoldsL.setOther (h:HoldsL w B cs) {C j:Nat} (hne:B≠C) (v:Value):HoldsL (w.setCell ⟨C,j,none⟩ v) B cs :=
 h.of_block (Below.heap_setCell w _ v B (fun e=>hne (by simpa using e)))
theorem HoldsL.setCells (h:HoldsL w B cs) (ds:List Value) (hl:ds.length=cs.length):HoldsL (w.setCells B 0 ds) B ds :=
 ⟨World.rangeAt_setCells_same w B 0 ds (by rw [hl]; exact h.th),by rw [hl]; exact World.there_setCells h.th B 0 ds⟩
end
theorem results_mid {P:Program} {fn:Func} {p:Tmp} {ty:TypeId} (h:fn.results=#[.cell p ty]) (tmps:Array Value) (w:World) (g:Nat) (cs:List Value) (d:TypeDesc)
  (hp:tmps.getD p undef=.pointer (some ⟨g,0,none⟩)) (hc:HoldsL w g cs) (hu:P.underlying ty=some d) (hd:d.isRow=true) (hi:(P.info? ty).map (·.size)=some cs.length) :
  (results fn tmps).run P w=.ok (.agg cs.toArray) w:=by
 have hp':tmps[p]?.getD undef=.pointer (some ⟨g,0,none⟩):=by simpa using hp
 simp [results,h,hp',asAddr,run_loadVar_mid w g 0 ty cs d hc.at0 hu hd hi]
end Go.Proofs.YtjpdljkjalnmhaaGreatDoor
