import Derived.Test.YthpopipedamciaaGreatIBk2
import Derived.Test.YthpopipedamciaaGreatLawBib
import Derived.Test.YthpopipedamciaaGreatLawPool
import Derived.Test.YthpopipedamciaaGreatGrowV
import Derived.Test.YthpopipedamciaaGreatMerged6
set_option linter.unusedVariables false
set_option linter.unusedSimpArgs false
set_option maxRecDepth 100000
set_option maxHeartbeats 8000000
namespace Go.Proofs.YthpopipedamciaaGreat
open Go.RowKit Go.PlainAid Go.ChangeShapes Go.WideShapes
section
variable {α:Type} {en:α→List Value} {n:Nat} {w W:World}
end
structure BbMk (base:Nat) (w:World) (a b:Option Addr) (k nb ns:Nat):Prop where
 bd:MkOwn 5 bindM base w a k nb
 ss:MkOwn 7 sessionM base w b (k+5*nb) ns
theorem BbMk.kept {base:Nat} {w W:World} {a b:Option Addr} {k nb ns:Nat} (h:BbMk base w a b k nb ns) (hB:Below w.heap.size w W):BbMk base W a b k nb ns:=⟨h.bd.kept hB,h.ss.kept hB⟩
structure Bo where
 bib:Bb
 bind:Bd
 code:Int
structure OutOf (lo hi:Nat) (w W:World):Prop where
 os:W.os=w.os
 tape:W.tape=w.tape
 output:W.output=w.output
 size:w.heap.size≤W.heap.size
 block:∀ k,k < w.heap.size→(k < lo∨hi≤k)→W.heap[k]?=w.heap[k]?
section
variable {lo hi lo2 hi2 B:Nat} {w w1 W:World}
theorem OutOf.of_below (h:Below w.heap.size w W):OutOf lo hi w W:=⟨h.os,h.tape,h.output,h.size,fun k hk _=>h.block k hk⟩
theorem OutOf.trans (h:OutOf lo hi w w1) (h2:OutOf lo hi w1 W):OutOf lo hi w W :=
 ⟨h2.os.trans h.os,h2.tape.trans h.tape,h2.output.trans h.output,Nat.le_trans h.size h2.size,fun k hk hb=>(h2.block k (Nat.lt_of_lt_of_le hk h.size) hb).trans (h.block k hk hb)⟩
theorem OutOf.below (h:OutOf lo hi w W) {m:Nat} (hm:m≤lo) (hl:m≤w.heap.size):Below m w W:=⟨h.os,h.tape,h.output,h.size,fun k hk=>h.block k (by omega) (.inl (by omega))⟩
theorem OutOf.of_grown (h:w.grownBy W (some B)) (h1:lo≤B) (h2:B < hi):OutOf lo hi w W :=
 ⟨h.os,h.tape,h.output,h.size,fun k hk hb=>h.block k hk (by simp; omega)⟩
theorem HoldsL.outOf {cs:List Value} (h:HoldsL w B cs) (hl:0 < cs.length) (ho:OutOf lo hi w W) (hb:B < lo∨hi≤B):HoldsL W B cs:=h.of_block (ho.block B (h.lt hl) hb)
end
section
variable {α:Type} {en:α→List Value} {n:Nat} {lo hi lo2 hi2:Nat} {w W:World} {a:Option Addr} {xs:List α}
theorem SlLaid.of_block {B L k:Nat} (h:SlLaid en n w B xs L k) (hb:W.heap[B]?=w.heap[B]?) (hs:w.heap.size≤W.heap.size):SlLaid en n W B xs L k:=by
 have hc:∀ o,W.cell? ⟨B,o,none⟩=w.cell? ⟨B,o,none⟩:=fun o=>by unfold World.cell?; rw [show (⟨B,o,none⟩ : Addr).block=B from rfl,hb]
 have hf:∀ o,W.frozen? ⟨B,o,none⟩=w.frozen? ⟨B,o,none⟩:=fun o=>World.frozen?_of_block (a:=⟨B,o,none⟩) hb
 exact ⟨Nat.lt_of_lt_of_le h.blk hs,fun i hi hk j v hv=>(hc _).trans (h.at0 i hi hk j v hv),fun i hi=>by rw [hc]; exact h.there i hi,fun i hi=>by rw [hf]; exact h.free i hi⟩
def SlIn (en:α→List Value) (n lo hi:Nat) (w:World) (a:Option Addr) (xs:List α):Prop:=xs=[]∨∃ g,a=some ⟨g,0,none⟩∧lo≤g∧g < hi∧SlLaid en n w g xs xs.length xs.length
theorem SlIn.of_own (h:SlOwn en n lo w a xs) {hi:Nat} (hh:w.heap.size≤hi):SlIn en n lo hi w a xs:=by
 rcases h with h | ⟨g,h1,h2,h3⟩
 ·exact .inl h
 ·exact .inr ⟨g,h1,h2,Nat.lt_of_lt_of_le h3.blk hh,h3⟩
theorem SlIn.own (h:SlIn en n lo hi w a xs):SlOwn en n lo w a xs:=by
 rcases h with h | ⟨g,h1,h2,h3,h4⟩
 ·exact .inl h
 ·exact .inr ⟨g,h1,h2,h4⟩
theorem SlIn.is (h:SlIn en n lo hi w a xs):SlIs en n w a xs:=h.own.is
theorem SlIn.kept (h:SlIn en n lo hi w a xs) (hb:Below w.heap.size w W):SlIn en n lo hi W a xs:=by
 rcases h with h | ⟨g,h1,h2,h3,h4⟩
 ·exact .inl h
 ·exact .inr ⟨g,h1,h2,h3,h4.kept hb⟩
theorem SlIn.outOf (h:SlIn en n lo hi w a xs) (ho:OutOf lo2 hi2 w W) (hb:hi≤lo2∨hi2≤lo):SlIn en n lo hi W a xs:=by
 rcases h with h | ⟨g,h1,h2,h3,h4⟩
 ·exact .inl h
 ·exact .inr ⟨g,h1,h2,h3,h4.of_block (ho.block g h4.blk (by omega)) ho.size⟩
end
structure BbIn (lo hi:Nat) (w:World) (a b:Option Addr) (x:Bb):Prop where
 bd:SlIn bdL 5 lo hi w a x.binds
 ss:SlIn ssL 7 lo hi w b x.sess
 ne:∀ g h,a=some ⟨g,0,none⟩→b=some ⟨h,0,none⟩→x.binds≠[]→x.sess≠[]→g≠h
section
variable {lo hi lo2 hi2:Nat} {w W:World} {a b:Option Addr} {x:Bb}
theorem BbIn.of_own (h:BbOwn lo w a b x) (hh:w.heap.size≤hi):BbIn lo hi w a b x:=⟨SlIn.of_own h.bd hh,SlIn.of_own h.ss hh,h.ne⟩
theorem BbIn.own (h:BbIn lo hi w a b x):BbOwn lo w a b x:=⟨h.bd.own,h.ss.own,h.ne⟩
theorem BbIn.is (h:BbIn lo hi w a b x):BbIs w a b x:=⟨h.bd.is,h.ss.is⟩
theorem BbIn.kept (h:BbIn lo hi w a b x) (hb:Below w.heap.size w W):BbIn lo hi W a b x:=⟨h.bd.kept hb,h.ss.kept hb,h.ne⟩
theorem BbIn.outOf (h:BbIn lo hi w a b x) (ho:OutOf lo2 hi2 w W) (hb:hi≤lo2∨hi2≤lo):BbIn lo hi W a b x:=⟨h.bd.outOf ho hb,h.ss.outOf ho hb,h.ne⟩
theorem BbOwn.low {base:Nat} (h:BbOwn base w a b x) {m:Nat} (hm:m≤base):BbOwn m w a b x:=⟨h.bd.down hm,h.ss.down hm,h.ne⟩
end
theorem strs_in {xs:List ByteArray} {left:Int} (h0:0≤left) (h1:left≤1048576) (h:0≤szSl strN xs left):xs.length≤1048576∧∀ s∈xs,s.size≤1048576:=by
 obtain ⟨h2,h3⟩:=szSl_in h0 h;exact ⟨by omega,fun q hq=>by have:=h3 q hq q.size (by simp [strN]); omega⟩
def BbSm (x:Bb):Prop:=x.binds.length≤1048576∧x.sess.length≤1048576∧(∀ q∈x.binds,q.inn.size≤1048576∧q.out.size≤1048576)∧∀ s∈x.sess,s.inn.size≤1048576∧s.peer.size≤1048576
theorem bb_in {x:Bb} {left:Int} (h0:0≤left) (h1:left≤1048576) (h:0≤szBb x left):BbSm x:=by
 unfold szBb at h;split at h
 ·omega
 ·rename_i hn;have r1:=szSl_range bindN x.binds left h0;obtain ⟨a1,a2⟩:=szSl_in h0 (show 0≤szSl bindN x.binds left by omega);obtain ⟨b1,b2⟩:=szSl_in (show 0≤szSl bindN x.binds left by omega) h;refine ⟨by omega,by omega,fun q hq=>⟨?_,?_⟩,fun q hq=>⟨?_,?_⟩⟩
  ·have:=a2 q hq q.inn.size (by simp [bindN]); omega
  ·have:=a2 q hq q.out.size (by simp [bindN]); omega
  ·have:=b2 q hq q.inn.size (by simp [sessionN]); omega
  ·have:=b2 q hq q.peer.size (by simp [sessionN]); omega
theorem szBb_range (x:Bb) (left:Int) (h:0≤left) : -1≤szBb x left∧szBb x left≤left:=by
 unfold szBb;have r1:=szSl_range bindN x.binds left h;split
 ·omega
 ·have r2:=szSl_range sessionN x.sess (szSl bindN x.binds left) (by omega); omega
end Go.Proofs.YthpopipedamciaaGreat
