import Derived.Test.YtcckaeppiamebaaGreatDoorMerged4
import Derived.Test.YtcckaeppiamebaaGreatDoorMerged6
import Derived.Test.YtcckaeppiamebaaGreatDoorGrowV
import Derived.Test.YtcckaeppiamebaaGreatDoorMerged1
import Derived.Test.YtcckaeppiamebaaGreatDoorMerged2
set_option linter.unusedVariables false
set_option linter.unusedSimpArgs false
set_option maxRecDepth 100000
set_option maxHeartbeats 8000000
namespace Go.Proofs.YtcckaeppiamebaaGreatDoor
open Go.RowKit Go.PlainAid Go.ChangeShapes Go.WideShapes
structure OutOf (lo hi:Nat) (w W:World):Prop where
 os:W.os=w.os
 tape:W.tape=w.tape
 output:W.output=w.output
 size:w.heap.size≤W.heap.size
 block:∀ k,k < w.heap.size→(k < lo∨hi≤k)→W.heap[k]?=w.heap[k]?
section
variable {lo hi lo2 hi2 B:Nat} {w w1 W:World}
theorem OutOf.of_below (h:Below w.heap.size w W):OutOf lo hi w W:=⟨h.os,h.tape,h.output,h.size,fun k hk _=>h.block k hk⟩
theorem OutOf.trans (h:OutOf lo hi w w1) (h2:OutOf lo hi w1 W):OutOf lo hi w W :=
 ⟨h2.os.trans h.os,h2.tape.trans h.tape,h2.output.trans h.output,Nat.le_trans h.size h2.size,fun k hk hb=>(h2.block k (Nat.lt_of_lt_of_le hk h.size) hb).trans (h.block k hk hb)⟩
theorem OutOf.below (h:OutOf lo hi w W) {m:Nat} (hm:m≤lo) (hl:m≤w.heap.size):Below m w W:=⟨h.os,h.tape,h.output,h.size,fun k hk=>h.block k (by omega) (.inl (by omega))⟩
theorem OutOf.of_grown (h:w.grownBy W (some B)) (h1:lo≤B) (h2:B < hi):OutOf lo hi w W :=
 ⟨h.os,h.tape,h.output,h.size,fun k hk hb=>h.block k hk (by simp; omega)⟩
theorem HoldsL.outOf {cs:List Value} (h:HoldsL w B cs) (hl:0 < cs.length) (ho:OutOf lo hi w W) (hb:B < lo∨hi≤B):HoldsL W B cs:=h.of_block (ho.block B (h.lt hl) hb)
end
section
variable {α:Type} {en:α→List Value} {n:Nat} {lo hi lo2 hi2:Nat} {w W:World} {a:Option Addr} {xs:List α}
theorem SlLaid.of_block {B L k:Nat} (h:SlLaid en n w B xs L k) (hb:W.heap[B]?=w.heap[B]?) (hs:w.heap.size≤W.heap.size):SlLaid en n W B xs L k:=by
 have hc:∀ o,W.cell? ⟨B,o,none⟩=w.cell? ⟨B,o,none⟩:=fun o=>by unfold World.cell?; rw [show (⟨B,o,none⟩ : Addr).block=B from rfl,hb]
 have hf:∀ o,W.frozen? ⟨B,o,none⟩=w.frozen? ⟨B,o,none⟩:=fun o=>World.frozen?_of_block (a:=⟨B,o,none⟩) hb
 exact ⟨Nat.lt_of_lt_of_le h.blk hs,fun i hi hk j v hv=>(hc _).trans (h.at0 i hi hk j v hv),fun i hi=>by rw [hc]; exact h.there i hi,fun i hi=>by rw [hf]; exact h.free i hi⟩
def SlIn (en:α→List Value) (n lo hi:Nat) (w:World) (a:Option Addr) (xs:List α):Prop:=xs=[]∨∃ g,a=some ⟨g,0,none⟩∧lo≤g∧g < hi∧SlLaid en n w g xs xs.length xs.length
theorem SlIn.of_own (h:SlOwn en n lo w a xs) {hi:Nat} (hh:w.heap.size≤hi):SlIn en n lo hi w a xs:=by
 rcases h with h | ⟨g,h1,h2,h3⟩
 ·exact .inl h
 ·exact .inr ⟨g,h1,h2,Nat.lt_of_lt_of_le h3.blk hh,h3⟩
theorem SlIn.own (h:SlIn en n lo hi w a xs):SlOwn en n lo w a xs:=by
 rcases h with h | ⟨g,h1,h2,h3,h4⟩
 ·exact .inl h
 ·exact .inr ⟨g,h1,h2,h4⟩
theorem SlIn.is (h:SlIn en n lo hi w a xs):SlIs en n w a xs:=h.own.is
theorem SlIn.kept (h:SlIn en n lo hi w a xs) (hb:Below w.heap.size w W):SlIn en n lo hi W a xs:=by
 rcases h with h | ⟨g,h1,h2,h3,h4⟩
 ·exact .inl h
 ·exact .inr ⟨g,h1,h2,h3,h4.kept hb⟩
theorem SlIn.outOf (h:SlIn en n lo hi w a xs) (ho:OutOf lo2 hi2 w W) (hb:hi≤lo2∨hi2≤lo):SlIn en n lo hi W a xs:=by
 rcases h with h | ⟨g,h1,h2,h3,h4⟩
 ·exact .inl h
 ·exact .inr ⟨g,h1,h2,h3,h4.of_block (ho.block g h4.blk (by omega)) ho.size⟩
end
structure BbIn (lo hi:Nat) (w:World) (a b:Option Addr) (x:Bb):Prop where
 bd:SlIn bdL 5 lo hi w a x.binds
 ss:SlIn ssL 7 lo hi w b x.sess
 ne:∀ g h,a=some ⟨g,0,none⟩→b=some ⟨h,0,none⟩→x.binds≠[]→x.sess≠[]→g≠h
section
variable {lo hi lo2 hi2:Nat} {w W:World} {a b:Option Addr} {x:Bb}
theorem BbIn.of_own (h:BbOwn lo w a b x) (hh:w.heap.size≤hi):BbIn lo hi w a b x:=⟨SlIn.of_own h.bd hh,SlIn.of_own h.ss hh,h.ne⟩
theorem BbIn.own (h:BbIn lo hi w a b x):BbOwn lo w a b x:=⟨h.bd.own,h.ss.own,h.ne⟩
theorem BbIn.is (h:BbIn lo hi w a b x):BbIs w a b x:=⟨h.bd.is,h.ss.is⟩
theorem BbIn.kept (h:BbIn lo hi w a b x) (hb:Below w.heap.size w W):BbIn lo hi W a b x:=⟨h.bd.kept hb,h.ss.kept hb,h.ne⟩
theorem BbIn.outOf (h:BbIn lo hi w a b x) (ho:OutOf lo2 hi2 w W) (hb:hi≤lo2∨hi2≤lo):BbIn lo hi W a b x:=⟨h.bd.outOf ho hb,h.ss.outOf ho hb,h.ne⟩
theorem BbOwn.low {base:Nat} (h:BbOwn base w a b x) {m:Nat} (hm:m≤base):BbOwn m w a b x:=⟨h.bd.down hm,h.ss.down hm,h.ne⟩
end
def IsPl (base:Nat) (p:Pl):Value→World→Prop:=fun v w=>∃ B,v=plC (some ⟨B,0,none⟩) p.addrs.length p∧base≤B∧SlLaid strL1 1 w B p.addrs p.addrs.length p.addrs.length
theorem stable_isPl (base:Nat) (p:Pl):Stable (IsPl base p):=fun v w w' ⟨B,h1,h2,h3⟩ hb=>⟨B,h1,h2,h3.kept hb⟩
def IsBb (base:Nat) (x:Bb):Value→World→Prop:=fun v w=>∃ a b ca cb,v=bbC a b ca cb x∧BbOwn base w a b x
theorem stable_isBb (base:Nat) (x:Bb):Stable (IsBb base x):=fun v w w' ⟨a,b,ca,cb,h1,h2⟩ hb=>⟨a,b,ca,cb,h1,h2.kept hb⟩
theorem strs_in {xs:List ByteArray} {left:Int} (h0:0≤left) (h1:left≤1048576) (h:0≤szSl strN xs left):xs.length≤1048576∧∀ s∈xs,s.size≤1048576:=by
 obtain ⟨h2,h3⟩:=szSl_in h0 h;exact ⟨by omega,fun q hq=>by have:=h3 q hq q.size (by simp [strN]); omega⟩
def BbSm (x:Bb):Prop:=x.binds.length≤1048576∧x.sess.length≤1048576∧(∀ q∈x.binds,q.inn.size≤1048576∧q.out.size≤1048576)∧∀ s∈x.sess,s.inn.size≤1048576∧s.peer.size≤1048576
theorem bb_in {x:Bb} {left:Int} (h0:0≤left) (h1:left≤1048576) (h:0≤szBb x left):BbSm x:=by
 unfold szBb at h;split at h
 ·omega
 ·rename_i hn;have r1:=szSl_range bindN x.binds left h0;obtain ⟨a1,a2⟩:=szSl_in h0 (show 0≤szSl bindN x.binds left by omega);obtain ⟨b1,b2⟩:=szSl_in (show 0≤szSl bindN x.binds left by omega) h;refine ⟨by omega,by omega,fun q hq=>⟨?_,?_⟩,fun q hq=>⟨?_,?_⟩⟩
  ·have:=a2 q hq q.inn.size (by simp [bindN]); omega
  ·have:=a2 q hq q.out.size (by simp [bindN]); omega
  ·have:=b2 q hq q.inn.size (by simp [sessionN]); omega
  ·have:=b2 q hq q.peer.size (by simp [sessionN]); omega
theorem szBb_range (x:Bb) (left:Int) (h:0≤left) : -1≤szBb x left∧szBb x left≤left:=by
 unfold szBb;have r1:=szSl_range bindN x.binds left h;split
 ·omega
 ·have r2:=szSl_range sessionN x.sess (szSl bindN x.binds left) (by omega); omega
theorem markPool_out (lo hi:Nat) (p:Pl) (a1:Option Addr) (cap1 k:Nat) (w:World) (hk:0 < k) (hL:k+1*p.addrs.length≤1073741824) (hs:SlIn strL1 1 lo hi w a1 p.addrs) :
  Calls Tryz.prog 17 #[plC a1 cap1 p,.int .i64 k] w fun e w'=>e=.returned (.int .i64 ((k+1*p.addrs.length:Nat):Int))∧OutOf lo hi w w':=by
 have GA:Hid (Below w.heap.size w (w.alloc (.cells #[.slice a1 p.addrs.length cap1,.int .i64 p.low,.int .i64 p.high,.int .i64 p.most,.int .i64 p.filter,.int .i64 p.lv.udp,.int .i64 p.lv.echo,.int .i64 p.lv.opening,.int .i64 p.lv.opn,.int .i64 p.lv.closing] 48))):=(Below.refl _ _).alloc (Nat.le_refl _) _;have HM:Hid (∀ W,Below w.heap.size w W→Calls Tryz.prog 42 #[.slice a1 p.addrs.length cap1,.int .i64 k] W fun e w'=>e=.returned (.int .i64 ((k+1*p.addrs.length:Nat):Int))∧OutOf lo hi W w'):=fun W hW=>by
  rcases hs.kept hW with h | ⟨g,rfl,h1,h2,h3⟩
  ·rw [h];refine (markStringS_nil a1 cap1 k W (by omega)).mono ?_;rintro e w' ⟨rfl,rfl⟩;exact ⟨rfl,OutOf.of_below (Below.refl _ _)⟩
  ·refine (markStringS_any g p.addrs.length cap1 k W hk hL (h3.other _)).mono ?_;rintro e w' ⟨rfl,_,h5⟩;exact ⟨rfl,OutOf.of_grown h5 h1 h2⟩
 clear hs;unfold plC;go_enter Tryz.func17,Tryz.ntmps17
 go_wp2_with fail
 refine (HM.out _ GA.out).mono ?_;rintro e w1 ⟨rfl,q1⟩;have G1:Hid (OutOf lo hi w w1):=(OutOf.of_below GA.out).trans q1;clear q1;go_wp2_with fail
 go_ret;exact ⟨ret_int (by omega),G1.out⟩
theorem markBindS_out (lo hi:Nat) (x:Bb) (a b:Option Addr) (ca k:Nat) (w:World) (hk:0 < k) (hL:k+5*x.binds.length≤1073741824) (hs:BbIn lo hi w a b x) :
  Calls Tryz.prog 43 #[.slice a x.binds.length ca,.int .i64 k] w fun e w'=>e=.returned (.int .i64 ((k+5*x.binds.length:Nat):Int))∧MkOwn 5 bindM lo w' a k x.binds.length∧SlIn ssL 7 lo hi w' b x.sess∧OutOf lo hi w w':=by
 obtain ⟨h1,h2,h3⟩:=hs;by_cases e1:x.binds=[]
 ·rw [e1];refine (markBindS_nil a ca k w (by omega)).mono ?_;rintro e w' ⟨rfl,rfl⟩;exact ⟨rfl,.inl rfl,h2,OutOf.of_below (Below.refl _ _)⟩
 ·rcases h1 with e | ⟨g,rfl,hb,hh,hl⟩
  ·exact absurd e e1
  ·refine (markBindS_any g x.binds.length ca k w hk hL (hl.other _)).mono ?_;rintro e w' ⟨rfl,q1,q2⟩;refine ⟨rfl,.inr ⟨g,rfl,hb,q1⟩,?_,OutOf.of_grown q2 hb hh⟩;by_cases e2:x.sess=[]
   ·exact .inl e2
   ·rcases h2 with e | ⟨h,rfl,hb2,hh2,hl2⟩
    ·exact absurd e e2
    ·exact .inr ⟨h,rfl,hb2,hh2,hl2.grownNe q2 (fun e=>h3 g h rfl rfl e1 e2 e.symm)⟩
theorem markSessionS_out (lo hi:Nat) (xs:List Ss) (a b:Option Addr) (cb k kb nb:Nat) (w:World) (hk:0 < k) (hL:k+7*xs.length≤1073741824) (hm:MkOwn 5 bindM lo w a kb nb) (hs:SlIn ssL 7 lo hi w b xs) (hne:∀ g h,a=some ⟨g,0,none⟩→b=some ⟨h,0,none⟩→nb≠0→xs≠[]→g≠h) :
  Calls Tryz.prog 44 #[.slice b xs.length cb,.int .i64 k] w fun e w'=>e=.returned (.int .i64 ((k+7*xs.length:Nat):Int))∧MkOwn 5 bindM lo w' a kb nb∧MkOwn 7 sessionM lo w' b k xs.length∧OutOf lo hi w w':=by
 by_cases e1:xs=[]
 ·rw [e1];refine (markSessionS_nil b cb k w (by omega)).mono ?_;rintro e w' ⟨rfl,rfl⟩;exact ⟨rfl,hm,.inl rfl,OutOf.of_below (Below.refl _ _)⟩
 ·rcases hs with e | ⟨h,rfl,hb,hh,hl⟩
  ·exact absurd e e1
  ·refine (markSessionS_any h xs.length cb k w hk hL (hl.other _)).mono ?_;rintro e w' ⟨rfl,q1,q2⟩;refine ⟨rfl,?_,.inr ⟨h,rfl,hb,q1⟩,OutOf.of_grown q2 hb hh⟩;by_cases e2:nb=0
   ·exact .inl e2
   ·rcases hm with e | ⟨g,rfl,hb2,hl2⟩
    ·exact absurd e e2
    ·exact .inr ⟨g,rfl,hb2,hl2.grownNe q2 (fun e=>hne g h rfl rfl e2 e1 e)⟩
theorem markBib_out (lo hi:Nat) (x:Bb) (a b:Option Addr) (ca cb k:Nat) (w:World) (hh:hi≤w.heap.size) (hk:0 < k) (hL:k+5*x.binds.length+7*x.sess.length≤1073741824) (hs:BbIn lo hi w a b x) :
  Calls Tryz.prog 18 #[bbC a b ca cb x,.int .i64 k] w fun e w'=>e=.returned (.int .i64 ((k+5*x.binds.length+7*x.sess.length:Nat):Int))∧BbMk lo w' a b k x.binds.length x.sess.length∧OutOf lo hi w w':=by
 have GA:Hid (Below w.heap.size w (w.alloc (.cells #[.slice a x.binds.length ca,.slice b x.sess.length cb] 39))):=(Below.refl _ _).alloc (Nat.le_refl _) _;have HM:Hid _:=markBindS_out lo hi x a b ca k (w.alloc (.cells #[.slice a x.binds.length ca,.slice b x.sess.length cb] 39)) hk (by omega) (hs.kept GA.out);have HN:Hid (∀ W,MkOwn 5 bindM lo W a k x.binds.length→SlIn ssL 7 lo hi W b x.sess→Calls Tryz.prog 44 #[.slice b x.sess.length cb,.int .i64 ((k+5*x.binds.length:Nat):Int)] W fun e w'=>e=.returned (.int .i64 ((k+5*x.binds.length+7*x.sess.length:Nat):Int))∧MkOwn 5 bindM lo w' a k x.binds.length∧MkOwn 7 sessionM lo w' b (k+5*x.binds.length) x.sess.length∧OutOf lo hi W w'):=fun W h1 h2=>markSessionS_out lo hi x.sess a b cb (k+5*x.binds.length) k x.binds.length W (by omega) hL h1 h2 (fun g h e1 e2 n1 n2=>hs.ne g h e1 e2 (fun e=>n1 (by rw [e]; rfl)) n2)
 have H0:Hid _:=HoldsL.new w [.slice a x.binds.length ca,.slice b x.sess.length cb] 39;have hh':Hid (hi≤w.heap.size):=hh;obtain ⟨k1,hk1⟩ : ∃ k1,k1=k+5*x.binds.length:=⟨_,rfl⟩;rw [← hk1] at HM HN hL ⊢;obtain ⟨k2,hk2⟩ : ∃ k2,k2=k1+7*x.sess.length:=⟨_,rfl⟩;rw [← hk2] at HN hL ⊢;have HK1:Hid (k1=k+5*x.binds.length):=hk1;clear hk1 hk2 hs hh;unfold bbC;go_enter Tryz.func18,Tryz.ntmps18
 go_wp2_with fail
 refine Calls.mono HM.out ?_;rintro e w1 ⟨rfl,m1,o1,q1⟩;have G1:Hid (OutOf lo hi w w1):=(OutOf.of_below GA.out).trans q1;have M1:Hid _:=m1;have O1:Hid _:=o1;have c1:w1.cell? ⟨w.heap.size,1,none⟩=some (.slice b x.sess.length cb):=(H0.out.outOf (by simp) q1 (.inr hh'.out)).cell rfl;clear m1 o1 q1;go_wp2_with fail
 refine (HN.out _ M1.out O1.out).mono ?_;rintro e w2 ⟨rfl,m2,o2,q2⟩;have G2:Hid (OutOf lo hi w w2):=G1.out.trans q2;have M2:Hid (BbMk lo w2 a b k x.binds.length x.sess.length):=⟨m2,by rw [← HK1.out]; exact o2⟩;clear m2 o2 q2;go_wp2_with fail
 go_ret;exact ⟨rfl,M2.out,G2.out⟩
section
variable {base lo hi B:Nat} {w W:World} {a b:Option Addr} {x:Bb}
theorem BbOwn.grownNe (h:BbOwn base w a b x) (hg:w.grownBy W (some B)) (hne:∀ g o,(x.binds≠[]∧a=some ⟨g,o,none⟩)∨(x.sess≠[]∧b=some ⟨g,o,none⟩)→g≠B):BbOwn base W a b x:=by
 refine ⟨?_,?_,h.ne⟩
 ·by_cases e:x.binds=[]
  ·exact .inl e
  ·rcases h.bd with h1 | ⟨g,rfl,h2,h3⟩
   ·exact .inl h1
   ·exact .inr ⟨g,rfl,h2,h3.grownNe hg (hne g 0 (.inl ⟨e,rfl⟩))⟩
 ·by_cases e:x.sess=[]
  ·exact .inl e
  ·rcases h.ss with h1 | ⟨g,rfl,h2,h3⟩
   ·exact .inl h1
   ·exact .inr ⟨g,rfl,h2,h3.grownNe hg (hne g 0 (.inr ⟨e,rfl⟩))⟩
theorem BbOwn.not_box {y:Option Addr} {n cap:Nat} {l:List Value} (h:BbOwn base w a b x) (hB:HoldsL w B (.slice y n cap::l)):∀ g o,(x.binds≠[]∧a=some ⟨g,o,none⟩)∨(x.sess≠[]∧b=some ⟨g,o,none⟩)→g≠B:=by
 intro g o hc hg;subst hg;have h2:=hB.cell (j:=0) rfl;rcases hc with ⟨h1,rfl⟩ | ⟨h1,rfl⟩
 ·rcases h.bd with h3 | ⟨g',e,_,h3⟩
  ·exact h1 h3
  ·cases e
   cases hx:x.binds with
   | nil=>exact h1 hx
   | cons q qs =>
    rw [hx] at h3;have:=h3.at 0 (by simp) 0 (.int .i64 q.proto) rfl;simp at this;rw [h2] at this;simp at this
 ·rcases h.ss with h3 | ⟨g',e,_,h3⟩
  ·exact h1 h3
  ·cases e
   cases hx:x.sess with
   | nil=>exact h1 hx
   | cons q qs =>
    rw [hx] at h3;have:=h3.at 0 (by simp) 0 (.int .i64 q.proto) rfl;simp at this;rw [h2] at this;simp at this
end
def IsZx (base:Nat) (zs:List Value):Value→World→Prop:=fun v w=>∃ g,v=.pointer (some ⟨g,0,none⟩)∧base≤g∧HoldsL w g zs
theorem stable_isZx (base:Nat) (zs:List Value) (h:0 < zs.length):Stable (IsZx base zs):=fun v w w' ⟨g,h1,h2,h3⟩ hb=>⟨g,h1,h2,h3.kept h hb⟩
theorem markBindS_but (lo hi:Nat) (x:Bb) (a b:Option Addr) (ca k:Nat) (w:World) (hk:0 < k) (hL:k+5*x.binds.length≤1073741824) (hs:BbIn lo hi w a b x) (X:Nat) (hX:X < w.heap.size) (hn:∀ g o',(x.binds≠[]∧a=some ⟨g,o',none⟩)∨(x.sess≠[]∧b=some ⟨g,o',none⟩)→g≠X) :
  Calls Tryz.prog 43 #[.slice a x.binds.length ca,.int .i64 k] w fun e w'=>e=.returned (.int .i64 ((k+5*x.binds.length:Nat):Int))∧MkOwn 5 bindM lo w' a k x.binds.length∧SlIn ssL 7 lo hi w' b x.sess∧OutOf lo hi w w'∧w'.heap[X]?=w.heap[X]?:=by
 obtain ⟨h1,h2,h3⟩:=hs;by_cases e1:x.binds=[]
 ·rw [e1];refine (markBindS_nil a ca k w (by omega)).mono ?_;rintro e w' ⟨rfl,rfl⟩;exact ⟨rfl,.inl rfl,h2,OutOf.of_below (Below.refl _ _),rfl⟩
 ·rcases h1 with e | ⟨g,rfl,hb,hh,hl⟩
  ·exact absurd e e1
  ·refine (markBindS_any g x.binds.length ca k w hk hL (hl.other _)).mono ?_;rintro e w' ⟨rfl,q1,q2⟩;refine ⟨rfl,.inr ⟨g,rfl,hb,q1⟩,?_,OutOf.of_grown q2 hb hh,q2.block X hX (by simp; exact fun e=>hn g 0 (.inl ⟨e1,rfl⟩) e.symm)⟩;by_cases e2:x.sess=[]
   ·exact .inl e2
   ·rcases h2 with e | ⟨h,rfl,hb2,hh2,hl2⟩
    ·exact absurd e e2
    ·exact .inr ⟨h,rfl,hb2,hh2,hl2.grownNe q2 (fun e=>h3 g h rfl rfl e1 e2 e.symm)⟩
theorem markSessionS_but (lo hi:Nat) (xs:List Ss) (a b:Option Addr) (cb k kb nb:Nat) (w:World) (hk:0 < k) (hL:k+7*xs.length≤1073741824) (hm:MkOwn 5 bindM lo w a kb nb) (hs:SlIn ssL 7 lo hi w b xs) (hne:∀ g h,a=some ⟨g,0,none⟩→b=some ⟨h,0,none⟩→nb≠0→xs≠[]→g≠h) (X:Nat) (hX:X < w.heap.size) (hn:∀ g o,xs≠[]∧b=some ⟨g,o,none⟩→g≠X) :
  Calls Tryz.prog 44 #[.slice b xs.length cb,.int .i64 k] w fun e w'=>e=.returned (.int .i64 ((k+7*xs.length:Nat):Int))∧MkOwn 5 bindM lo w' a kb nb∧MkOwn 7 sessionM lo w' b k xs.length∧OutOf lo hi w w'∧w'.heap[X]?=w.heap[X]?:=by
 by_cases e1:xs=[]
 ·rw [e1];refine (markSessionS_nil b cb k w (by omega)).mono ?_;rintro e w' ⟨rfl,rfl⟩;exact ⟨rfl,hm,.inl rfl,OutOf.of_below (Below.refl _ _),rfl⟩
 ·rcases hs with e | ⟨h,rfl,hb,hh,hl⟩
  ·exact absurd e e1
  ·refine (markSessionS_any h xs.length cb k w hk hL (hl.other _)).mono ?_;rintro e w' ⟨rfl,q1,q2⟩;refine ⟨rfl,?_,.inr ⟨h,rfl,hb,q1⟩,OutOf.of_grown q2 hb hh,q2.block X hX (by simp; exact fun e=>hn h 0 ⟨e1,rfl⟩ e.symm)⟩;by_cases e2:nb=0
   ·exact .inl e2
   ·rcases hm with e | ⟨g,rfl,hb2,hl2⟩
    ·exact absurd e e2
    ·exact .inr ⟨g,rfl,hb2,hl2.grownNe q2 (fun e=>hne g h rfl rfl e2 e1 e)⟩
theorem markBib_but (lo hi:Nat) (x:Bb) (a b:Option Addr) (ca cb k:Nat) (w:World) (hh:hi≤w.heap.size) (hk:0 < k) (hL:k+5*x.binds.length+7*x.sess.length≤1073741824) (hs:BbIn lo hi w a b x) (X:Nat) (hX:X < w.heap.size) (hn:∀ g o',(x.binds≠[]∧a=some ⟨g,o',none⟩)∨(x.sess≠[]∧b=some ⟨g,o',none⟩)→g≠X) :
  Calls Tryz.prog 18 #[bbC a b ca cb x,.int .i64 k] w fun e w'=>e=.returned (.int .i64 ((k+5*x.binds.length+7*x.sess.length:Nat):Int))∧BbMk lo w' a b k x.binds.length x.sess.length∧OutOf lo hi w w'∧w'.heap[X]?=w.heap[X]?:=by
 have GA:Hid (Below w.heap.size w (w.alloc (.cells #[.slice a x.binds.length ca,.slice b x.sess.length cb] 39))):=(Below.refl _ _).alloc (Nat.le_refl _) _;have HX1:Hid (∀ W:World,w.heap.size≤W.heap.size→X < W.heap.size):=fun W hW=>by omega
 have HM:Hid _:=markBindS_but lo hi x a b ca k (w.alloc (.cells #[.slice a x.binds.length ca,.slice b x.sess.length cb] 39)) hk (by omega) (hs.kept GA.out) X (by simp; omega) hn;have HN:Hid (∀ W,X < W.heap.size→MkOwn 5 bindM lo W a k x.binds.length→SlIn ssL 7 lo hi W b x.sess→Calls Tryz.prog 44 #[.slice b x.sess.length cb,.int .i64 ((k+5*x.binds.length:Nat):Int)] W fun e w'=>e=.returned (.int .i64 ((k+5*x.binds.length+7*x.sess.length:Nat):Int))∧MkOwn 5 bindM lo w' a k x.binds.length∧MkOwn 7 sessionM lo w' b (k+5*x.binds.length) x.sess.length∧OutOf lo hi W w'∧w'.heap[X]?=W.heap[X]?):=fun W h0 h1 h2=>markSessionS_but lo hi x.sess a b cb (k+5*x.binds.length) k x.binds.length W (by omega) hL h1 h2 (fun g h e1 e2 n1 n2=>hs.ne g h e1 e2 (fun e=>n1 (by rw [e]; rfl)) n2) X h0 (fun g o h=>hn g o (.inr h))
 have H0:Hid _:=HoldsL.new w [.slice a x.binds.length ca,.slice b x.sess.length cb] 39;have hh':Hid (hi≤w.heap.size):=hh;obtain ⟨k1,hk1⟩ : ∃ k1,k1=k+5*x.binds.length:=⟨_,rfl⟩;rw [← hk1] at HM HN hL ⊢;obtain ⟨k2,hk2⟩ : ∃ k2,k2=k1+7*x.sess.length:=⟨_,rfl⟩;rw [← hk2] at HN hL ⊢;have HK1:Hid (k1=k+5*x.binds.length):=hk1;have HA0:Hid ((w.alloc (.cells #[.slice a x.binds.length ca,.slice b x.sess.length cb] 39)).heap[X]?=w.heap[X]?):=GA.out.block X hX;clear hk1 hk2 hs hh hn hX;unfold bbC;go_enter Tryz.func18,Tryz.ntmps18
 go_wp2_with fail
 refine Calls.mono HM.out ?_;rintro e w1 ⟨rfl,m1,o1,q1,x1⟩;have G1:Hid (OutOf lo hi w w1):=(OutOf.of_below GA.out).trans q1;have X1:Hid (w1.heap[X]?=w.heap[X]?):=x1.trans HA0.out;have HL1:Hid (X < w1.heap.size):=HX1.out _ G1.out.size;have M1:Hid _:=m1;have O1:Hid _:=o1;have c1:w1.cell? ⟨w.heap.size,1,none⟩=some (.slice b x.sess.length cb):=(H0.out.outOf (by simp) q1 (.inr hh'.out)).cell rfl;clear m1 o1 q1 x1;go_wp2_with fail
 refine (HN.out _ HL1.out M1.out O1.out).mono ?_;rintro e w2 ⟨rfl,m2,o2,q2,x2⟩;have X2:Hid (w2.heap[X]?=w.heap[X]?):=x2.trans X1.out;have G2:Hid (OutOf lo hi w w2):=G1.out.trans q2;have M2:Hid (BbMk lo w2 a b k x.binds.length x.sess.length):=⟨m2,by rw [← HK1.out]; exact o2⟩;clear m2 o2 q2 x2;go_wp2_with fail
 go_ret;exact ⟨rfl,M2.out,G2.out,X2.out⟩
structure BoxTouch (w:World) (B:Nat) (p:Tc):Prop where
 c0:w.cell? ⟨B,0,none⟩=some (.int .i64 p.proto)
 c1:w.cell? ⟨B,1,none⟩=some (.bool p.inside)
 c2:w.cell? ⟨B,2,none⟩=some (.string p.addr)
 c3:w.cell? ⟨B,3,none⟩=some (.int .i64 p.port)
 c4:w.cell? ⟨B,4,none⟩=some (.string p.peer)
 c5:w.cell? ⟨B,5,none⟩=some (.int .i64 p.peerPort)
 c6:w.cell? ⟨B,6,none⟩=some (.int .i64 p.flags)
theorem BoxTouch.kept {w W:World} {B:Nat} {p:Tc} (h:BoxTouch w B p) (hB:Below w.heap.size w W):BoxTouch W B p:=by
 have hb:=World.block_lt_of_cell? w _ h.c0;exact ⟨((bcell hB).1 B 0 hb).trans h.c0,((bcell hB).1 B 1 hb).trans h.c1,((bcell hB).1 B 2 hb).trans h.c2,((bcell hB).1 B 3 hb).trans h.c3,((bcell hB).1 B 4 hb).trans h.c4,((bcell hB).1 B 5 hb).trans h.c5,((bcell hB).1 B 6 hb).trans h.c6⟩
theorem BoxTouch.new (w:World) (p:Tc) {t:TypeId}:BoxTouch (w.alloc (.cells #[.int .i64 p.proto,.bool p.inside,.string p.addr,.int .i64 p.port,.string p.peer,.int .i64 p.peerPort,.int .i64 p.flags] t)) w.heap.size p:=⟨cell_new rfl,cell_new rfl,cell_new rfl,cell_new rfl,cell_new rfl,cell_new rfl,cell_new rfl⟩
def P4Wf (p:P4):Prop:=In64t p.tos∧In64t p.id∧In64t p.off∧In64t p.ttl∧In64t p.proto∧p.src.size≤maxLen∧p.dst.size≤maxLen∧p.opts.size≤maxLen∧p.data.size≤maxLen
structure BoxV4 (w:World) (B:Nat) (p:P4):Prop where
 c0:w.cell? ⟨B,0,none⟩=some (.int .i64 p.tos)
 c1:w.cell? ⟨B,1,none⟩=some (.int .i64 p.id)
 c2:w.cell? ⟨B,2,none⟩=some (.bool p.whole)
 c3:w.cell? ⟨B,3,none⟩=some (.bool p.more)
 c4:w.cell? ⟨B,4,none⟩=some (.int .i64 p.off)
 c5:w.cell? ⟨B,5,none⟩=some (.int .i64 p.ttl)
 c6:w.cell? ⟨B,6,none⟩=some (.int .i64 p.proto)
 c7:w.cell? ⟨B,7,none⟩=some (.string p.src)
 c8:w.cell? ⟨B,8,none⟩=some (.string p.dst)
 c9:w.cell? ⟨B,9,none⟩=some (.string p.opts)
 c10:w.cell? ⟨B,10,none⟩=some (.string p.data)
theorem BoxV4.kept {w W:World} {B:Nat} {p:P4} (h:BoxV4 w B p) (hB:Below w.heap.size w W):BoxV4 W B p:=by
 have hb:=World.block_lt_of_cell? w _ h.c0;exact ⟨((bcell hB).1 B 0 hb).trans h.c0,((bcell hB).1 B 1 hb).trans h.c1,((bcell hB).1 B 2 hb).trans h.c2,((bcell hB).1 B 3 hb).trans h.c3,((bcell hB).1 B 4 hb).trans h.c4,((bcell hB).1 B 5 hb).trans h.c5,((bcell hB).1 B 6 hb).trans h.c6,((bcell hB).1 B 7 hb).trans h.c7,((bcell hB).1 B 8 hb).trans h.c8,((bcell hB).1 B 9 hb).trans h.c9,((bcell hB).1 B 10 hb).trans h.c10⟩
theorem BoxV4.new (w:World) (p:P4) {t:TypeId}:BoxV4 (w.alloc (.cells #[.int .i64 p.tos,.int .i64 p.id,.bool p.whole,.bool p.more,.int .i64 p.off,.int .i64 p.ttl,.int .i64 p.proto,.string p.src,.string p.dst,.string p.opts,.string p.data] t)) w.heap.size p:=⟨cell_new rfl,cell_new rfl,cell_new rfl,cell_new rfl,cell_new rfl,cell_new rfl,cell_new rfl,cell_new rfl,cell_new rfl,cell_new rfl,cell_new rfl⟩
section
variable {H:Type} {enc:TypeId × Value→H} {w:World} {base:Nat} {spare:Nat→Bool} {held:Bool}
theorem open_V4 {r:Reach} {b0:Nat} {v:Value} {d:DataW H} {p:List MemPlace} (hv:Value.okWide Tryz.prog w r b0 32 v) (h:DataW.Trod enc Tryz.prog w base spare held 32 v d p) :
  ∃ q:P4,v=p4C q∧P4Wf q:=by
 obtain ⟨cs,rfl,hsz⟩:=okWide_struct Tryz.underlying32 hv;obtain ⟨c0,c1,c2,c3,c4,c5,c6,c7,c8,c9,c10,rfl⟩:=arr11 (hsz.trans (show Tryz.prog.cellsOf 32=11 by kernel_rfl));obtain ⟨fuel,hf⟩:=h;obtain ⟨m0,y0,h0⟩:=flat_field Tryz.underlying32 hf 0 _ rfl rfl (show Tryz.prog.cellsOf 2=1 by kernel_rfl) c0 rfl;obtain ⟨x0,e0,_,g0⟩:=DataW.trod_int Tryz.underlying2 h0;obtain ⟨m1,y1,h1⟩:=flat_field Tryz.underlying32 hf 1 _ rfl rfl (show Tryz.prog.cellsOf 2=1 by kernel_rfl) c1 rfl;obtain ⟨x1,e1,_,g1⟩:=DataW.trod_int Tryz.underlying2 h1;obtain ⟨m2,y2,h2⟩:=flat_field Tryz.underlying32 hf 2 _ rfl rfl (show Tryz.prog.cellsOf 4=1 by kernel_rfl) c2 rfl;obtain ⟨x2,e2,_⟩:=DataW.trod_bool Tryz.underlying4 h2;obtain ⟨m3,y3,h3⟩:=flat_field Tryz.underlying32 hf 3 _ rfl rfl (show Tryz.prog.cellsOf 4=1 by kernel_rfl) c3 rfl;obtain ⟨x3,e3,_⟩:=DataW.trod_bool Tryz.underlying4 h3;obtain ⟨m4,y4,h4⟩:=flat_field Tryz.underlying32 hf 4 _ rfl rfl (show Tryz.prog.cellsOf 2=1 by kernel_rfl) c4 rfl;obtain ⟨x4,e4,_,g4⟩:=DataW.trod_int Tryz.underlying2 h4;obtain ⟨m5,y5,h5⟩:=flat_field Tryz.underlying32 hf 5 _ rfl rfl (show Tryz.prog.cellsOf 2=1 by kernel_rfl) c5 rfl;obtain ⟨x5,e5,_,g5⟩:=DataW.trod_int Tryz.underlying2 h5;obtain ⟨m6,y6,h6⟩:=flat_field Tryz.underlying32 hf 6 _ rfl rfl (show Tryz.prog.cellsOf 2=1 by kernel_rfl) c6 rfl;obtain ⟨x6,e6,_,g6⟩:=DataW.trod_int Tryz.underlying2 h6;obtain ⟨m7,y7,h7⟩:=flat_field Tryz.underlying32 hf 7 _ rfl rfl (show Tryz.prog.cellsOf 9=1 by kernel_rfl) c7 rfl;obtain ⟨x7,e7,_,g7⟩:=DataW.trod_string Tryz.underlying9 h7;obtain ⟨m8,y8,h8⟩:=flat_field Tryz.underlying32 hf 8 _ rfl rfl (show Tryz.prog.cellsOf 9=1 by kernel_rfl) c8 rfl;obtain ⟨x8,e8,_,g8⟩:=DataW.trod_string Tryz.underlying9 h8;obtain ⟨m9,y9,h9⟩:=flat_field Tryz.underlying32 hf 9 _ rfl rfl (show Tryz.prog.cellsOf 9=1 by kernel_rfl) c9 rfl;obtain ⟨x9,e9,_,g9⟩:=DataW.trod_string Tryz.underlying9 h9;obtain ⟨m10,y10,h10⟩:=flat_field Tryz.underlying32 hf 10 _ rfl rfl (show Tryz.prog.cellsOf 9=1 by kernel_rfl) c10 rfl;obtain ⟨x10,e10,_,g10⟩:=DataW.trod_string Tryz.underlying9 h10;simp only [List.cons.injEq,and_true] at e0 e1 e2 e3 e4 e5 e6 e7 e8 e9 e10;subst e0 e1 e2 e3 e4 e5 e6 e7 e8 e9 e10;exact ⟨⟨x0,x1,x2,x3,x4,x5,x6,x7,x8,x9,x10⟩,rfl,wf64s g0,wf64s g1,wf64s g4,wf64s g5,wf64s g6,g7,g8,g9,g10⟩
end
theorem toV4_any (p:P4) (w:World) :
  Calls Tryz.prog 12 #[p4C p] w fun e w'=>e=.returned (p4C p)∧Below w.heap.size w w':=by
 obtain ⟨tos,id,whole,more,off,ttl,proto,src,dst,opts,data⟩:=p;unfold p4C;dsimp only;go_enter Tryz.func12,Tryz.ntmps12
 go_wp2_with fail
 refine bodyPost_ret (v:=.agg #[.int .i64 tos,.int .i64 id,.bool whole,.bool more,.int .i64 off,.int .i64 ttl,.int .i64 proto,.string src,.string dst,.string opts,.string data]) (by simp [results,Tryz.results12,go_sem]) rfl ⟨rfl,?_⟩;exact (((Below.refl _ _).alloc (Nat.le_refl _) _).alloc (by simp) _).alloc (by simp; omega) _
theorem eqV4_same (p:P4) (w:World) :
  Calls Tryz.prog 36 #[p4C p,p4C p] w fun e w'=>e=.returned (.bool true)∧Below w.heap.size w w':=by
 obtain ⟨tos,id,whole,more,off,ttl,proto,src,dst,opts,data⟩:=p;unfold p4C;dsimp only;have HZ:Hid (Below w.heap.size w ((w.alloc (.cells #[.int .i64 tos,.int .i64 id,.bool whole,.bool more,.int .i64 off,.int .i64 ttl,.int .i64 proto,.string src,.string dst,.string opts,.string data] 40)).alloc (.cells #[.int .i64 tos,.int .i64 id,.bool whole,.bool more,.int .i64 off,.int .i64 ttl,.int .i64 proto,.string src,.string dst,.string opts,.string data] 40))):=((Below.refl _ _).alloc (Nat.le_refl _) _).alloc (by simp) _;go_enter Tryz.func36,Tryz.ntmps36
 go_wp2_with fail
 go_ret;exact ⟨rfl,HZ.out⟩
end Go.Proofs.YtcckaeppiamebaaGreatDoor
namespace Go.Proofs.YtcckaeppiamebaaGreatDoor
open Go.RowKit Go.PlainAid
def v4AN (p:P4):List Nat:=[p.src.size,p.dst.size,p.opts.size,p.data.size]
theorem v4N_in {p:P4} {left:Int} (h1:left≤1048576) (h:0≤szN (v4AN p) left):p.src.size≤1048576∧p.dst.size≤1048576∧p.opts.size≤1048576∧p.data.size≤1048576:=by
 have hb:=szN_bound _ _ h;exact ⟨by have:=hb p.src.size (by simp [v4AN]); omega,by have:=hb p.dst.size (by simp [v4AN]); omega,by have:=hb p.opts.size (by simp [v4AN]); omega,by have:=hb p.data.size (by simp [v4AN]); omega⟩
theorem szV4A_at (p:P4) (left:Int) (w:World) (hw:P4Wf p) (h0:0≤left) (h1:left≤1048576) :
  Calls Tryz.prog 8 #[p4C p,.int .i64 left] w fun e w'=>e=.returned (.int .i64 (szN (v4AN p) left))∧Below w.heap.size w w':=by
 have HV0:Hid (szN (v4AN p) left=szN [p.src.size,p.dst.size,p.opts.size,p.data.size] left):=rfl;obtain ⟨q_tos,q_id,q_off,q_ttl,q_proto,q_src,q_dst,q_opts,q_data⟩:=hw;generalize szN (v4AN p) left=ans at *;obtain ⟨tos,id,whole,more,off,ttl,proto,src,dst,opts,data⟩:=p;unfold p4C;dsimp only at *;unfold maxLen at *;clear q_tos q_id q_off q_ttl q_proto;have HZ:Hid (Below w.heap.size w (w.alloc (.cells #[.int .i64 tos,.int .i64 id,.bool whole,.bool more,.int .i64 off,.int .i64 ttl,.int .i64 proto,.string src,.string dst,.string opts,.string data] 32))):=(Below.refl _ _).alloc (Nat.le_refl _) _;by_cases l0:left < (src.size:Int)
 ·have HV:Hid (ans=-1):=by unfold Hid; rw [HV0.out,szN_yes l0]
  clear HV0;go_enter Tryz.func8,Tryz.ntmps8
  go_wp2_with fail
  go_ret;exact ⟨ret_int HV.out.symm,HZ.out⟩
 ·skip
  by_cases l1:left-src.size < (dst.size:Int)
  ·have HV:Hid (ans=-1):=by unfold Hid; rw [HV0.out,szN_no l0,szN_yes l1]
   clear HV0;go_enter Tryz.func8,Tryz.ntmps8
   go_wp2_with fail
   go_ret;exact ⟨ret_int HV.out.symm,HZ.out⟩
  ·skip
   by_cases l2:left-src.size-dst.size < (opts.size:Int)
   ·have HV:Hid (ans=-1):=by unfold Hid; rw [HV0.out,szN_no l0,szN_no l1,szN_yes l2]
    clear HV0;go_enter Tryz.func8,Tryz.ntmps8
    go_wp2_with fail
    go_ret;exact ⟨ret_int HV.out.symm,HZ.out⟩
   ·skip
    by_cases l3:left-src.size-dst.size-opts.size < (data.size:Int)
    ·have HV:Hid (ans=-1):=by unfold Hid; rw [HV0.out,szN_no l0,szN_no l1,szN_no l2,szN_yes l3]
     clear HV0;go_enter Tryz.func8,Tryz.ntmps8
     go_wp2_with fail
     go_ret;exact ⟨ret_int HV.out.symm,HZ.out⟩
    ·have HV:Hid (ans=left-src.size-dst.size-opts.size-data.size):=by unfold Hid; rw [HV0.out,szN_no l0,szN_no l1,szN_no l2,szN_no l3]; rfl
     clear HV0;go_enter Tryz.func8,Tryz.ntmps8
     go_wp2_with fail
     go_ret;exact ⟨ret_int HV.out.symm,HZ.out⟩
end Go.Proofs.YtcckaeppiamebaaGreatDoor
