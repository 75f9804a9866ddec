import Derived.Test.YtcckaeppiamebaaGreatDoorAb
import Derived.Test.YtcckaeppiamebaaGreatDoorMerged7
import Derived.Test.YtcckaeppiamebaaGreatDoorMerged1
import Derived.Test.YtcckaeppiamebaaGreatDoorMerged2
import Derived.Test.YtcckaeppiamebaaGreatDoorMerged4
import Derived.Test.YtcckaeppiamebaaGreatDoorHoldL
import Derived.Deep.DeepCutAuto
import Derived.Test.YtcckaeppiamebaaGreatDoorMerged6
set_option linter.unusedVariables false
set_option linter.unusedSimpArgs false
set_option maxRecDepth 100000
set_option maxHeartbeats 8000000
namespace Go.Proofs.YtcckaeppiamebaaGreatDoor
open Go.RowKit Go.PlainAid Go.ChangeShapes Go.WideShapes
theorem markPool_out (lo hi:Nat) (p:Pl) (a1:Option Addr) (cap1 k:Nat) (w:World) (hk:0 < k) (hL:k+1*p.addrs.length≤1073741824) (hs:SlIn strL1 1 lo hi w a1 p.addrs) :
  Calls Tryz.prog 17 #[plC a1 cap1 p,iV k] w fun e w'=>e=.returned (iV ((k+1*p.addrs.length:Nat):Int))∧OutOf lo hi w w':=by
 have GA:Hid (Below w.heap.size w (w.alloc (.cells (PlV a1 cap1 p).toArray 48))):=(Below.refl _ _).alloc (Nat.le_refl _) _;have HM:Hid (∀ W,Below w.heap.size w W→Calls Tryz.prog 42 #[.slice a1 p.addrs.length cap1,iV k] W fun e w'=>e=.returned (iV ((k+1*p.addrs.length:Nat):Int))∧OutOf lo hi W w'):=fun W hW=>by
  rcases hs.kept hW with h | ⟨g,rfl,h1,h2,h3⟩
  ·rw [h];refine (markStringS_nil a1 cap1 k W (by omega)).mono ?_;rintro e w' ⟨rfl,rfl⟩;exact ⟨rfl,OutOf.of_below (Below.refl _ _)⟩
  ·refine (markStringS_any g p.addrs.length cap1 k W hk hL (h3.other _)).mono ?_;rintro e w' ⟨rfl,_,h5⟩;exact ⟨rfl,OutOf.of_grown h5 h1 h2⟩
 clear hs;unfold plC;go_enter Tryz.func17,Tryz.ntmps17
 go_wp2_with fail
 refine (HM.out _ GA.out).mono ?_;rintro e w1 ⟨rfl,q1⟩;have G1:Hid (OutOf lo hi w w1):=(OutOf.of_below GA.out).trans q1;clear q1;go_wp2_with fail
 go_ret;exact ⟨ret_int (by omega),G1.out⟩
theorem markBindS_out (lo hi:Nat) (x:Bb) (a b:Option Addr) (ca k:Nat) (w:World) (hk:0 < k) (hL:k+5*x.binds.length≤1073741824) (hs:BbIn lo hi w a b x) :
  Calls Tryz.prog 43 #[.slice a x.binds.length ca,iV k] w fun e w'=>e=.returned (iV ((k+5*x.binds.length:Nat):Int))∧MkOwn 5 bindM lo w' a k x.binds.length∧SlIn ssL 7 lo hi w' b x.sess∧OutOf lo hi w w':=by
 obtain ⟨h1,h2,h3⟩:=hs;by_cases e1:x.binds=[]
 ·rw [e1];refine (markBindS_nil a ca k w (by omega)).mono ?_;rintro e w' ⟨rfl,rfl⟩;exact ⟨rfl,.inl rfl,h2,OutOf.of_below (Below.refl _ _)⟩
 ·rcases h1 with e | ⟨g,rfl,hb,hh,hl⟩
  ·exact absurd e e1
  ·refine (markBindS_any g x.binds.length ca k w hk hL (hl.other _)).mono ?_;rintro e w' ⟨rfl,q1,q2⟩;refine ⟨rfl,.inr ⟨g,rfl,hb,q1⟩,?_,OutOf.of_grown q2 hb hh⟩;by_cases e2:x.sess=[]
   ·exact .inl e2
   ·rcases h2 with e | ⟨h,rfl,hb2,hh2,hl2⟩
    ·exact absurd e e2
    ·exact .inr ⟨h,rfl,hb2,hh2,hl2.grownNe q2 (fun e=>h3 g h rfl rfl e1 e2 e.symm)⟩
theorem markSessionS_out (lo hi:Nat) (xs:List Ss) (a b:Option Addr) (cb k kb nb:Nat) (w:World) (hk:0 < k) (hL:k+7*xs.length≤1073741824) (hm:MkOwn 5 bindM lo w a kb nb) (hs:SlIn ssL 7 lo hi w b xs) (hne:∀ g h,a=some ⟨g,0,none⟩→b=some ⟨h,0,none⟩→nb≠0→xs≠[]→g≠h) :
  Calls Tryz.prog 44 #[.slice b xs.length cb,iV k] w fun e w'=>e=.returned (iV ((k+7*xs.length:Nat):Int))∧MkOwn 5 bindM lo w' a kb nb∧MkOwn 7 sessionM lo w' b k xs.length∧OutOf lo hi w w':=by
 by_cases e1:xs=[]
 ·rw [e1];refine (markSessionS_nil b cb k w (by omega)).mono ?_;rintro e w' ⟨rfl,rfl⟩;exact ⟨rfl,hm,.inl rfl,OutOf.of_below (Below.refl _ _)⟩
 ·rcases hs with e | ⟨h,rfl,hb,hh,hl⟩
  ·exact absurd e e1
  ·refine (markSessionS_any h xs.length cb k w hk hL (hl.other _)).mono ?_;rintro e w' ⟨rfl,q1,q2⟩;refine ⟨rfl,?_,.inr ⟨h,rfl,hb,q1⟩,OutOf.of_grown q2 hb hh⟩;by_cases e2:nb=0
   ·exact .inl e2
   ·rcases hm with e | ⟨g,rfl,hb2,hl2⟩
    ·exact absurd e e2
    ·exact .inr ⟨g,rfl,hb2,hl2.grownNe q2 (fun e=>hne g h rfl rfl e2 e1 e)⟩
theorem markBib_out (lo hi:Nat) (x:Bb) (a b:Option Addr) (ca cb k:Nat) (w:World) (hh:hi≤w.heap.size) (hk:0 < k) (hL:k+5*x.binds.length+7*x.sess.length≤1073741824) (hs:BbIn lo hi w a b x) :
  Calls Tryz.prog 18 #[bbC a b ca cb x,iV k] w fun e w'=>e=.returned (iV ((k+5*x.binds.length+7*x.sess.length:Nat):Int))∧BbMk lo w' a b k x.binds.length x.sess.length∧OutOf lo hi w w':=by
 have GA:Hid (Below w.heap.size w (w.alloc (.cells (BbV a ca b cb x).toArray 39))):=(Below.refl _ _).alloc (Nat.le_refl _) _;have HM:Hid _:=markBindS_out lo hi x a b ca k (w.alloc (.cells (BbV a ca b cb x).toArray 39)) hk (by omega) (hs.kept GA.out);have HN:Hid (∀ W,MkOwn 5 bindM lo W a k x.binds.length→SlIn ssL 7 lo hi W b x.sess→Calls Tryz.prog 44 #[.slice b x.sess.length cb,iV ((k+5*x.binds.length:Nat):Int)] W fun e w'=>e=.returned (iV ((k+5*x.binds.length+7*x.sess.length:Nat):Int))∧MkOwn 5 bindM lo w' a k x.binds.length∧MkOwn 7 sessionM lo w' b (k+5*x.binds.length) x.sess.length∧OutOf lo hi W w'):=fun W h1 h2=>markSessionS_out lo hi x.sess a b cb (k+5*x.binds.length) k x.binds.length W (by omega) hL h1 h2 (fun g h e1 e2 n1 n2=>hs.ne g h e1 e2 (fun e=>n1 (by rw [e]; rfl)) n2)
 have H0:Hid _:=HoldsL.new w (BbV a ca b cb x) 39;have hh':Hid (hi≤w.heap.size):=hh;obtain ⟨k1,hk1⟩ : ∃ k1,k1=k+5*x.binds.length:=⟨_,rfl⟩;rw [← hk1] at HM HN hL ⊢;obtain ⟨k2,hk2⟩ : ∃ k2,k2=k1+7*x.sess.length:=⟨_,rfl⟩;rw [← hk2] at HN hL ⊢;have HK1:Hid (k1=k+5*x.binds.length):=hk1;clear hk1 hk2 hs hh;unfold bbC;go_enter Tryz.func18,Tryz.ntmps18
 go_wp2_with fail
 refine Calls.mono HM.out ?_;rintro e w1 ⟨rfl,m1,o1,q1⟩;have G1:Hid (OutOf lo hi w w1):=(OutOf.of_below GA.out).trans q1;have M1:Hid _:=m1;have O1:Hid _:=o1;have c1:w1.cell? ⟨w.heap.size,1,none⟩=some (.slice b x.sess.length cb):=(H0.out.outOf (by simp) q1 (.inr hh'.out)).cell rfl;clear m1 o1 q1;go_wp2_with fail
 refine (HN.out _ M1.out O1.out).mono ?_;rintro e w2 ⟨rfl,m2,o2,q2⟩;have G2:Hid (OutOf lo hi w w2):=G1.out.trans q2;have M2:Hid (BbMk lo w2 a b k x.binds.length x.sess.length):=⟨m2,by rw [← HK1.out]; exact o2⟩;clear m2 o2 q2;go_wp2_with fail
 go_ret;exact ⟨rfl,M2.out,G2.out⟩
section
variable {base lo hi B:Nat} {w W:World} {a b:Option Addr} {x:Bb}
theorem BbOwn.grownNe (h:BbOwn base w a b x) (hg:w.grownBy W (some B)) (hne:∀ g o,(x.binds≠[]∧a=some ⟨g,o,none⟩)∨(x.sess≠[]∧b=some ⟨g,o,none⟩)→g≠B):BbOwn base W a b x:=by
 refine ⟨?_,?_,h.ne⟩
 ·by_cases e:x.binds=[]
  ·exact .inl e
  ·rcases h.bd with h1 | ⟨g,rfl,h2,h3⟩
   ·exact .inl h1
   ·exact .inr ⟨g,rfl,h2,h3.grownNe hg (hne g 0 (.inl ⟨e,rfl⟩))⟩
 ·by_cases e:x.sess=[]
  ·exact .inl e
  ·rcases h.ss with h1 | ⟨g,rfl,h2,h3⟩
   ·exact .inl h1
   ·exact .inr ⟨g,rfl,h2,h3.grownNe hg (hne g 0 (.inr ⟨e,rfl⟩))⟩
theorem BbOwn.not_box {y:Option Addr} {n cap:Nat} {l:List Value} (h:BbOwn base w a b x) (hB:HoldsL w B (.slice y n cap::l)):∀ g o,(x.binds≠[]∧a=some ⟨g,o,none⟩)∨(x.sess≠[]∧b=some ⟨g,o,none⟩)→g≠B:=by
 intro g o hc hg;subst hg;have h2:=hB.cell (j:=0) rfl;rcases hc with ⟨h1,rfl⟩ | ⟨h1,rfl⟩
 ·rcases h.bd with h3 | ⟨g',e,_,h3⟩
  ·exact h1 h3
  ·cases e
   cases hx:x.binds with
   | nil=>exact h1 hx
   | cons q qs =>
    rw [hx] at h3;have:=h3.at 0 (by simp) 0 (iV q.proto) rfl;simp at this;rw [h2] at this;simp at this
 ·rcases h.ss with h3 | ⟨g',e,_,h3⟩
  ·exact h1 h3
  ·cases e
   cases hx:x.sess with
   | nil=>exact h1 hx
   | cons q qs =>
    rw [hx] at h3;have:=h3.at 0 (by simp) 0 (iV q.proto) rfl;simp at this;rw [h2] at this;simp at this
end
def IsZx (base:Nat) (zs:List Value):Value→World→Prop:=fun v w=>∃ g,v=.pointer (some ⟨g,0,none⟩)∧base≤g∧HoldsL w g zs
theorem stable_isZx (base:Nat) (zs:List Value) (h:0 < zs.length):Stable (IsZx base zs):=fun v w w' ⟨g,h1,h2,h3⟩ hb=>⟨g,h1,h2,h3.kept h hb⟩
theorem markBindS_but (lo hi:Nat) (x:Bb) (a b:Option Addr) (ca k:Nat) (w:World) (hk:0 < k) (hL:k+5*x.binds.length≤1073741824) (hs:BbIn lo hi w a b x) (X:Nat) (hX:X < w.heap.size) (hn:∀ g o',(x.binds≠[]∧a=some ⟨g,o',none⟩)∨(x.sess≠[]∧b=some ⟨g,o',none⟩)→g≠X) :
  Calls Tryz.prog 43 #[.slice a x.binds.length ca,iV k] w fun e w'=>e=.returned (iV ((k+5*x.binds.length:Nat):Int))∧MkOwn 5 bindM lo w' a k x.binds.length∧SlIn ssL 7 lo hi w' b x.sess∧OutOf lo hi w w'∧w'.heap[X]?=w.heap[X]?:=by
 obtain ⟨h1,h2,h3⟩:=hs;by_cases e1:x.binds=[]
 ·rw [e1];refine (markBindS_nil a ca k w (by omega)).mono ?_;rintro e w' ⟨rfl,rfl⟩;exact ⟨rfl,.inl rfl,h2,OutOf.of_below (Below.refl _ _),rfl⟩
 ·rcases h1 with e | ⟨g,rfl,hb,hh,hl⟩
  ·exact absurd e e1
  ·refine (markBindS_any g x.binds.length ca k w hk hL (hl.other _)).mono ?_;rintro e w' ⟨rfl,q1,q2⟩;refine ⟨rfl,.inr ⟨g,rfl,hb,q1⟩,?_,OutOf.of_grown q2 hb hh,q2.block X hX (by simp; exact fun e=>hn g 0 (.inl ⟨e1,rfl⟩) e.symm)⟩;by_cases e2:x.sess=[]
   ·exact .inl e2
   ·rcases h2 with e | ⟨h,rfl,hb2,hh2,hl2⟩
    ·exact absurd e e2
    ·exact .inr ⟨h,rfl,hb2,hh2,hl2.grownNe q2 (fun e=>h3 g h rfl rfl e1 e2 e.symm)⟩
theorem markSessionS_but (lo hi:Nat) (xs:List Ss) (a b:Option Addr) (cb k kb nb:Nat) (w:World) (hk:0 < k) (hL:k+7*xs.length≤1073741824) (hm:MkOwn 5 bindM lo w a kb nb) (hs:SlIn ssL 7 lo hi w b xs) (hne:∀ g h,a=some ⟨g,0,none⟩→b=some ⟨h,0,none⟩→nb≠0→xs≠[]→g≠h) (X:Nat) (hX:X < w.heap.size) (hn:∀ g o,xs≠[]∧b=some ⟨g,o,none⟩→g≠X) :
  Calls Tryz.prog 44 #[.slice b xs.length cb,iV k] w fun e w'=>e=.returned (iV ((k+7*xs.length:Nat):Int))∧MkOwn 5 bindM lo w' a kb nb∧MkOwn 7 sessionM lo w' b k xs.length∧OutOf lo hi w w'∧w'.heap[X]?=w.heap[X]?:=by
 by_cases e1:xs=[]
 ·rw [e1];refine (markSessionS_nil b cb k w (by omega)).mono ?_;rintro e w' ⟨rfl,rfl⟩;exact ⟨rfl,hm,.inl rfl,OutOf.of_below (Below.refl _ _),rfl⟩
 ·rcases hs with e | ⟨h,rfl,hb,hh,hl⟩
  ·exact absurd e e1
  ·refine (markSessionS_any h xs.length cb k w hk hL (hl.other _)).mono ?_;rintro e w' ⟨rfl,q1,q2⟩;refine ⟨rfl,?_,.inr ⟨h,rfl,hb,q1⟩,OutOf.of_grown q2 hb hh,q2.block X hX (by simp; exact fun e=>hn h 0 ⟨e1,rfl⟩ e.symm)⟩;by_cases e2:nb=0
   ·exact .inl e2
   ·rcases hm with e | ⟨g,rfl,hb2,hl2⟩
    ·exact absurd e e2
    ·exact .inr ⟨g,rfl,hb2,hl2.grownNe q2 (fun e=>hne g h rfl rfl e2 e1 e)⟩
theorem markBib_but (lo hi:Nat) (x:Bb) (a b:Option Addr) (ca cb k:Nat) (w:World) (hh:hi≤w.heap.size) (hk:0 < k) (hL:k+5*x.binds.length+7*x.sess.length≤1073741824) (hs:BbIn lo hi w a b x) (X:Nat) (hX:X < w.heap.size) (hn:∀ g o',(x.binds≠[]∧a=some ⟨g,o',none⟩)∨(x.sess≠[]∧b=some ⟨g,o',none⟩)→g≠X) :
  Calls Tryz.prog 18 #[bbC a b ca cb x,iV k] w fun e w'=>e=.returned (iV ((k+5*x.binds.length+7*x.sess.length:Nat):Int))∧BbMk lo w' a b k x.binds.length x.sess.length∧OutOf lo hi w w'∧w'.heap[X]?=w.heap[X]?:=by
 have GA:Hid (Below w.heap.size w (w.alloc (.cells (BbV a ca b cb x).toArray 39))):=(Below.refl _ _).alloc (Nat.le_refl _) _;have HX1:Hid (∀ W:World,w.heap.size≤W.heap.size→X < W.heap.size):=fun W hW=>by omega
 have HM:Hid _:=markBindS_but lo hi x a b ca k (w.alloc (.cells (BbV a ca b cb x).toArray 39)) hk (by omega) (hs.kept GA.out) X (by simp; omega) hn;have HN:Hid (∀ W,X < W.heap.size→MkOwn 5 bindM lo W a k x.binds.length→SlIn ssL 7 lo hi W b x.sess→Calls Tryz.prog 44 #[.slice b x.sess.length cb,iV ((k+5*x.binds.length:Nat):Int)] W fun e w'=>e=.returned (iV ((k+5*x.binds.length+7*x.sess.length:Nat):Int))∧MkOwn 5 bindM lo w' a k x.binds.length∧MkOwn 7 sessionM lo w' b (k+5*x.binds.length) x.sess.length∧OutOf lo hi W w'∧w'.heap[X]?=W.heap[X]?):=fun W h0 h1 h2=>markSessionS_but lo hi x.sess a b cb (k+5*x.binds.length) k x.binds.length W (by omega) hL h1 h2 (fun g h e1 e2 n1 n2=>hs.ne g h e1 e2 (fun e=>n1 (by rw [e]; rfl)) n2) X h0 (fun g o h=>hn g o (.inr h))
 have H0:Hid _:=HoldsL.new w (BbV a ca b cb x) 39;have hh':Hid (hi≤w.heap.size):=hh;obtain ⟨k1,hk1⟩ : ∃ k1,k1=k+5*x.binds.length:=⟨_,rfl⟩;rw [← hk1] at HM HN hL ⊢;obtain ⟨k2,hk2⟩ : ∃ k2,k2=k1+7*x.sess.length:=⟨_,rfl⟩;rw [← hk2] at HN hL ⊢;have HK1:Hid (k1=k+5*x.binds.length):=hk1;have HA0:Hid ((w.alloc (.cells (BbV a ca b cb x).toArray 39)).heap[X]?=w.heap[X]?):=GA.out.block X hX;clear hk1 hk2 hs hh hn hX;unfold bbC;go_enter Tryz.func18,Tryz.ntmps18
 go_wp2_with fail
 refine Calls.mono HM.out ?_;rintro e w1 ⟨rfl,m1,o1,q1,x1⟩;have G1:Hid (OutOf lo hi w w1):=(OutOf.of_below GA.out).trans q1;have X1:Hid (w1.heap[X]?=w.heap[X]?):=x1.trans HA0.out;have HL1:Hid (X < w1.heap.size):=HX1.out _ G1.out.size;have M1:Hid _:=m1;have O1:Hid _:=o1;have c1:w1.cell? ⟨w.heap.size,1,none⟩=some (.slice b x.sess.length cb):=(H0.out.outOf (by simp) q1 (.inr hh'.out)).cell rfl;clear m1 o1 q1 x1;go_wp2_with fail
 refine (HN.out _ HL1.out M1.out O1.out).mono ?_;rintro e w2 ⟨rfl,m2,o2,q2,x2⟩;have X2:Hid (w2.heap[X]?=w.heap[X]?):=x2.trans X1.out;have G2:Hid (OutOf lo hi w w2):=G1.out.trans q2;have M2:Hid (BbMk lo w2 a b k x.binds.length x.sess.length):=⟨m2,by rw [← HK1.out]; exact o2⟩;clear m2 o2 q2 x2;go_wp2_with fail
 go_ret;exact ⟨rfl,M2.out,G2.out,X2.out⟩
structure BoxTouch (w:World) (B:Nat) (p:Tc):Prop where
 c0:w.cell? ⟨B,0,none⟩=some (iV p.proto)
 c1:w.cell? ⟨B,1,none⟩=some (.bool p.inside)
 c2:w.cell? ⟨B,2,none⟩=some (.string p.addr)
 c3:w.cell? ⟨B,3,none⟩=some (iV p.port)
 c4:w.cell? ⟨B,4,none⟩=some (.string p.peer)
 c5:w.cell? ⟨B,5,none⟩=some (iV p.peerPort)
 c6:w.cell? ⟨B,6,none⟩=some (iV p.flags)
theorem BoxTouch.kept {w W:World} {B:Nat} {p:Tc} (h:BoxTouch w B p) (hB:Below w.heap.size w W):BoxTouch W B p:=by
 have hb:=World.block_lt_of_cell? w _ h.c0;exact ⟨((bcell hB).1 B 0 hb).trans h.c0,((bcell hB).1 B 1 hb).trans h.c1,((bcell hB).1 B 2 hb).trans h.c2,((bcell hB).1 B 3 hb).trans h.c3,((bcell hB).1 B 4 hb).trans h.c4,((bcell hB).1 B 5 hb).trans h.c5,((bcell hB).1 B 6 hb).trans h.c6⟩
theorem BoxTouch.new (w:World) (p:Tc) {t:TypeId}:BoxTouch (w.alloc (.cells (TcV p).toArray t)) w.heap.size p:=⟨cell_new rfl,cell_new rfl,cell_new rfl,cell_new rfl,cell_new rfl,cell_new rfl,cell_new rfl⟩
def P4Wf (p:P4):Prop:=In64t p.tos∧In64t p.id∧In64t p.off∧In64t p.ttl∧In64t p.proto∧p.src.size≤maxLen∧p.dst.size≤maxLen∧p.opts.size≤maxLen∧p.data.size≤maxLen
structure BoxV4 (w:World) (B:Nat) (p:P4):Prop where
 c0:w.cell? ⟨B,0,none⟩=some (iV p.tos)
 c1:w.cell? ⟨B,1,none⟩=some (iV p.id)
 c2:w.cell? ⟨B,2,none⟩=some (.bool p.whole)
 c3:w.cell? ⟨B,3,none⟩=some (.bool p.more)
 c4:w.cell? ⟨B,4,none⟩=some (iV p.off)
 c5:w.cell? ⟨B,5,none⟩=some (iV p.ttl)
 c6:w.cell? ⟨B,6,none⟩=some (iV p.proto)
 c7:w.cell? ⟨B,7,none⟩=some (.string p.src)
 c8:w.cell? ⟨B,8,none⟩=some (.string p.dst)
 c9:w.cell? ⟨B,9,none⟩=some (.string p.opts)
 c10:w.cell? ⟨B,10,none⟩=some (.string p.data)
theorem BoxV4.kept {w W:World} {B:Nat} {p:P4} (h:BoxV4 w B p) (hB:Below w.heap.size w W):BoxV4 W B p:=by
 have hb:=World.block_lt_of_cell? w _ h.c0;exact ⟨((bcell hB).1 B 0 hb).trans h.c0,((bcell hB).1 B 1 hb).trans h.c1,((bcell hB).1 B 2 hb).trans h.c2,((bcell hB).1 B 3 hb).trans h.c3,((bcell hB).1 B 4 hb).trans h.c4,((bcell hB).1 B 5 hb).trans h.c5,((bcell hB).1 B 6 hb).trans h.c6,((bcell hB).1 B 7 hb).trans h.c7,((bcell hB).1 B 8 hb).trans h.c8,((bcell hB).1 B 9 hb).trans h.c9,((bcell hB).1 B 10 hb).trans h.c10⟩
theorem BoxV4.new (w:World) (p:P4) {t:TypeId}:BoxV4 (w.alloc (.cells (P4V p).toArray t)) w.heap.size p:=⟨cell_new rfl,cell_new rfl,cell_new rfl,cell_new rfl,cell_new rfl,cell_new rfl,cell_new rfl,cell_new rfl,cell_new rfl,cell_new rfl,cell_new rfl⟩
section
variable {H:Type} {enc:TypeId × Value→H} {w:World} {base:Nat} {spare:Nat→Bool} {held:Bool}
theorem open_V4 {r:Reach} {b0:Nat} {v:Value} {d:DataW H} {p:List MemPlace} (hv:Value.okWide Tryz.prog w r b0 32 v) (h:DataW.Trod enc Tryz.prog w base spare held 32 v d p) :
  ∃ q:P4,v=p4C q∧P4Wf q:=by
 obtain ⟨cs,rfl,hsz⟩:=okWide_struct Tryz.underlying32 hv;obtain ⟨c0,c1,c2,c3,c4,c5,c6,c7,c8,c9,c10,rfl⟩:=arr11 (hsz.trans (show Tryz.prog.cellsOf 32=11 by kernel_rfl));obtain ⟨fuel,hf⟩:=h;obtain ⟨m0,y0,h0⟩:=flat_field Tryz.underlying32 hf 0 _ rfl rfl (show Tryz.prog.cellsOf 2=1 by kernel_rfl) c0 rfl;obtain ⟨x0,e0,_,g0⟩:=DataW.trod_int Tryz.underlying2 h0;obtain ⟨m1,y1,h1⟩:=flat_field Tryz.underlying32 hf 1 _ rfl rfl (show Tryz.prog.cellsOf 2=1 by kernel_rfl) c1 rfl;obtain ⟨x1,e1,_,g1⟩:=DataW.trod_int Tryz.underlying2 h1;obtain ⟨m2,y2,h2⟩:=flat_field Tryz.underlying32 hf 2 _ rfl rfl (show Tryz.prog.cellsOf 4=1 by kernel_rfl) c2 rfl;obtain ⟨x2,e2,_⟩:=DataW.trod_bool Tryz.underlying4 h2;obtain ⟨m3,y3,h3⟩:=flat_field Tryz.underlying32 hf 3 _ rfl rfl (show Tryz.prog.cellsOf 4=1 by kernel_rfl) c3 rfl;obtain ⟨x3,e3,_⟩:=DataW.trod_bool Tryz.underlying4 h3;obtain ⟨m4,y4,h4⟩:=flat_field Tryz.underlying32 hf 4 _ rfl rfl (show Tryz.prog.cellsOf 2=1 by kernel_rfl) c4 rfl;obtain ⟨x4,e4,_,g4⟩:=DataW.trod_int Tryz.underlying2 h4;obtain ⟨m5,y5,h5⟩:=flat_field Tryz.underlying32 hf 5 _ rfl rfl (show Tryz.prog.cellsOf 2=1 by kernel_rfl) c5 rfl;obtain ⟨x5,e5,_,g5⟩:=DataW.trod_int Tryz.underlying2 h5;obtain ⟨m6,y6,h6⟩:=flat_field Tryz.underlying32 hf 6 _ rfl rfl (show Tryz.prog.cellsOf 2=1 by kernel_rfl) c6 rfl;obtain ⟨x6,e6,_,g6⟩:=DataW.trod_int Tryz.underlying2 h6;obtain ⟨m7,y7,h7⟩:=flat_field Tryz.underlying32 hf 7 _ rfl rfl (show Tryz.prog.cellsOf 9=1 by kernel_rfl) c7 rfl;obtain ⟨x7,e7,_,g7⟩:=DataW.trod_string Tryz.underlying9 h7;obtain ⟨m8,y8,h8⟩:=flat_field Tryz.underlying32 hf 8 _ rfl rfl (show Tryz.prog.cellsOf 9=1 by kernel_rfl) c8 rfl;obtain ⟨x8,e8,_,g8⟩:=DataW.trod_string Tryz.underlying9 h8;obtain ⟨m9,y9,h9⟩:=flat_field Tryz.underlying32 hf 9 _ rfl rfl (show Tryz.prog.cellsOf 9=1 by kernel_rfl) c9 rfl;obtain ⟨x9,e9,_,g9⟩:=DataW.trod_string Tryz.underlying9 h9;obtain ⟨m10,y10,h10⟩:=flat_field Tryz.underlying32 hf 10 _ rfl rfl (show Tryz.prog.cellsOf 9=1 by kernel_rfl) c10 rfl;obtain ⟨x10,e10,_,g10⟩:=DataW.trod_string Tryz.underlying9 h10;simp only [List.cons.injEq,and_true] at e0 e1 e2 e3 e4 e5 e6 e7 e8 e9 e10;subst e0 e1 e2 e3 e4 e5 e6 e7 e8 e9 e10;exact ⟨⟨x0,x1,x2,x3,x4,x5,x6,x7,x8,x9,x10⟩,rfl,wf64s g0,wf64s g1,wf64s g4,wf64s g5,wf64s g6,g7,g8,g9,g10⟩
end
theorem toV4_any (p:P4) (w:World) :
  Cb 12 #[p4C p] w (p4C p):=by
 obtain ⟨tos,id,whole,more,off,ttl,proto,src,dst,opts,data⟩:=p;unfold p4C;dsimp only;go_enter Tryz.func12,Tryz.ntmps12
 go_wp2_with fail
 refine bodyPost_ret (v:=.agg (P4R tos id whole more off ttl proto src dst opts data).toArray) (by simp [results,Tryz.results12,go_sem]) rfl ⟨rfl,?_⟩;exact (((Below.refl _ _).alloc (Nat.le_refl _) _).alloc (by simp) _).alloc (by simp; omega) _
theorem eqV4_same (p:P4) (w:World) :
  Cb 36 #[p4C p,p4C p] w (.bool true):=by
 obtain ⟨tos,id,whole,more,off,ttl,proto,src,dst,opts,data⟩:=p;unfold p4C;dsimp only;have HZ:Hid (Below w.heap.size w ((aW w (P4R tos id whole more off ttl proto src dst opts data) 40).alloc (.cells (P4R tos id whole more off ttl proto src dst opts data).toArray 40))):=((Below.refl _ _).alloc (Nat.le_refl _) _).alloc (by simp) _;go_enter Tryz.func36,Tryz.ntmps36
 go_wp2_with fail
 go_ret;exact ⟨rfl,HZ.out⟩
end Go.Proofs.YtcckaeppiamebaaGreatDoor
namespace Go.Proofs.YtcckaeppiamebaaGreatDoor
open Go.RowKit Go.PlainAid
def v4AN (p:P4):List Nat:=[p.src.size,p.dst.size,p.opts.size,p.data.size]
theorem v4N_in {p:P4} {left:Int} (h1:left≤1048576) (h:0≤szN (v4AN p) left):p.src.size≤1048576∧p.dst.size≤1048576∧p.opts.size≤1048576∧p.data.size≤1048576:=by
 have hb:=szN_bound _ _ h;exact ⟨by have:=hb p.src.size (by simp [v4AN]); omega,by have:=hb p.dst.size (by simp [v4AN]); omega,by have:=hb p.opts.size (by simp [v4AN]); omega,by have:=hb p.data.size (by simp [v4AN]); omega⟩
theorem szV4A_at (p:P4) (left:Int) (w:World) (hw:P4Wf p) (h0:0≤left) (h1:left≤1048576) :
  Cb 8 #[p4C p,iV left] w (iV (szN (v4AN p) left)):=by
 have HV0:Hid (szN (v4AN p) left=szN [p.src.size,p.dst.size,p.opts.size,p.data.size] left):=rfl;obtain ⟨q_tos,q_id,q_off,q_ttl,q_proto,q_src,q_dst,q_opts,q_data⟩:=hw;generalize szN (v4AN p) left=ans at *;obtain ⟨tos,id,whole,more,off,ttl,proto,src,dst,opts,data⟩:=p;unfold p4C;dsimp only at *;unfold maxLen at *;clear q_tos q_id q_off q_ttl q_proto;have HZ:Hid (Below w.heap.size w (w.alloc (.cells (P4R tos id whole more off ttl proto src dst opts data).toArray 32))):=(Below.refl _ _).alloc (Nat.le_refl _) _;by_cases l0:left < (src.size:Int)
 ·have HV:Hid (ans=-1):=by unfold Hid; rw [HV0.out,szN_yes l0]
  clear HV0;go_enter Tryz.func8,Tryz.ntmps8
  go_wp2_with fail
  go_ret;exact ⟨ret_int HV.out.symm,HZ.out⟩
 ·skip
  by_cases l1:left-src.size < (dst.size:Int)
  ·have HV:Hid (ans=-1):=by unfold Hid; rw [HV0.out,szN_no l0,szN_yes l1]
   clear HV0;go_enter Tryz.func8,Tryz.ntmps8
   go_wp2_with fail
   go_ret;exact ⟨ret_int HV.out.symm,HZ.out⟩
  ·skip
   by_cases l2:left-src.size-dst.size < (opts.size:Int)
   ·have HV:Hid (ans=-1):=by unfold Hid; rw [HV0.out,szN_no l0,szN_no l1,szN_yes l2]
    clear HV0;go_enter Tryz.func8,Tryz.ntmps8
    go_wp2_with fail
    go_ret;exact ⟨ret_int HV.out.symm,HZ.out⟩
   ·skip
    by_cases l3:left-src.size-dst.size-opts.size < (data.size:Int)
    ·have HV:Hid (ans=-1):=by unfold Hid; rw [HV0.out,szN_no l0,szN_no l1,szN_no l2,szN_yes l3]
     clear HV0;go_enter Tryz.func8,Tryz.ntmps8
     go_wp2_with fail
     go_ret;exact ⟨ret_int HV.out.symm,HZ.out⟩
    ·have HV:Hid (ans=left-src.size-dst.size-opts.size-data.size):=by unfold Hid; rw [HV0.out,szN_no l0,szN_no l1,szN_no l2,szN_no l3]; rfl
     clear HV0;go_enter Tryz.func8,Tryz.ntmps8
     go_wp2_with fail
     go_ret;exact ⟨ret_int HV.out.symm,HZ.out⟩
theorem any_take {α:Type} (f:α→Bool) (xs:List α) (i:Nat) (h:i < xs.length):(xs.take (i+1)).any f=((xs.take i).any f||f xs[i]):=by
 rw [List.take_succ_eq_append_getElem h,List.any_append]; simp
theorem any_at {α:Type} (f:α→Bool) (xs:List α) (i:Nat) (h:i < xs.length) (hf:f xs[i]=true):xs.any f=true:=List.any_eq_true.2 ⟨_,List.getElem_mem h,hf⟩
theorem findI_at {α:Type} (f:α→Bool) (xs:List α) (i:Nat) (h:i < xs.length) (hn:(xs.take i).any f=false) (hf:f xs[i]=true):findI f xs=i:=by
 have:xs.findIdx? f=some i:=by
  rw [List.findIdx?_eq_some_iff_getElem];refine ⟨h,hf,fun j hj=>?_⟩;have hjl:j < xs.length:=Nat.lt_trans hj h;have:=List.any_eq_false.1 hn (xs[j]) (by rw [List.mem_take_iff_getElem]; exact ⟨j,by omega,rfl⟩);simpa using this
 unfold findI; rw [this]
theorem findI_no {α:Type} (f:α→Bool) (xs:List α) (hn:xs.any f=false):findI f xs=-1:=by
 have:xs.findIdx? f=none:=by
  rw [List.findIdx?_eq_none_iff];intro x hx;have:=List.any_eq_false.1 hn x hx;simpa using this
 unfold findI; rw [this]
theorem spBProto_any (proto:Int) (w:World) :
  Cw 120 #[iV proto] w (.bool (protoB proto)):=by
 have hun:undef=Value.tuple #[]:=rfl;by_cases h0:proto=6
 ·subst h0;go_enter Tryz.func120,Tryz.ntmps120
  go_wp2_with fail
  go_ret;exact ⟨rfl,rfl⟩
 ·by_cases h1:proto=17
  ·subst h1;go_enter Tryz.func120,Tryz.ntmps120
   go_wp2_with fail
   go_ret;exact ⟨rfl,rfl⟩
  ·by_cases h2:proto=1
   ·subst h2;go_enter Tryz.func120,Tryz.ntmps120
    go_wp2_with fail
    go_ret;exact ⟨rfl,rfl⟩
   ·have HV:Hid (protoB proto=false):=by unfold Hid protoB; simp [h0,h1,h2]
    go_enter Tryz.func120,Tryz.ntmps120
    go_wp2_with fail
    go_ret;exact ⟨ret_bool (by rw [HV.out]; simp [h0,h1,h2]),rfl⟩
theorem spIn_any (xs:List ByteArray) (s:ByteArray) (a:Option Addr) (cap:Nat) (w:World) (hlen:xs.length≤1048576) (hr:SlIs strL1 1 w a xs) :
  Cb 69 #[.slice a xs.length cap,.string s] w (.bool (inL xs s)):=by
 have HR:Hid (SlIs strL1 1 w a xs):=hr;have HV:Hid (inL xs s=xs.any fun t=>decide (t.toList=s.toList)):=rfl;generalize inL xs s=ans at *;clear hr;go_enter Tryz.func69,Tryz.ntmps69
 go_wp2_with fail
 go_loopw [5] (fun iv wr=>∃ i:Nat,i≤xs.length∧iv=iV i∧(xs.take i).any (fun t=>decide (t.toList=s.toList))=false∧Below w.heap.size w wr) (fun iv _=>xs.length-(intOf iv).toNat)
 case atStart=>exact ⟨0,Nat.zero_le _,rfl,rfl,Below.refl _ _⟩
 case round =>
  obtain ⟨i,hi,rfl,hn,hbel⟩:=hrel;have HN:Hid ((xs.take i).any (fun t=>decide (t.toList=s.toList))=false):=hn;have HL:Hid (Below w.heap.size w wr):=hbel;clear hn hbel;by_cases hlt:i < xs.length
  ·obtain ⟨b,off,rfl,hb,hat⟩:=HR.out.at hlt;have hA:=(hat.below hb HL.out) i hlt;have HST:Hid _:=any_take (fun t:ByteArray=>decide (t.toList=s.toList)) xs i hlt;have HAT:Hid _:=any_at (fun t:ByteArray=>decide (t.toList=s.toList)) xs i hlt;obtain ⟨t,ht⟩ : ∃ t,xs[i]=t:=⟨_,rfl⟩;rw [ht] at hA HST HAT;have c0:wr.cell? ⟨b,off+i,none⟩=some (.string t):=by have:=hA 0 _ rfl; simpa using this
   have c0':wr.cell? ⟨b,off+i*1,none⟩=some (.string t):=by simpa using c0
   clear hA hat ht;by_cases he:t.toList=s.toList
   ·have HX:Hid (ans=true):=by unfold Hid; rw [HV.out]; exact HAT.out (decide_eq_true he)
    have hbq:(t.toList==s.toList)=true:=by simp [he]
    clear he;go_wp2_with fail
    go_ret;exact ⟨ret_bool HX.out.symm,HL.out⟩
   ·have HN2:Hid ((xs.take (i+1)).any (fun t=>decide (t.toList=s.toList))=false):=by unfold Hid; rw [HST.out,HN.out,decide_eq_false he]; rfl
    have hbq:(t.toList==s.toList)=false:=by simp [he]
    clear he;go_wp2_with fail
    go_roundw
    case rel=>exact ⟨i+1,by omega,by go_num,HN2.out,HL.out⟩
    case measure=>simp [intOf]; omega
  ·have hie:i=xs.length:=by omega
   have HX:Hid (ans=false):=by unfold Hid; have:=HN.out; rw [hie,List.take_length] at this; rw [HV.out]; exact this
   go_wp2_with fail
   go_ret;exact ⟨ret_bool HX.out.symm,HL.out⟩
theorem spBind_any (xs:List Bd) (proto:Int) (s:ByteArray) (port:Int) (a:Option Addr) (cap:Nat) (sv:Value) (w:World) (hlen:xs.length≤1048576) (hr:SlIs bdL 5 w a xs) :
  Cb 122 #[.agg #[.slice a xs.length cap,sv],iV proto,.string s,iV port] w (iV (findI (ofIn proto s port) xs)):=by
 have HB0:Hid (HoldsL (w.alloc (.cells [.slice a xs.length cap,sv].toArray 39)) w.heap.size [.slice a xs.length cap,sv]):=HoldsL.new w _ _;have HZ:Hid (Below w.heap.size w (w.alloc (.cells [.slice a xs.length cap,sv].toArray 39))):=(Below.refl _ _).alloc (Nat.le_refl _) _;have HR:Hid (SlIs bdL 5 (w.alloc (.cells [.slice a xs.length cap,sv].toArray 39)) a xs):=hr.below HZ.out;rw [show [.slice a xs.length cap,sv].toArray=#[.slice a xs.length cap,sv] from rfl] at HB0 HZ HR;obtain ⟨f,hf⟩ : ∃ f,f=ofIn proto s port:=⟨_,rfl⟩;rw [← hf];have HF:Hid (∀ q,f q=(decide (q.proto=proto)&&decide (q.inn.toList=s.toList)&&decide (q.inPort=port))):=fun q=>by rw [hf]; rfl
 clear hr hf;go_enter Tryz.func122,Tryz.ntmps122
 go_wp2_with fail
 generalize w.alloc (.cells #[.slice a xs.length cap,sv] 39)=W0 at *;have hX0:w.heap.size < W0.heap.size:=HB0.out.lt (by simp);generalize hX:w.heap.size=X at *;go_loopw [9] (fun iv wr=>∃ i:Nat,i≤xs.length∧iv=iV i∧(xs.take i).any f=false∧Below W0.heap.size W0 wr) (fun iv _=>xs.length-(intOf iv).toNat)
 case atStart=>exact ⟨0,Nat.zero_le _,rfl,rfl,Below.refl _ _⟩
 case round =>
  obtain ⟨i,hi,rfl,hn,hbel⟩:=hrel;have HN:Hid ((xs.take i).any f=false):=hn;have HL:Hid (Below W0.heap.size W0 wr):=hbel;have HW:Hid _:=HZ.out.trans (hbel.mono (by omega));have x0:wr.cell? ⟨X,0,none⟩=some (.slice a xs.length cap):=(HB0.out.kept (by simp) hbel).cell rfl;clear hn hbel;by_cases hlt:i < xs.length
  ·obtain ⟨b,off,rfl,hb,hat⟩:=HR.out.at hlt;have hA:=(hat.below hb HL.out) i hlt;have HST:Hid _:=any_take f xs i hlt;have HAT:Hid _:=findI_at f xs i hlt HN.out;obtain ⟨q,hq⟩ : ∃ q,xs[i]=q:=⟨_,rfl⟩;rw [hq] at hA HST HAT;have hfq:=HF.out q;have c0:wr.cell? ⟨b,off+i*5,none⟩=some (iV q.proto):=hA 0 _ rfl;have c1:wr.cell? ⟨b,off+i*5+1,none⟩=some (.string q.inn):=hA 1 _ rfl;have c2:wr.cell? ⟨b,off+i*5+2,none⟩=some (iV q.inPort):=hA 2 _ rfl;have c3:wr.cell? ⟨b,off+i*5+3,none⟩=some (.string q.out):=hA 3 _ rfl;have c4:wr.cell? ⟨b,off+i*5+4,none⟩=some (iV q.outPort):=hA 4 _ rfl;have HFQ:Hid _:=hfq;have L8:Hid (Below W0.heap.size W0 (wr.alloc (.cells (BdV q).toArray 94))):=HL.out.alloc HL.out.size _;have W8:Hid (Below X w (wr.alloc (.cells (BdV q).toArray 94))):=HW.out.alloc (by have:=HL.out.size; omega) _;have K8:Hid (BoxBind (wr.alloc (.cells (BdV q).toArray 94)) wr.heap.size q):=BoxBind.new wr q;clear hA hat hq hfq;go_upto_region 5 with fail
   clear c0 c1 c2 c3 c4 x0 HL HW;generalize wr.alloc (.cells (BdV q).toArray 94)=V8 at *;generalize wr.heap.size=Y at *;obtain ⟨k0,k1,k2,k3,k4⟩:=K8.out;go_cut [38] (fun v wx=>v=.bool (f q)∧wx=V8)
   case first =>
    by_cases d0:q.proto=proto
    ·by_cases d1:q.inn.toList=s.toList
     ·by_cases d2:q.inPort=port
      ·have HG:Hid (f q=true):=by unfold Hid; rw [HFQ.out,decide_eq_true d0,decide_eq_true d1,decide_eq_true d2]; rfl
       go_wp2_with fail
       go_meet;rw [HG.out];first | exact ⟨rfl,rfl⟩ | simp [d2]
      ·have HG:Hid (f q=false):=by unfold Hid; rw [HFQ.out,decide_eq_true d0,decide_eq_true d1,decide_eq_false d2]; rfl
       go_wp2_with fail
       go_meet;rw [HG.out];first | exact ⟨rfl,rfl⟩ | simp [d2]
     ·have HG:Hid (f q=false):=by unfold Hid; rw [HFQ.out,decide_eq_false d1]; simp
      go_wp2_with fail
      go_meet;rw [HG.out];first | exact ⟨rfl,rfl⟩ | simp [d1]
    ·have HG:Hid (f q=false):=by unfold Hid; rw [HFQ.out,decide_eq_false d0]; simp
     go_wp2_with fail
     go_meet;rw [HG.out];first | exact ⟨rfl,rfl⟩ | simp [d0]
   case rest =>
   obtain ⟨rfl,rfl⟩:=hcut;clear k0 k1 k2 k3 k4
   cases hfq:f q with
   | true =>
    have HX:Hid (findI f xs=(i:Int)):=HAT.out hfq;go_wp2_with fail
    go_ret;exact ⟨ret_int HX.out.symm,by rw [hX]; exact W8.out⟩
   | false =>
    have HN2:Hid ((xs.take (i+1)).any f=false):=by unfold Hid; rw [HST.out,HN.out,hfq]; rfl
    go_wp2_with fail
    go_roundw
    case rel=>exact ⟨i+1,by omega,by go_num,HN2.out,L8.out⟩
    case measure=>simp [intOf]; omega
  ·have hie:i=xs.length:=by omega
   have HX:Hid (findI f xs=-1):=by unfold Hid; have:=HN.out; rw [hie,List.take_length] at this; exact findI_no f xs this
   go_wp2_with fail
   go_ret;exact ⟨ret_int HX.out.symm,by rw [hX]; exact HW.out⟩
theorem spAt_any (xs:List Bd) (proto:Int) (s:ByteArray) (port:Int) (a:Option Addr) (cap:Nat) (sv:Value) (w:World) (hlen:xs.length≤1048576) (hr:SlIs bdL 5 w a xs) :
  Cb 123 #[.agg #[.slice a xs.length cap,sv],iV proto,.string s,iV port] w (iV (findI (ofOut proto s port) xs)):=by
 have HB0:Hid (HoldsL (w.alloc (.cells [.slice a xs.length cap,sv].toArray 39)) w.heap.size [.slice a xs.length cap,sv]):=HoldsL.new w _ _;have HZ:Hid (Below w.heap.size w (w.alloc (.cells [.slice a xs.length cap,sv].toArray 39))):=(Below.refl _ _).alloc (Nat.le_refl _) _;have HR:Hid (SlIs bdL 5 (w.alloc (.cells [.slice a xs.length cap,sv].toArray 39)) a xs):=hr.below HZ.out;rw [show [.slice a xs.length cap,sv].toArray=#[.slice a xs.length cap,sv] from rfl] at HB0 HZ HR;obtain ⟨f,hf⟩ : ∃ f,f=ofOut proto s port:=⟨_,rfl⟩;rw [← hf];have HF:Hid (∀ q,f q=(decide (q.proto=proto)&&decide (q.out.toList=s.toList)&&decide (q.outPort=port))):=fun q=>by rw [hf]; rfl
 clear hr hf;go_enter Tryz.func123,Tryz.ntmps123
 go_wp2_with fail
 generalize w.alloc (.cells #[.slice a xs.length cap,sv] 39)=W0 at *;have hX0:w.heap.size < W0.heap.size:=HB0.out.lt (by simp);generalize hX:w.heap.size=X at *;go_loopw [9] (fun iv wr=>∃ i:Nat,i≤xs.length∧iv=iV i∧(xs.take i).any f=false∧Below W0.heap.size W0 wr) (fun iv _=>xs.length-(intOf iv).toNat)
 case atStart=>exact ⟨0,Nat.zero_le _,rfl,rfl,Below.refl _ _⟩
 case round =>
  obtain ⟨i,hi,rfl,hn,hbel⟩:=hrel;have HN:Hid ((xs.take i).any f=false):=hn;have HL:Hid (Below W0.heap.size W0 wr):=hbel;have HW:Hid _:=HZ.out.trans (hbel.mono (by omega));have x0:wr.cell? ⟨X,0,none⟩=some (.slice a xs.length cap):=(HB0.out.kept (by simp) hbel).cell rfl;clear hn hbel;by_cases hlt:i < xs.length
  ·obtain ⟨b,off,rfl,hb,hat⟩:=HR.out.at hlt;have hA:=(hat.below hb HL.out) i hlt;have HST:Hid _:=any_take f xs i hlt;have HAT:Hid _:=findI_at f xs i hlt HN.out;obtain ⟨q,hq⟩ : ∃ q,xs[i]=q:=⟨_,rfl⟩;rw [hq] at hA HST HAT;have hfq:=HF.out q;have c0:wr.cell? ⟨b,off+i*5,none⟩=some (iV q.proto):=hA 0 _ rfl;have c1:wr.cell? ⟨b,off+i*5+1,none⟩=some (.string q.inn):=hA 1 _ rfl;have c2:wr.cell? ⟨b,off+i*5+2,none⟩=some (iV q.inPort):=hA 2 _ rfl;have c3:wr.cell? ⟨b,off+i*5+3,none⟩=some (.string q.out):=hA 3 _ rfl;have c4:wr.cell? ⟨b,off+i*5+4,none⟩=some (iV q.outPort):=hA 4 _ rfl;have HFQ:Hid _:=hfq;have L8:Hid (Below W0.heap.size W0 (wr.alloc (.cells (BdV q).toArray 94))):=HL.out.alloc HL.out.size _;have W8:Hid (Below X w (wr.alloc (.cells (BdV q).toArray 94))):=HW.out.alloc (by have:=HL.out.size; omega) _;have K8:Hid (BoxBind (wr.alloc (.cells (BdV q).toArray 94)) wr.heap.size q):=BoxBind.new wr q;clear hA hat hq hfq;go_upto_region 5 with fail
   clear c0 c1 c2 c3 c4 x0 HL HW;generalize wr.alloc (.cells (BdV q).toArray 94)=V8 at *;generalize wr.heap.size=Y at *;obtain ⟨k0,k1,k2,k3,k4⟩:=K8.out;go_cut [38] (fun v wx=>v=.bool (f q)∧wx=V8)
   case first =>
    by_cases d0:q.proto=proto
    ·by_cases d1:q.out.toList=s.toList
     ·by_cases d2:q.outPort=port
      ·have HG:Hid (f q=true):=by unfold Hid; rw [HFQ.out,decide_eq_true d0,decide_eq_true d1,decide_eq_true d2]; rfl
       go_wp2_with fail
       go_meet;rw [HG.out];first | exact ⟨rfl,rfl⟩ | simp [d2]
      ·have HG:Hid (f q=false):=by unfold Hid; rw [HFQ.out,decide_eq_true d0,decide_eq_true d1,decide_eq_false d2]; rfl
       go_wp2_with fail
       go_meet;rw [HG.out];first | exact ⟨rfl,rfl⟩ | simp [d2]
     ·have HG:Hid (f q=false):=by unfold Hid; rw [HFQ.out,decide_eq_false d1]; simp
      go_wp2_with fail
      go_meet;rw [HG.out];first | exact ⟨rfl,rfl⟩ | simp [d1]
    ·have HG:Hid (f q=false):=by unfold Hid; rw [HFQ.out,decide_eq_false d0]; simp
     go_wp2_with fail
     go_meet;rw [HG.out];first | exact ⟨rfl,rfl⟩ | simp [d0]
   case rest =>
   obtain ⟨rfl,rfl⟩:=hcut;clear k0 k1 k2 k3 k4
   cases hfq:f q with
   | true =>
    have HX:Hid (findI f xs=(i:Int)):=HAT.out hfq;go_wp2_with fail
    go_ret;exact ⟨ret_int HX.out.symm,by rw [hX]; exact W8.out⟩
   | false =>
    have HN2:Hid ((xs.take (i+1)).any f=false):=by unfold Hid; rw [HST.out,HN.out,hfq]; rfl
    go_wp2_with fail
    go_roundw
    case rel=>exact ⟨i+1,by omega,by go_num,HN2.out,L8.out⟩
    case measure=>simp [intOf]; omega
  ·have hie:i=xs.length:=by omega
   have HX:Hid (findI f xs=-1):=by unfold Hid; have:=HN.out; rw [hie,List.take_length] at this; exact findI_no f xs this
   go_wp2_with fail
   go_ret;exact ⟨ret_int HX.out.symm,by rw [hX]; exact HW.out⟩
def bdZ:Bd:=⟨0,⟨#[]⟩,0,⟨#[]⟩,0⟩
theorem findBd_at (f:Bd→Bool) (xs:List Bd) (h:¬ findI f xs < 0):∃ i:Nat,∃ hi:i < xs.length,findI f xs=i∧xs.find? f=some xs[i]:=by
 unfold findI at *
 cases hf:xs.findIdx? f with
 | none=>rw [hf] at h; exact absurd (by decide) h
 | some i =>
  obtain ⟨hi,hfi,hn⟩:=List.findIdx?_eq_some_iff_getElem.1 hf;exact ⟨i,hi,rfl,List.find?_eq_some_iff_getElem.2 ⟨hfi,i,hi,rfl,fun j hj=>by simpa using hn j hj⟩⟩
theorem find_no (f:Bd→Bool) (xs:List Bd) (h:findI f xs < 0):xs.find? f=none:=by
 unfold findI at h
 cases hf:xs.findIdx? f with
 | none=>exact List.find?_eq_none.2 (fun x hx=>by have:=List.findIdx?_eq_none_iff.1 hf x hx; simp [this])
 | some i=>rw [hf] at h; simp only at h; omega
theorem spHas_any (p:Bd) (q:Ss) (w:World) :
  Cb 78 #[bdC p,ssC q] w (.bool (hasS p q)):=by
 have HV:Hid (hasS p q=(decide (p.proto=q.proto)&&decide (p.inn.toList=q.inn.toList)&&decide (p.inPort=q.inPort))):=rfl;generalize hasS p q=ans at *;obtain ⟨proto,inn,inPort,out,outPort⟩:=p;obtain ⟨proto',inn',inPort',peer',peerPort',state',untl'⟩:=q;unfold bdC ssC;dsimp only at *;have HZ:Hid (∀ o1 o2,Below w.heap.size w ((w.alloc o1).alloc o2)):=fun o1 o2=>((Below.refl _ _).alloc (Nat.le_refl _) _).alloc (by simp) _
 go_enter Tryz.func78,Tryz.ntmps78
 go_wp2_with fail
 all_goals go_ret
 all_goals exact ⟨ret_bool (by rw [HV.out]; simp_all; try rfl),HZ.out _ _⟩
end Go.Proofs.YtcckaeppiamebaaGreatDoor
namespace Go.Proofs.YtcckaeppiamebaaGreatDoor
open Go.RowKit
def ofHost (inn:ByteArray) (c:Bd):Bool:=decide (c.inn.toList=inn.toList)
def outD (p:Pl) (inn:ByteArray):ByteArray:=(p.addrs[(sumV inn).toNat % p.addrs.length]?).getD ⟨#[]⟩
def outIn (xs:List Bd) (d inn:ByteArray):ByteArray:=match xs.find? (ofHost inn) with | some c=>c.out | none=>d
def freeP (xs:List Bd) (proto:Int) (out:ByteArray) (n:Int):Bool:=decide (findI (ofOut proto out n) xs < 0)
def leastN (f:Int→Bool):Int→Nat→Option Int
 | _,0=>none
 | lo,c+1=>if f lo=true then some lo else leastN f (lo+1) c
def lendN (p:Pl) (xs:List Bd) (proto:Int) (out:ByteArray) (port:Int):Option Int :=
 if (isIn port p.low p.high&&freeP xs proto out port)=true then some port
 else match leastN (fun n=>decide (n % 2=port % 2)&&freeP xs proto out n) p.low (p.high-p.low+1).toNat with
  | some n=>some n
  | none=>leastN (freeP xs proto out) p.low (p.high-p.low+1).toNat
def lendV (p:Pl) (xs:List Bd) (proto:Int) (inn:ByteArray) (port:Int):Bd × Int :=
 match xs.find? (ofIn proto inn port) with
 | some c=>(c,0)
 | none=>match lendN p xs proto (outIn xs (outD p inn) inn) port with
  | some n=>(⟨proto,inn,port,outIn xs (outD p inn) inn,n⟩,0)
  | none=>(bdZ,9)
theorem leastN_step {f:Int→Bool} {n hi:Int} (h:n≤hi):leastN f n (hi-n+1).toNat=if f n=true then some n else leastN f (n+1) (hi-(n+1)+1).toNat:=by
 obtain ⟨c,hc⟩ : ∃ c:Nat,(hi-n+1).toNat=c+1:=⟨(hi-n).toNat,by omega⟩;rw [hc];show (if f n=true then some n else leastN f (n+1) c)=_;rw [show (hi-(n+1)+1).toNat=c by omega]
theorem leastN_end {f:Int→Bool} {n hi:Int} (h:hi < n):leastN f n (hi-n+1).toNat=none:=by
 rw [show (hi-n+1).toNat=0 by omega]; rfl
theorem outIn_step {xs:List Bd} {d inn:ByteArray} {i:Nat} (h:i < xs.length):outIn (xs.drop i) d inn=if ofHost inn xs[i]=true then xs[i].out else outIn (xs.drop (i+1)) d inn:=by
 unfold outIn;rw [List.drop_eq_getElem_cons h,List.find?_cons]
 cases hb:ofHost inn xs[i]<;>simp
end Go.Proofs.YtcckaeppiamebaaGreatDoor
