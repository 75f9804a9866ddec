import Derived.Test.YtcckaeppiamebaaGreatDoorAb
import Derived.Test.YtcckaeppiamebaaGreatDoorMerged3
import Derived.Test.YtcckaeppiamebaaGreatDoorMerged6
import Derived.Test.YtcckaeppiamebaaGreatDoorLawSessionS
import Derived.Test.YtcckaeppiamebaaGreatDoorHoldL
import Derived.Test.YtcckaeppiamebaaGreatDoorMerged4
import Derived.Test.YtcckaeppiamebaaGreatDoorMerged5
set_option linter.unusedVariables false
set_option linter.unusedSimpArgs false
set_option maxRecDepth 100000
set_option maxHeartbeats 8000000
namespace Go.Proofs.YtcckaeppiamebaaGreatDoor
open Go.RowKit Go.PlainAid Go.ChangeShapes Go.WideShapes
def BbWf (x:Bb):Prop:=BdsWf x.binds∧SssWf x.sess
structure BbIs (w:World) (a b:Option Addr) (x:Bb):Prop where
 bd:SlIs bdL 5 w a x.binds
 ss:SlIs ssL 7 w b x.sess
theorem BbIs.below {w W:World} {a b:Option Addr} {x:Bb} (h:BbIs w a b x) (hB:Below w.heap.size w W):BbIs W a b x:=⟨h.bd.below hB,h.ss.below hB⟩
structure BbOwn (base:Nat) (w:World) (a b:Option Addr) (x:Bb):Prop where
 bd:SlOwn bdL 5 base w a x.binds
 ss:SlOwn ssL 7 base w b x.sess
 ne:∀ g h,a=some ⟨g,0,none⟩→b=some ⟨h,0,none⟩→x.binds≠[]→x.sess≠[]→g≠h
theorem BbOwn.is {base:Nat} {w:World} {a b:Option Addr} {x:Bb} (h:BbOwn base w a b x):BbIs w a b x:=⟨h.bd.is,h.ss.is⟩
theorem BbOwn.kept {base:Nat} {w W:World} {a b:Option Addr} {x:Bb} (h:BbOwn base w a b x) (hB:Below w.heap.size w W):BbOwn base W a b x:=⟨h.bd.kept hB,h.ss.kept hB,h.ne⟩
def BbRet (base:Nat) (x:Bb) (e:Ending) (w:World):Prop:=∃ a b ca cb,e=.returned (bbC a b ca cb x)∧BbOwn base w a b x
def szBb (x:Bb) (left:Int):Int:=if szSl bindN x.binds left < 0 then -1 else szSl sessionN x.sess (szSl bindN x.binds left)
section
variable {H:Type} {enc:TypeId × Value→H} {w:World} {base:Nat} {spare:Nat→Bool} {held:Bool}
theorem open_Bib {r:Reach} {b0:Nat} {v:Value} {d:DataW H} {p:List MemPlace} (hv:Value.okWide Tryz.prog w r b0 30 v) (h:DataW.Trod enc Tryz.prog w base spare held 30 v d p) :
  ∃ (a b:Option Addr) (ca cb:Nat) (x:Bb),v=bbC a b ca cb x∧BbWf x∧BbIs w a b x:=by
 obtain ⟨cs,rfl,hsz⟩:=okWide_struct Tryz.underlying30 hv;obtain ⟨c0,c1,rfl⟩ : ∃ c0 c1,cs=#[c0,c1]:=by
  have h2:=hsz.trans (show Tryz.prog.cellsOf 30=2 by kernel_rfl);obtain ⟨l⟩:=cs;match l,h2 with
  | [c0,c1],_=>exact ⟨c0,c1,rfl⟩
 obtain ⟨fuel,hf⟩:=h;obtain ⟨m0,y0,h0⟩:=flat_field Tryz.underlying30 hf 0 _ rfl rfl (show Tryz.prog.cellsOf 27=1 by kernel_rfl) c0 rfl;obtain ⟨m1,y1,h1⟩:=flat_field Tryz.underlying30 hf 1 _ rfl rfl (show Tryz.prog.cellsOf 28=1 by kernel_rfl) c1 rfl;obtain ⟨a,la,ca,rfl⟩ : ∃ a len cap,c0=.slice a len cap:=by
  rcases DataW.trod_slice Tryz.underlying27 h0 with ⟨e,_⟩ | ⟨b,l,c,_,_,_,_,e,_⟩
  ·simp at e; exact ⟨_,_,_,e⟩
  ·simp at e; exact ⟨_,_,_,e⟩
 obtain ⟨b,lb,cb,rfl⟩ : ∃ a len cap,c1=.slice a len cap:=by
  rcases DataW.trod_slice Tryz.underlying28 h1 with ⟨e,_⟩ | ⟨b,l,c,_,_,_,_,e,_⟩
  ·simp at e; exact ⟨_,_,_,e⟩
  ·simp at e; exact ⟨_,_,_,e⟩
 obtain ⟨xs,rfl,hw1,hs1⟩:=open_BindS h0;obtain ⟨ys,rfl,hw2,hs2⟩:=open_SessionS h1;exact ⟨a,b,ca,cb,⟨xs,ys⟩,rfl,⟨hw1,hw2⟩,⟨hs1,hs2⟩⟩
end
theorem szBib_at (x:Bb) (a b:Option Addr) (ca cb:Nat) (left:Int) (w:World) (hw:BbWf x) (hr:BbIs w a b x) (h0:0≤left) (h1:left≤1048576) :
  Cb 7 #[bbC a b ca cb x,iV left] w (iV (szBb x left)):=by
 have GA:Hid (Below w.heap.size w (w.alloc (.cells (BbV a ca b cb x).toArray 30))):=(Below.refl _ _).alloc (Nat.le_refl _) _;have H0:Hid _:=HoldsL.new w (BbV a ca b cb x) 30;have HC:Hid (∀ W,Below w.heap.size w W→Cb 26 #[.slice a x.binds.length ca,iV left] W (iV (szSl bindN x.binds left))):=fun W hW=>szBindS_at x.binds a ca left W hw.1 (hr.bd.below hW) h0 h1
 have HV:Hid (szBb x left=if szSl bindN x.binds left < 0 then -1 else szSl sessionN x.sess (szSl bindN x.binds left)):=rfl;have hrg:=szSl_range bindN x.binds left h0;generalize szBb x left=ans at *;generalize szSl bindN x.binds left=mid at *;unfold bbC;by_cases hs:mid < 0
 ·have he:mid=-1:=by omega
  subst he;rw [if_pos (by decide)] at HV;clear hr;go_enter Tryz.func7,Tryz.ntmps7
  go_wp2_with fail
  refine (HC.out _ GA.out).mono ?_;rintro e w1 ⟨rfl,q1⟩;have G1:Hid _:=GA.out.trans (q1.mono GA.out.size);clear q1;go_wp2_with fail
  go_ret;exact ⟨ret_int HV.out.symm,G1.out⟩
 ·rw [if_neg hs] at HV;have hs1:0≤mid:=by omega
  have hs2:mid≤1048576:=by omega
  have HD:Hid (∀ W,Below w.heap.size w W→Cb 27 #[.slice b x.sess.length cb,iV mid] W (iV (szSl sessionN x.sess mid))):=fun W hW=>szSessionS_at x.sess b cb mid W hw.2 (hr.ss.below hW) hs1 hs2
  have hrg2:=szSl_range sessionN x.sess mid hs1;rw [← HV.out] at HD hrg2;clear hr HV;by_cases ht:ans < 0
  ·have he:ans=-1:=by omega
   subst he;go_enter Tryz.func7,Tryz.ntmps7
   go_wp2_with fail
   refine (HC.out _ GA.out).mono ?_;rintro e w1 ⟨rfl,q1⟩;have G1:Hid _:=GA.out.trans (q1.mono GA.out.size);have k1:w1.cell? ⟨w.heap.size,1,none⟩=some (.slice b x.sess.length cb):=(H0.out.kept (by simp) q1).cell rfl;clear q1;go_wp2_with fail
   refine (HD.out _ G1.out).mono ?_;rintro e w2 ⟨rfl,q2⟩;have G2:Hid _:=G1.out.trans (q2.mono G1.out.size);clear q2;go_wp2_with fail
   go_ret;exact ⟨rfl,G2.out⟩
  ·have ht1:0≤ans:=by omega
   have ht2:ans≤1048576:=by omega
   go_enter Tryz.func7,Tryz.ntmps7
   go_wp2_with fail
   refine (HC.out _ GA.out).mono ?_;rintro e w1 ⟨rfl,q1⟩;have G1:Hid _:=GA.out.trans (q1.mono GA.out.size);have k1:w1.cell? ⟨w.heap.size,1,none⟩=some (.slice b x.sess.length cb):=(H0.out.kept (by simp) q1).cell rfl;clear q1;go_wp2_with fail
   refine (HD.out _ G1.out).mono ?_;rintro e w2 ⟨rfl,q2⟩;have G2:Hid _:=G1.out.trans (q2.mono G1.out.size);clear q2;go_wp2_with fail
   go_ret;exact ⟨rfl,G2.out⟩
theorem toBib_any (x:Bb) (a b:Option Addr) (ca cb:Nat) (w:World) (hl1:x.binds.length≤1048576) (hl2:x.sess.length≤1048576) (hr:BbIs w a b x) :
  Calls Tryz.prog 11 #[bbC a b ca cb x] w fun e w'=>BbRet w.heap.size x e w'∧Below w.heap.size w w':=by
 have HB:Hid (Below w.heap.size w (((w.alloc (.cells (BbV a ca b cb x).toArray 30)).alloc (.cells #[.slice none 0 0,.slice none 0 0] 39)).alloc (.cells #[.slice none 0 0,.slice none 0 0] 39))):=(((Below.refl _ _).alloc (Nat.le_refl _) _).alloc (by simp) _).alloc (by simp; omega) _;have H0:=((HoldsL.new w (BbV a ca b cb x) 30).alloc (.cells #[.slice none 0 0,.slice none 0 0] 39)).alloc (.cells #[.slice none 0 0,.slice none 0 0] 39);have H1:=(HoldsL.new (w.alloc (.cells (BbV a ca b cb x).toArray 30)) [.slice none 0 0,.slice none 0 0] 39).alloc (.cells #[.slice none 0 0,.slice none 0 0] 39);have H2:=HoldsL.new ((w.alloc (.cells (BbV a ca b cb x).toArray 30)).alloc (.cells #[.slice none 0 0,.slice none 0 0] 39)) [.slice none 0 0,.slice none 0 0] 39;have hsz:(((w.alloc (.cells (BbV a ca b cb x).toArray 30)).alloc (.cells #[.slice none 0 0,.slice none 0 0] 39)).alloc (.cells #[.slice none 0 0,.slice none 0 0] 39)).heap.size=w.heap.size+1+1+1:=by simp
 rw [World.size_alloc] at H1 H2;rw [World.size_alloc] at H2;have HS:Hid (∀ W,Below w.heap.size w W→Calls Tryz.prog 33 #[.slice a x.binds.length ca] W fun e w'=>e=.returned (.slice (some ⟨W.heap.size,0,none⟩) x.binds.length x.binds.length)∧Below W.heap.size W w'∧SlLaid bdL 5 w' W.heap.size x.binds x.binds.length x.binds.length):=fun W hW=>toBindS_any x.binds a ca W hl1 (hr.bd.below hW)
 have HT:Hid (∀ W,Below w.heap.size w W→Calls Tryz.prog 34 #[.slice b x.sess.length cb] W fun e w'=>e=.returned (.slice (some ⟨W.heap.size,0,none⟩) x.sess.length x.sess.length)∧Below W.heap.size W w'∧SlLaid ssL 7 w' W.heap.size x.sess x.sess.length x.sess.length):=fun W hW=>toSessionS_any x.sess b cb W hl2 (hr.ss.below hW)
 have G0:Hid _:=H0;have G1:Hid _:=H1;have G2:Hid _:=H2;unfold bbC;clear hr H0 H1 H2;go_enter Tryz.func11,Tryz.ntmps11
 go_upto_region 2 with fail
 generalize ((w.alloc (.cells (BbV a ca b cb x).toArray 30)).alloc (.cells #[.slice none 0 0,.slice none 0 0] 39)).alloc (.cells #[.slice none 0 0,.slice none 0 0] 39)=W3 at *;have k0:=G0.out.cell (j:=0) rfl;go_wp2_with fail
 refine (HS.out _ HB.out).mono ?_;rintro e w1 ⟨rfl,q1,y1⟩;have B1:Hid _:=HB.out.trans (q1.mono HB.out.size);have K0:=G0.out.kept (by simp) q1;have K1:Hid _:=G1.out.kept (by simp) q1;have K2:=G2.out.kept (by simp) q1;have HY:Hid (SlLaid bdL 5 w1 W3.heap.size x.binds x.binds.length x.binds.length):=y1;rw [hsz] at HY ⊢;obtain ⟨C,hC⟩ : ∃ C,C=w.heap.size+1+1+1:=⟨_,rfl⟩;rw [← hC] at HY ⊢;have hCl:w.heap.size+1+1 < C:=by omega
 have hCw:C < w1.heap.size:=HY.out.blk;clear q1 y1 k0 hC hsz;have b1:=K0.cell (j:=1) rfl;have o0:=K2.cell (j:=0) rfl;have f0:=K2.free (j:=0) (by simp);have D2:Hid _:=K2.set 0 (.slice (some ⟨C,0,none⟩) x.binds.length x.binds.length);have D1:Hid _:=K1.out.setOther (C:=w.heap.size+1+1) (j:=0) (by omega) (.slice (some ⟨C,0,none⟩) x.binds.length x.binds.length);have DY:Hid _:=HY.out.setOther (X:=w.heap.size+1+1) (o:=0) (by omega) (.slice (some ⟨C,0,none⟩) x.binds.length x.binds.length);have DB:Hid _:=B1.out.setCell (p:=⟨w.heap.size+1+1,0,none⟩) (by show w.heap.size≤w.heap.size+1+1; omega) (.slice (some ⟨C,0,none⟩) x.binds.length x.binds.length);have hCw2:C < (w1.setCell ⟨w.heap.size+1+1,0,none⟩ (.slice (some ⟨C,0,none⟩) x.binds.length x.binds.length)).heap.size:=DY.out.blk;clear K0 K1 K2 HY B1 hCw;go_wp2_with fail
 generalize w1.setCell ⟨w.heap.size+1+1,0,none⟩ (.slice (some ⟨C,0,none⟩) x.binds.length x.binds.length)=W5 at *;refine (HT.out _ DB.out).mono ?_;rintro e w6 ⟨rfl,q6,y6⟩;have E2:=D2.out.kept (by simp) q6;have E1:=D1.out.kept (by simp) q6;have EY:Hid _:=DY.out.kept q6;have EZ:Hid (SlLaid ssL 7 w6 W5.heap.size x.sess x.sess.length x.sess.length):=y6;have EB:Hid _:=DB.out.trans (q6.mono DB.out.size);clear q6 y6 b1 o0 f0;generalize W5.heap.size=D at *;obtain ⟨o0,o1⟩:=E2.c2;have f1:=E2.free (j:=1) (by simp);obtain ⟨r0,r1⟩:=E1.c2;obtain ⟨s0,s1⟩:=E1.f2;have R1:Hid (HoldsL _ (w.heap.size+1) (BbV (some ⟨C,0,none⟩) x.binds.length (some ⟨D,0,none⟩) x.sess.length x)):=((E1.setOther (C:=w.heap.size+1+1) (j:=1) (by omega) (.slice (some ⟨D,0,none⟩) x.sess.length x.sess.length)).set 0 (.slice (some ⟨C,0,none⟩) x.binds.length x.binds.length)).set 1 (.slice (some ⟨D,0,none⟩) x.sess.length x.sess.length);have RY:Hid _:=((EY.out.setOther (X:=w.heap.size+1+1) (o:=1) (by omega) (.slice (some ⟨D,0,none⟩) x.sess.length x.sess.length)).setOther (X:=w.heap.size+1) (o:=0) (by omega) (.slice (some ⟨C,0,none⟩) x.binds.length x.binds.length)).setOther (X:=w.heap.size+1) (o:=1) (by omega) (.slice (some ⟨D,0,none⟩) x.sess.length x.sess.length);have RZ:Hid _:=((EZ.out.setOther (X:=w.heap.size+1+1) (o:=1) (by omega) (.slice (some ⟨D,0,none⟩) x.sess.length x.sess.length)).setOther (X:=w.heap.size+1) (o:=0) (by omega) (.slice (some ⟨C,0,none⟩) x.binds.length x.binds.length)).setOther (X:=w.heap.size+1) (o:=1) (by omega) (.slice (some ⟨D,0,none⟩) x.sess.length x.sess.length);have RB:Hid _:=((EB.out.setCell (p:=⟨w.heap.size+1+1,1,none⟩) (by show w.heap.size≤w.heap.size+1+1; omega) (.slice (some ⟨D,0,none⟩) x.sess.length x.sess.length)).setCell (p:=⟨w.heap.size+1,0,none⟩) (by show w.heap.size≤w.heap.size+1; omega) (.slice (some ⟨C,0,none⟩) x.binds.length x.binds.length)).setCell (p:=⟨w.heap.size+1,1,none⟩) (by show w.heap.size≤w.heap.size+1; omega) (.slice (some ⟨D,0,none⟩) x.sess.length x.sess.length);clear E1 E2;go_wp2_with fail
 exact bodyPost_ret (results_mid Tryz.results11 _ _ (w.heap.size+1) (BbV (some ⟨C,0,none⟩) x.binds.length (some ⟨D,0,none⟩) x.sess.length x) _ rfl R1.out Tryz.underlying39 rfl (show (Tryz.prog.info? 39).map (·.size)=some 2 by kernel_rfl)) rfl ⟨⟨some ⟨C,0,none⟩,some ⟨D,0,none⟩,_,_,rfl,.inr ⟨C,rfl,by omega,RY.out⟩,.inr ⟨D,rfl,by omega,RZ.out⟩,fun g h e1 e2 _ _=>by injection e1 with e1; injection e2 with e2; injection e1 with e1 _; injection e2 with e2 _; omega⟩,RB.out⟩
theorem eqBib_same (x:Bb) (a1 b1 a2 b2:Option Addr) (ca1 cb1 ca2 cb2:Nat) (w:World) (hl1:x.binds.length≤1048576) (hl2:x.sess.length≤1048576) (h1:BbIs w a1 b1 x) (h2:BbIs w a2 b2 x) :
  Cb 16 #[bbC a1 b1 ca1 cb1 x,bbC a2 b2 ca2 cb2 x] w (.bool true):=by
 have HB:Hid (Below w.heap.size w ((w.alloc (.cells (BbV a1 ca1 b1 cb1 x).toArray 39)).alloc (.cells (BbV a2 ca2 b2 cb2 x).toArray 39))):=((Below.refl _ _).alloc (Nat.le_refl _) _).alloc (by simp) _;have H0:=(HoldsL.new w (BbV a1 ca1 b1 cb1 x) 39).alloc (.cells (BbV a2 ca2 b2 cb2 x).toArray 39);have H1:=HoldsL.new (w.alloc (.cells (BbV a1 ca1 b1 cb1 x).toArray 39)) (BbV a2 ca2 b2 cb2 x) 39;rw [World.size_alloc] at H1;have HS:Hid (∀ W,Below w.heap.size w W→Cb 40 #[.slice a1 x.binds.length ca1,.slice a2 x.binds.length ca2] W (.bool true)):=fun W hW=>eqBindS_same x.binds a1 a2 ca1 ca2 W hl1 (h1.bd.below hW) (h2.bd.below hW)
 have HT:Hid (∀ W,Below w.heap.size w W→Cb 41 #[.slice b1 x.sess.length cb1,.slice b2 x.sess.length cb2] W (.bool true)):=fun W hW=>eqSessionS_same x.sess b1 b2 cb1 cb2 W hl2 (h1.ss.below hW) (h2.ss.below hW)
 have G0:Hid _:=H0;have G1:Hid _:=H1;unfold bbC;clear h1 h2 H0 H1;go_enter Tryz.func16,Tryz.ntmps16
 go_upto_region 1 with fail
 generalize (w.alloc (.cells (BbV a1 ca1 b1 cb1 x).toArray 39)).alloc (.cells (BbV a2 ca2 b2 cb2 x).toArray 39)=W2 at *;have k0:=G0.out.cell (j:=0) rfl;have k1:=G1.out.cell (j:=0) rfl;go_wp2_with fail
 refine (HS.out _ HB.out).mono ?_;rintro e w1 ⟨rfl,q1⟩;have B1:Hid _:=HB.out.trans (q1.mono HB.out.size);have c1:w1.cell? ⟨w.heap.size,1,none⟩=some (.slice b1 x.sess.length cb1):=(G0.out.kept (by simp) q1).cell rfl;have d1:w1.cell? ⟨w.heap.size+1,1,none⟩=some (.slice b2 x.sess.length cb2):=(G1.out.kept (by simp) q1).cell rfl;clear q1 k0 k1;go_wp2_with fail
 refine (HT.out _ B1.out).mono ?_;rintro e w2 ⟨rfl,q2⟩;have B2:Hid _:=B1.out.trans (q2.mono B1.out.size);clear q2;go_wp2_with fail
 go_ret;exact ⟨rfl,B2.out⟩
section
variable {α:Type} {en:α→List Value} {n:Nat} {w W:World}
theorem SlLaid.grownNe {B X:Nat} {xs:List α} {L k:Nat} (h:SlLaid en n w B xs L k) (hg:w.grownBy W (some X)) (hne:B≠X):SlLaid en n W B xs L k:=by
 have hb:W.heap[B]?=w.heap[B]?:=hg.block B h.blk (fun e=>hne (by injection e));have hc:∀ o,W.cell? ⟨B,o,none⟩=w.cell? ⟨B,o,none⟩:=fun o=>by unfold World.cell?; rw [show (⟨B,o,none⟩ : Addr).block=B from rfl,hb]
 have hf:∀ o,W.frozen? ⟨B,o,none⟩=w.frozen? ⟨B,o,none⟩:=fun o=>World.frozen?_of_block (a:=⟨B,o,none⟩) hb
 exact ⟨Nat.lt_of_lt_of_le h.blk hg.size,fun i hi hk j v hv=>(hc _).trans (h.at0 i hi hk j v hv),fun i hi=>by rw [hc]; exact h.there i hi,fun i hi=>by rw [hf]; exact h.free i hi⟩
end
structure BbMk (base:Nat) (w:World) (a b:Option Addr) (k nb ns:Nat):Prop where
 bd:MkOwn 5 bindM base w a k nb
 ss:MkOwn 7 sessionM base w b (k+5*nb) ns
theorem BbMk.kept {base:Nat} {w W:World} {a b:Option Addr} {k nb ns:Nat} (h:BbMk base w a b k nb ns) (hB:Below w.heap.size w W):BbMk base W a b k nb ns:=⟨h.bd.kept hB,h.ss.kept hB⟩
theorem heldBib_own (base nb ns:Nat) (a b:Option Addr) (ca cb k:Nat) (w:World) (hk:0 < k) (hL:k+5*nb+7*ns≤1073741824) (hs:BbMk base w a b k nb ns) :
  Cb 45 #[.agg #[.slice a nb ca,.slice b ns cb],iV k] w (iV ((k+5*nb+7*ns:Nat):Int)):=by
 have GA:Hid (Below w.heap.size w (w.alloc (.cells #[.slice a nb ca,.slice b ns cb] 39))):=(Below.refl _ _).alloc (Nat.le_refl _) _;have HM:Hid (∀ W,Below w.heap.size w W→Cb 67 #[.slice a nb ca,iV k] W (iV ((k+5*nb:Nat):Int))):=fun W hW=>heldBindS_own base nb a ca k W hk (by omega) (hs.kept hW).bd
 have HN:Hid (∀ W,Below w.heap.size w W→Cb 68 #[.slice b ns cb,iV ((k+5*nb:Nat):Int)] W (iV ((k+5*nb+7*ns:Nat):Int))):=fun W hW=>heldSessionS_own base ns b cb (k+5*nb) W (by omega) hL (hs.kept hW).ss
 have H0:Hid _:=HoldsL.new w [.slice a nb ca,.slice b ns cb] 39;obtain ⟨k1,hk1⟩ : ∃ k1,k1=k+5*nb:=⟨_,rfl⟩;rw [← hk1] at HM HN hL ⊢;obtain ⟨k2,hk2⟩ : ∃ k2,k2=k1+7*ns:=⟨_,rfl⟩;rw [← hk2] at HN hL ⊢;have h1:0 < k1:=by omega
 have h2:0 < k2:=by omega
 have h3:k1≤1073741824:=by omega
 clear hk1 hk2 hs;go_enter Tryz.func45,Tryz.ntmps45
 go_wp2_with fail
 refine (HM.out _ GA.out).mono ?_;rintro e w1 ⟨rfl,q1⟩;have G1:Hid _:=GA.out.trans (q1.mono GA.out.size);have c1:w1.cell? ⟨w.heap.size,1,none⟩=some (.slice b ns cb):=(H0.out.kept (by simp) q1).cell rfl;clear q1;go_wp2_with fail
 refine (HN.out _ G1.out).mono ?_;rintro e w2 ⟨rfl,q2⟩;have G2:Hid _:=G1.out.trans (q2.mono G1.out.size);clear q2;go_wp2_with fail
 go_ret;exact ⟨rfl,G2.out⟩
structure Bo where
 bib:Bb
 bind:Bd
 code:Int
def boC (a b:Option Addr) (ca cb:Nat) (o:Bo):Value:=.agg #[.slice a o.bib.binds.length ca,.slice b o.bib.sess.length cb,iV o.bind.proto,.string o.bind.inn,iV o.bind.inPort,.string o.bind.out,iV o.bind.outPort,iV o.code]
def BoRet (base:Nat) (o:Bo) (e:Ending) (w:World):Prop:=∃ a b ca cb,e=.returned (boC a b ca cb o)∧BbOwn base w a b o.bib
structure OutOf (lo hi:Nat) (w W:World):Prop where
 os:W.os=w.os
 tape:W.tape=w.tape
 output:W.output=w.output
 size:w.heap.size≤W.heap.size
 block:∀ k,k < w.heap.size→(k < lo∨hi≤k)→W.heap[k]?=w.heap[k]?
section
variable {lo hi lo2 hi2 B:Nat} {w w1 W:World}
theorem OutOf.of_below (h:Below w.heap.size w W):OutOf lo hi w W:=⟨h.os,h.tape,h.output,h.size,fun k hk _=>h.block k hk⟩
theorem OutOf.trans (h:OutOf lo hi w w1) (h2:OutOf lo hi w1 W):OutOf lo hi w W :=
 ⟨h2.os.trans h.os,h2.tape.trans h.tape,h2.output.trans h.output,Nat.le_trans h.size h2.size,fun k hk hb=>(h2.block k (Nat.lt_of_lt_of_le hk h.size) hb).trans (h.block k hk hb)⟩
theorem OutOf.below (h:OutOf lo hi w W) {m:Nat} (hm:m≤lo) (hl:m≤w.heap.size):Below m w W:=⟨h.os,h.tape,h.output,h.size,fun k hk=>h.block k (by omega) (.inl (by omega))⟩
theorem OutOf.of_grown (h:w.grownBy W (some B)) (h1:lo≤B) (h2:B < hi):OutOf lo hi w W :=
 ⟨h.os,h.tape,h.output,h.size,fun k hk hb=>h.block k hk (by simp; omega)⟩
theorem HoldsL.outOf {cs:List Value} (h:HoldsL w B cs) (hl:0 < cs.length) (ho:OutOf lo hi w W) (hb:B < lo∨hi≤B):HoldsL W B cs:=h.of_block (ho.block B (h.lt hl) hb)
end
section
variable {α:Type} {en:α→List Value} {n:Nat} {lo hi lo2 hi2:Nat} {w W:World} {a:Option Addr} {xs:List α}
theorem SlLaid.of_block {B L k:Nat} (h:SlLaid en n w B xs L k) (hb:W.heap[B]?=w.heap[B]?) (hs:w.heap.size≤W.heap.size):SlLaid en n W B xs L k:=by
 have hc:∀ o,W.cell? ⟨B,o,none⟩=w.cell? ⟨B,o,none⟩:=fun o=>by unfold World.cell?; rw [show (⟨B,o,none⟩ : Addr).block=B from rfl,hb]
 have hf:∀ o,W.frozen? ⟨B,o,none⟩=w.frozen? ⟨B,o,none⟩:=fun o=>World.frozen?_of_block (a:=⟨B,o,none⟩) hb
 exact ⟨Nat.lt_of_lt_of_le h.blk hs,fun i hi hk j v hv=>(hc _).trans (h.at0 i hi hk j v hv),fun i hi=>by rw [hc]; exact h.there i hi,fun i hi=>by rw [hf]; exact h.free i hi⟩
def SlIn (en:α→List Value) (n lo hi:Nat) (w:World) (a:Option Addr) (xs:List α):Prop:=xs=[]∨∃ g,a=some ⟨g,0,none⟩∧lo≤g∧g < hi∧SlLaid en n w g xs xs.length xs.length
theorem SlIn.of_own (h:SlOwn en n lo w a xs) {hi:Nat} (hh:w.heap.size≤hi):SlIn en n lo hi w a xs:=by
 rcases h with h | ⟨g,h1,h2,h3⟩
 ·exact .inl h
 ·exact .inr ⟨g,h1,h2,Nat.lt_of_lt_of_le h3.blk hh,h3⟩
theorem SlIn.own (h:SlIn en n lo hi w a xs):SlOwn en n lo w a xs:=by
 rcases h with h | ⟨g,h1,h2,h3,h4⟩
 ·exact .inl h
 ·exact .inr ⟨g,h1,h2,h4⟩
theorem SlIn.is (h:SlIn en n lo hi w a xs):SlIs en n w a xs:=h.own.is
theorem SlIn.kept (h:SlIn en n lo hi w a xs) (hb:Below w.heap.size w W):SlIn en n lo hi W a xs:=by
 rcases h with h | ⟨g,h1,h2,h3,h4⟩
 ·exact .inl h
 ·exact .inr ⟨g,h1,h2,h3,h4.kept hb⟩
theorem SlIn.outOf (h:SlIn en n lo hi w a xs) (ho:OutOf lo2 hi2 w W) (hb:hi≤lo2∨hi2≤lo):SlIn en n lo hi W a xs:=by
 rcases h with h | ⟨g,h1,h2,h3,h4⟩
 ·exact .inl h
 ·exact .inr ⟨g,h1,h2,h3,h4.of_block (ho.block g h4.blk (by omega)) ho.size⟩
end
structure BbIn (lo hi:Nat) (w:World) (a b:Option Addr) (x:Bb):Prop where
 bd:SlIn bdL 5 lo hi w a x.binds
 ss:SlIn ssL 7 lo hi w b x.sess
 ne:∀ g h,a=some ⟨g,0,none⟩→b=some ⟨h,0,none⟩→x.binds≠[]→x.sess≠[]→g≠h
section
variable {lo hi lo2 hi2:Nat} {w W:World} {a b:Option Addr} {x:Bb}
theorem BbIn.of_own (h:BbOwn lo w a b x) (hh:w.heap.size≤hi):BbIn lo hi w a b x:=⟨SlIn.of_own h.bd hh,SlIn.of_own h.ss hh,h.ne⟩
theorem BbIn.own (h:BbIn lo hi w a b x):BbOwn lo w a b x:=⟨h.bd.own,h.ss.own,h.ne⟩
theorem BbIn.is (h:BbIn lo hi w a b x):BbIs w a b x:=⟨h.bd.is,h.ss.is⟩
theorem BbIn.kept (h:BbIn lo hi w a b x) (hb:Below w.heap.size w W):BbIn lo hi W a b x:=⟨h.bd.kept hb,h.ss.kept hb,h.ne⟩
theorem BbIn.outOf (h:BbIn lo hi w a b x) (ho:OutOf lo2 hi2 w W) (hb:hi≤lo2∨hi2≤lo):BbIn lo hi W a b x:=⟨h.bd.outOf ho hb,h.ss.outOf ho hb,h.ne⟩
theorem BbOwn.low {base:Nat} (h:BbOwn base w a b x) {m:Nat} (hm:m≤base):BbOwn m w a b x:=⟨h.bd.down hm,h.ss.down hm,h.ne⟩
end
def IsPl (base:Nat) (p:Pl):Value→World→Prop:=fun v w=>∃ B,v=plC (some ⟨B,0,none⟩) p.addrs.length p∧base≤B∧SlLaid strL1 1 w B p.addrs p.addrs.length p.addrs.length
theorem stable_isPl (base:Nat) (p:Pl):Stable (IsPl base p):=fun v w w' ⟨B,h1,h2,h3⟩ hb=>⟨B,h1,h2,h3.kept hb⟩
def IsBb (base:Nat) (x:Bb):Value→World→Prop:=fun v w=>∃ a b ca cb,v=bbC a b ca cb x∧BbOwn base w a b x
theorem stable_isBb (base:Nat) (x:Bb):Stable (IsBb base x):=fun v w w' ⟨a,b,ca,cb,h1,h2⟩ hb=>⟨a,b,ca,cb,h1,h2.kept hb⟩
theorem strs_in {xs:List ByteArray} {left:Int} (h0:0≤left) (h1:left≤1048576) (h:0≤szSl strN xs left):xs.length≤1048576∧∀ s∈xs,s.size≤1048576:=by
 obtain ⟨h2,h3⟩:=szSl_in h0 h;exact ⟨by omega,fun q hq=>by have:=h3 q hq q.size (by simp [strN]); omega⟩
def BbSm (x:Bb):Prop:=x.binds.length≤1048576∧x.sess.length≤1048576∧(∀ q∈x.binds,q.inn.size≤1048576∧q.out.size≤1048576)∧∀ s∈x.sess,s.inn.size≤1048576∧s.peer.size≤1048576
theorem bb_in {x:Bb} {left:Int} (h0:0≤left) (h1:left≤1048576) (h:0≤szBb x left):BbSm x:=by
 unfold szBb at h;split at h
 ·omega
 ·rename_i hn;have r1:=szSl_range bindN x.binds left h0;obtain ⟨a1,a2⟩:=szSl_in h0 (show 0≤szSl bindN x.binds left by omega);obtain ⟨b1,b2⟩:=szSl_in (show 0≤szSl bindN x.binds left by omega) h;refine ⟨by omega,by omega,fun q hq=>⟨?_,?_⟩,fun q hq=>⟨?_,?_⟩⟩
  ·have:=a2 q hq q.inn.size (by simp [bindN]); omega
  ·have:=a2 q hq q.out.size (by simp [bindN]); omega
  ·have:=b2 q hq q.inn.size (by simp [sessionN]); omega
  ·have:=b2 q hq q.peer.size (by simp [sessionN]); omega
theorem szBb_range (x:Bb) (left:Int) (h:0≤left) : -1≤szBb x left∧szBb x left≤left:=by
 unfold szBb;have r1:=szSl_range bindN x.binds left h;split
 ·omega
 ·have r2:=szSl_range sessionN x.sess (szSl bindN x.binds left) (by omega); omega
end Go.Proofs.YtcckaeppiamebaaGreatDoor
