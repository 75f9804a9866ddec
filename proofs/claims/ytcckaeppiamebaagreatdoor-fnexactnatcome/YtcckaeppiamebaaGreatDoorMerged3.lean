import Derived.Test.YtcckaeppiamebaaGreatDoorAb
import Derived.Test.YtcckaeppiamebaaGreatDoorMerged1
import Derived.Test.YtcckaeppiamebaaGreatDoorMerged2
import Derived.Deep.DeepCutAuto
import Derived.BigQuiet
set_option linter.unusedVariables false
set_option linter.unusedSimpArgs false
set_option maxRecDepth 100000
set_option maxHeartbeats 8000000
namespace Go.Proofs.YtcckaeppiamebaaGreatDoor
open Go.RowKit Go.PlainAid Go.ChangeShapes Go.WideShapes
def BbWf (x:Bb):Prop:=BdsWf x.binds∧SssWf x.sess
structure BbIs (w:World) (a b:Option Addr) (x:Bb):Prop where
 bd:SlIs bdL 5 w a x.binds
 ss:SlIs ssL 7 w b x.sess
theorem BbIs.below {w W:World} {a b:Option Addr} {x:Bb} (h:BbIs w a b x) (hB:Below w.heap.size w W):BbIs W a b x:=⟨h.bd.below hB,h.ss.below hB⟩
structure BbOwn (base:Nat) (w:World) (a b:Option Addr) (x:Bb):Prop where
 bd:SlOwn bdL 5 base w a x.binds
 ss:SlOwn ssL 7 base w b x.sess
 ne:∀ g h,a=some ⟨g,0,none⟩→b=some ⟨h,0,none⟩→x.binds≠[]→x.sess≠[]→g≠h
theorem BbOwn.is {base:Nat} {w:World} {a b:Option Addr} {x:Bb} (h:BbOwn base w a b x):BbIs w a b x:=⟨h.bd.is,h.ss.is⟩
theorem BbOwn.kept {base:Nat} {w W:World} {a b:Option Addr} {x:Bb} (h:BbOwn base w a b x) (hB:Below w.heap.size w W):BbOwn base W a b x:=⟨h.bd.kept hB,h.ss.kept hB,h.ne⟩
def BbRet (base:Nat) (x:Bb) (e:Ending) (w:World):Prop:=∃ a b ca cb,e=.returned (bbC a b ca cb x)∧BbOwn base w a b x
def szBb (x:Bb) (left:Int):Int:=if szSl bindN x.binds left < 0 then -1 else szSl sessionN x.sess (szSl bindN x.binds left)
section
variable {H:Type} {enc:TypeId × Value→H} {w:World} {base:Nat} {spare:Nat→Bool} {held:Bool}
theorem open_Bib {r:Reach} {b0:Nat} {v:Value} {d:DataW H} {p:List MemPlace} (hv:Value.okWide Tryz.prog w r b0 30 v) (h:DataW.Trod enc Tryz.prog w base spare held 30 v d p) :
  ∃ (a b:Option Addr) (ca cb:Nat) (x:Bb),v=bbC a b ca cb x∧BbWf x∧BbIs w a b x:=by
 obtain ⟨cs,rfl,hsz⟩:=okWide_struct Tryz.underlying30 hv;obtain ⟨c0,c1,rfl⟩ : ∃ c0 c1,cs=#[c0,c1]:=by
  have h2:=hsz.trans (show Tryz.prog.cellsOf 30=2 by kernel_rfl);obtain ⟨l⟩:=cs;match l,h2 with
  | [c0,c1],_=>exact ⟨c0,c1,rfl⟩
 obtain ⟨fuel,hf⟩:=h;obtain ⟨m0,y0,h0⟩:=flat_field Tryz.underlying30 hf 0 _ rfl rfl (show Tryz.prog.cellsOf 27=1 by kernel_rfl) c0 rfl;obtain ⟨m1,y1,h1⟩:=flat_field Tryz.underlying30 hf 1 _ rfl rfl (show Tryz.prog.cellsOf 28=1 by kernel_rfl) c1 rfl;obtain ⟨a,la,ca,rfl⟩ : ∃ a len cap,c0=.slice a len cap:=by
  rcases DataW.trod_slice Tryz.underlying27 h0 with ⟨e,_⟩ | ⟨b,l,c,_,_,_,_,e,_⟩
  ·simp at e; exact ⟨_,_,_,e⟩
  ·simp at e; exact ⟨_,_,_,e⟩
 obtain ⟨b,lb,cb,rfl⟩ : ∃ a len cap,c1=.slice a len cap:=by
  rcases DataW.trod_slice Tryz.underlying28 h1 with ⟨e,_⟩ | ⟨b,l,c,_,_,_,_,e,_⟩
  ·simp at e; exact ⟨_,_,_,e⟩
  ·simp at e; exact ⟨_,_,_,e⟩
 obtain ⟨xs,rfl,hw1,hs1⟩:=open_BindS h0;obtain ⟨ys,rfl,hw2,hs2⟩:=open_SessionS h1;exact ⟨a,b,ca,cb,⟨xs,ys⟩,rfl,⟨hw1,hw2⟩,⟨hs1,hs2⟩⟩
end
theorem szBib_at (x:Bb) (a b:Option Addr) (ca cb:Nat) (left:Int) (w:World) (hw:BbWf x) (hr:BbIs w a b x) (h0:0≤left) (h1:left≤1048576) :
  Cb 7 #[bbC a b ca cb x,iV left] w (iV (szBb x left)):=by
 have GA:Hid (Below w.heap.size w (w.alloc (.cells (BbV a ca b cb x).toArray 30))):=(Below.refl _ _).alloc (Nat.le_refl _) _;have H0:Hid _:=HoldsL.new w (BbV a ca b cb x) 30;have HC:Hid (∀ W,Below w.heap.size w W→Cb 26 #[.slice a x.binds.length ca,iV left] W (iV (szSl bindN x.binds left))):=fun W hW=>szBindS_at x.binds a ca left W hw.1 (hr.bd.below hW) h0 h1
 have HV:Hid (szBb x left=if szSl bindN x.binds left < 0 then -1 else szSl sessionN x.sess (szSl bindN x.binds left)):=rfl;have hrg:=szSl_range bindN x.binds left h0;generalize szBb x left=ans at *;generalize szSl bindN x.binds left=mid at *;unfold bbC;by_cases hs:mid < 0
 ·have he:mid=-1:=by omega
  subst he;rw [if_pos (by decide)] at HV;clear hr;go_enter Tryz.func7,Tryz.ntmps7
  go_wp2_with fail
  refine (HC.out _ GA.out).mono ?_;rintro e w1 ⟨rfl,q1⟩;have G1:Hid _:=GA.out.trans (q1.mono GA.out.size);clear q1;go_wp2_with fail
  go_ret;exact ⟨ret_int HV.out.symm,G1.out⟩
 ·rw [if_neg hs] at HV;have hs1:0≤mid:=by omega
  have hs2:mid≤1048576:=by omega
  have HD:Hid (∀ W,Below w.heap.size w W→Cb 27 #[.slice b x.sess.length cb,iV mid] W (iV (szSl sessionN x.sess mid))):=fun W hW=>szSessionS_at x.sess b cb mid W hw.2 (hr.ss.below hW) hs1 hs2
  have hrg2:=szSl_range sessionN x.sess mid hs1;rw [← HV.out] at HD hrg2;clear hr HV;by_cases ht:ans < 0
  ·have he:ans=-1:=by omega
   subst he;go_enter Tryz.func7,Tryz.ntmps7
   go_wp2_with fail
   refine (HC.out _ GA.out).mono ?_;rintro e w1 ⟨rfl,q1⟩;have G1:Hid _:=GA.out.trans (q1.mono GA.out.size);have k1:w1.cell? ⟨w.heap.size,1,none⟩=some (.slice b x.sess.length cb):=(H0.out.kept (by simp) q1).cell rfl;clear q1;go_wp2_with fail
   refine (HD.out _ G1.out).mono ?_;rintro e w2 ⟨rfl,q2⟩;have G2:Hid _:=G1.out.trans (q2.mono G1.out.size);clear q2;go_wp2_with fail
   go_ret;exact ⟨rfl,G2.out⟩
  ·have ht1:0≤ans:=by omega
   have ht2:ans≤1048576:=by omega
   go_enter Tryz.func7,Tryz.ntmps7
   go_wp2_with fail
   refine (HC.out _ GA.out).mono ?_;rintro e w1 ⟨rfl,q1⟩;have G1:Hid _:=GA.out.trans (q1.mono GA.out.size);have k1:w1.cell? ⟨w.heap.size,1,none⟩=some (.slice b x.sess.length cb):=(H0.out.kept (by simp) q1).cell rfl;clear q1;go_wp2_with fail
   refine (HD.out _ G1.out).mono ?_;rintro e w2 ⟨rfl,q2⟩;have G2:Hid _:=G1.out.trans (q2.mono G1.out.size);clear q2;go_wp2_with fail
   go_ret;exact ⟨rfl,G2.out⟩
theorem toBib_any (x:Bb) (a b:Option Addr) (ca cb:Nat) (w:World) (hl1:x.binds.length≤1048576) (hl2:x.sess.length≤1048576) (hr:BbIs w a b x) :
  Calls Tryz.prog 11 #[bbC a b ca cb x] w fun e w'=>BbRet w.heap.size x e w'∧Below w.heap.size w w':=by
 have HB:Hid (Below w.heap.size w (((w.alloc (.cells (BbV a ca b cb x).toArray 30)).alloc (.cells #[.slice none 0 0,.slice none 0 0] 39)).alloc (.cells #[.slice none 0 0,.slice none 0 0] 39))):=(((Below.refl _ _).alloc (Nat.le_refl _) _).alloc (by simp) _).alloc (by simp; omega) _;have H0:=((HoldsL.new w (BbV a ca b cb x) 30).alloc (.cells #[.slice none 0 0,.slice none 0 0] 39)).alloc (.cells #[.slice none 0 0,.slice none 0 0] 39);have H1:=(HoldsL.new (w.alloc (.cells (BbV a ca b cb x).toArray 30)) [.slice none 0 0,.slice none 0 0] 39).alloc (.cells #[.slice none 0 0,.slice none 0 0] 39);have H2:=HoldsL.new ((w.alloc (.cells (BbV a ca b cb x).toArray 30)).alloc (.cells #[.slice none 0 0,.slice none 0 0] 39)) [.slice none 0 0,.slice none 0 0] 39;have hsz:(((w.alloc (.cells (BbV a ca b cb x).toArray 30)).alloc (.cells #[.slice none 0 0,.slice none 0 0] 39)).alloc (.cells #[.slice none 0 0,.slice none 0 0] 39)).heap.size=w.heap.size+1+1+1:=by simp
 rw [World.size_alloc] at H1 H2;rw [World.size_alloc] at H2;have HS:Hid (∀ W,Below w.heap.size w W→Calls Tryz.prog 33 #[.slice a x.binds.length ca] W fun e w'=>e=.returned (.slice (some ⟨W.heap.size,0,none⟩) x.binds.length x.binds.length)∧Below W.heap.size W w'∧SlLaid bdL 5 w' W.heap.size x.binds x.binds.length x.binds.length):=fun W hW=>toBindS_any x.binds a ca W hl1 (hr.bd.below hW)
 have HT:Hid (∀ W,Below w.heap.size w W→Calls Tryz.prog 34 #[.slice b x.sess.length cb] W fun e w'=>e=.returned (.slice (some ⟨W.heap.size,0,none⟩) x.sess.length x.sess.length)∧Below W.heap.size W w'∧SlLaid ssL 7 w' W.heap.size x.sess x.sess.length x.sess.length):=fun W hW=>toSessionS_any x.sess b cb W hl2 (hr.ss.below hW)
 have G0:Hid _:=H0;have G1:Hid _:=H1;have G2:Hid _:=H2;unfold bbC;clear hr H0 H1 H2;go_enter Tryz.func11,Tryz.ntmps11
 go_upto_region 2 with fail
 generalize ((w.alloc (.cells (BbV a ca b cb x).toArray 30)).alloc (.cells #[.slice none 0 0,.slice none 0 0] 39)).alloc (.cells #[.slice none 0 0,.slice none 0 0] 39)=W3 at *;have k0:=G0.out.cell (j:=0) rfl;go_wp2_with fail
 refine (HS.out _ HB.out).mono ?_;rintro e w1 ⟨rfl,q1,y1⟩;have B1:Hid _:=HB.out.trans (q1.mono HB.out.size);have K0:=G0.out.kept (by simp) q1;have K1:Hid _:=G1.out.kept (by simp) q1;have K2:=G2.out.kept (by simp) q1;have HY:Hid (SlLaid bdL 5 w1 W3.heap.size x.binds x.binds.length x.binds.length):=y1;rw [hsz] at HY ⊢;obtain ⟨C,hC⟩ : ∃ C,C=w.heap.size+1+1+1:=⟨_,rfl⟩;rw [← hC] at HY ⊢;have hCl:w.heap.size+1+1 < C:=by omega
 have hCw:C < w1.heap.size:=HY.out.blk;clear q1 y1 k0 hC hsz;have b1:=K0.cell (j:=1) rfl;have o0:=K2.cell (j:=0) rfl;have f0:=K2.free (j:=0) (by simp);have D2:Hid _:=K2.set 0 (.slice (some ⟨C,0,none⟩) x.binds.length x.binds.length);have D1:Hid _:=K1.out.setOther (C:=w.heap.size+1+1) (j:=0) (by omega) (.slice (some ⟨C,0,none⟩) x.binds.length x.binds.length);have DY:Hid _:=HY.out.setOther (X:=w.heap.size+1+1) (o:=0) (by omega) (.slice (some ⟨C,0,none⟩) x.binds.length x.binds.length);have DB:Hid _:=B1.out.setCell (p:=⟨w.heap.size+1+1,0,none⟩) (by show w.heap.size≤w.heap.size+1+1; omega) (.slice (some ⟨C,0,none⟩) x.binds.length x.binds.length);have hCw2:C < (w1.setCell ⟨w.heap.size+1+1,0,none⟩ (.slice (some ⟨C,0,none⟩) x.binds.length x.binds.length)).heap.size:=DY.out.blk;clear K0 K1 K2 HY B1 hCw;go_wp2_with fail
 generalize w1.setCell ⟨w.heap.size+1+1,0,none⟩ (.slice (some ⟨C,0,none⟩) x.binds.length x.binds.length)=W5 at *;refine (HT.out _ DB.out).mono ?_;rintro e w6 ⟨rfl,q6,y6⟩;have E2:=D2.out.kept (by simp) q6;have E1:=D1.out.kept (by simp) q6;have EY:Hid _:=DY.out.kept q6;have EZ:Hid (SlLaid ssL 7 w6 W5.heap.size x.sess x.sess.length x.sess.length):=y6;have EB:Hid _:=DB.out.trans (q6.mono DB.out.size);clear q6 y6 b1 o0 f0;generalize W5.heap.size=D at *;obtain ⟨o0,o1⟩:=E2.c2;have f1:=E2.free (j:=1) (by simp);obtain ⟨r0,r1⟩:=E1.c2;obtain ⟨s0,s1⟩:=E1.f2;have R1:Hid (HoldsL _ (w.heap.size+1) (BbV (some ⟨C,0,none⟩) x.binds.length (some ⟨D,0,none⟩) x.sess.length x)):=((E1.setOther (C:=w.heap.size+1+1) (j:=1) (by omega) (.slice (some ⟨D,0,none⟩) x.sess.length x.sess.length)).set 0 (.slice (some ⟨C,0,none⟩) x.binds.length x.binds.length)).set 1 (.slice (some ⟨D,0,none⟩) x.sess.length x.sess.length);have RY:Hid _:=((EY.out.setOther (X:=w.heap.size+1+1) (o:=1) (by omega) (.slice (some ⟨D,0,none⟩) x.sess.length x.sess.length)).setOther (X:=w.heap.size+1) (o:=0) (by omega) (.slice (some ⟨C,0,none⟩) x.binds.length x.binds.length)).setOther (X:=w.heap.size+1) (o:=1) (by omega) (.slice (some ⟨D,0,none⟩) x.sess.length x.sess.length);have RZ:Hid _:=((EZ.out.setOther (X:=w.heap.size+1+1) (o:=1) (by omega) (.slice (some ⟨D,0,none⟩) x.sess.length x.sess.length)).setOther (X:=w.heap.size+1) (o:=0) (by omega) (.slice (some ⟨C,0,none⟩) x.binds.length x.binds.length)).setOther (X:=w.heap.size+1) (o:=1) (by omega) (.slice (some ⟨D,0,none⟩) x.sess.length x.sess.length);have RB:Hid _:=((EB.out.setCell (p:=⟨w.heap.size+1+1,1,none⟩) (by show w.heap.size≤w.heap.size+1+1; omega) (.slice (some ⟨D,0,none⟩) x.sess.length x.sess.length)).setCell (p:=⟨w.heap.size+1,0,none⟩) (by show w.heap.size≤w.heap.size+1; omega) (.slice (some ⟨C,0,none⟩) x.binds.length x.binds.length)).setCell (p:=⟨w.heap.size+1,1,none⟩) (by show w.heap.size≤w.heap.size+1; omega) (.slice (some ⟨D,0,none⟩) x.sess.length x.sess.length);clear E1 E2;go_wp2_with fail
 exact bodyPost_ret (results_mid Tryz.results11 _ _ (w.heap.size+1) (BbV (some ⟨C,0,none⟩) x.binds.length (some ⟨D,0,none⟩) x.sess.length x) _ rfl R1.out Tryz.underlying39 rfl (show (Tryz.prog.info? 39).map (·.size)=some 2 by kernel_rfl)) rfl ⟨⟨some ⟨C,0,none⟩,some ⟨D,0,none⟩,_,_,rfl,.inr ⟨C,rfl,by omega,RY.out⟩,.inr ⟨D,rfl,by omega,RZ.out⟩,fun g h e1 e2 _ _=>by injection e1 with e1; injection e2 with e2; injection e1 with e1 _; injection e2 with e2 _; omega⟩,RB.out⟩
theorem eqBib_same (x:Bb) (a1 b1 a2 b2:Option Addr) (ca1 cb1 ca2 cb2:Nat) (w:World) (hl1:x.binds.length≤1048576) (hl2:x.sess.length≤1048576) (h1:BbIs w a1 b1 x) (h2:BbIs w a2 b2 x) :
  Cb 16 #[bbC a1 b1 ca1 cb1 x,bbC a2 b2 ca2 cb2 x] w (.bool true):=by
 have HB:Hid (Below w.heap.size w ((w.alloc (.cells (BbV a1 ca1 b1 cb1 x).toArray 39)).alloc (.cells (BbV a2 ca2 b2 cb2 x).toArray 39))):=((Below.refl _ _).alloc (Nat.le_refl _) _).alloc (by simp) _;have H0:=(HoldsL.new w (BbV a1 ca1 b1 cb1 x) 39).alloc (.cells (BbV a2 ca2 b2 cb2 x).toArray 39);have H1:=HoldsL.new (w.alloc (.cells (BbV a1 ca1 b1 cb1 x).toArray 39)) (BbV a2 ca2 b2 cb2 x) 39;rw [World.size_alloc] at H1;have HS:Hid (∀ W,Below w.heap.size w W→Cb 40 #[.slice a1 x.binds.length ca1,.slice a2 x.binds.length ca2] W (.bool true)):=fun W hW=>eqBindS_same x.binds a1 a2 ca1 ca2 W hl1 (h1.bd.below hW) (h2.bd.below hW)
 have HT:Hid (∀ W,Below w.heap.size w W→Cb 41 #[.slice b1 x.sess.length cb1,.slice b2 x.sess.length cb2] W (.bool true)):=fun W hW=>eqSessionS_same x.sess b1 b2 cb1 cb2 W hl2 (h1.ss.below hW) (h2.ss.below hW)
 have G0:Hid _:=H0;have G1:Hid _:=H1;unfold bbC;clear h1 h2 H0 H1;go_enter Tryz.func16,Tryz.ntmps16
 go_upto_region 1 with fail
 generalize (w.alloc (.cells (BbV a1 ca1 b1 cb1 x).toArray 39)).alloc (.cells (BbV a2 ca2 b2 cb2 x).toArray 39)=W2 at *;have k0:=G0.out.cell (j:=0) rfl;have k1:=G1.out.cell (j:=0) rfl;go_wp2_with fail
 refine (HS.out _ HB.out).mono ?_;rintro e w1 ⟨rfl,q1⟩;have B1:Hid _:=HB.out.trans (q1.mono HB.out.size);have c1:w1.cell? ⟨w.heap.size,1,none⟩=some (.slice b1 x.sess.length cb1):=(G0.out.kept (by simp) q1).cell rfl;have d1:w1.cell? ⟨w.heap.size+1,1,none⟩=some (.slice b2 x.sess.length cb2):=(G1.out.kept (by simp) q1).cell rfl;clear q1 k0 k1;go_wp2_with fail
 refine (HT.out _ B1.out).mono ?_;rintro e w2 ⟨rfl,q2⟩;have B2:Hid _:=B1.out.trans (q2.mono B1.out.size);clear q2;go_wp2_with fail
 go_ret;exact ⟨rfl,B2.out⟩
section
variable {α:Type} {en:α→List Value} {n:Nat} {w W:World}
theorem SlLaid.grownNe {B X:Nat} {xs:List α} {L k:Nat} (h:SlLaid en n w B xs L k) (hg:w.grownBy W (some X)) (hne:B≠X):SlLaid en n W B xs L k:=by
 have hb:W.heap[B]?=w.heap[B]?:=hg.block B h.blk (fun e=>hne (by injection e));have hc:∀ o,W.cell? ⟨B,o,none⟩=w.cell? ⟨B,o,none⟩:=fun o=>by unfold World.cell?; rw [show (⟨B,o,none⟩ : Addr).block=B from rfl,hb]
 have hf:∀ o,W.frozen? ⟨B,o,none⟩=w.frozen? ⟨B,o,none⟩:=fun o=>World.frozen?_of_block (a:=⟨B,o,none⟩) hb
 exact ⟨Nat.lt_of_lt_of_le h.blk hg.size,fun i hi hk j v hv=>(hc _).trans (h.at0 i hi hk j v hv),fun i hi=>by rw [hc]; exact h.there i hi,fun i hi=>by rw [hf]; exact h.free i hi⟩
end
structure BbMk (base:Nat) (w:World) (a b:Option Addr) (k nb ns:Nat):Prop where
 bd:MkOwn 5 bindM base w a k nb
 ss:MkOwn 7 sessionM base w b (k+5*nb) ns
theorem BbMk.kept {base:Nat} {w W:World} {a b:Option Addr} {k nb ns:Nat} (h:BbMk base w a b k nb ns) (hB:Below w.heap.size w W):BbMk base W a b k nb ns:=⟨h.bd.kept hB,h.ss.kept hB⟩
theorem heldBib_own (base nb ns:Nat) (a b:Option Addr) (ca cb k:Nat) (w:World) (hk:0 < k) (hL:k+5*nb+7*ns≤1073741824) (hs:BbMk base w a b k nb ns) :
  Cb 45 #[.agg #[.slice a nb ca,.slice b ns cb],iV k] w (iV ((k+5*nb+7*ns:Nat):Int)):=by
 have GA:Hid (Below w.heap.size w (w.alloc (.cells #[.slice a nb ca,.slice b ns cb] 39))):=(Below.refl _ _).alloc (Nat.le_refl _) _;have HM:Hid (∀ W,Below w.heap.size w W→Cb 67 #[.slice a nb ca,iV k] W (iV ((k+5*nb:Nat):Int))):=fun W hW=>heldBindS_own base nb a ca k W hk (by omega) (hs.kept hW).bd
 have HN:Hid (∀ W,Below w.heap.size w W→Cb 68 #[.slice b ns cb,iV ((k+5*nb:Nat):Int)] W (iV ((k+5*nb+7*ns:Nat):Int))):=fun W hW=>heldSessionS_own base ns b cb (k+5*nb) W (by omega) hL (hs.kept hW).ss
 have H0:Hid _:=HoldsL.new w [.slice a nb ca,.slice b ns cb] 39;obtain ⟨k1,hk1⟩ : ∃ k1,k1=k+5*nb:=⟨_,rfl⟩;rw [← hk1] at HM HN hL ⊢;obtain ⟨k2,hk2⟩ : ∃ k2,k2=k1+7*ns:=⟨_,rfl⟩;rw [← hk2] at HN hL ⊢;have h1:0 < k1:=by omega
 have h2:0 < k2:=by omega
 have h3:k1≤1073741824:=by omega
 clear hk1 hk2 hs;go_enter Tryz.func45,Tryz.ntmps45
 go_wp2_with fail
 refine (HM.out _ GA.out).mono ?_;rintro e w1 ⟨rfl,q1⟩;have G1:Hid _:=GA.out.trans (q1.mono GA.out.size);have c1:w1.cell? ⟨w.heap.size,1,none⟩=some (.slice b ns cb):=(H0.out.kept (by simp) q1).cell rfl;clear q1;go_wp2_with fail
 refine (HN.out _ G1.out).mono ?_;rintro e w2 ⟨rfl,q2⟩;have G2:Hid _:=G1.out.trans (q2.mono G1.out.size);clear q2;go_wp2_with fail
 go_ret;exact ⟨rfl,G2.out⟩
structure Bo where
 bib:Bb
 bind:Bd
 code:Int
def boC (a b:Option Addr) (ca cb:Nat) (o:Bo):Value:=.agg #[.slice a o.bib.binds.length ca,.slice b o.bib.sess.length cb,iV o.bind.proto,.string o.bind.inn,iV o.bind.inPort,.string o.bind.out,iV o.bind.outPort,iV o.code]
def BoRet (base:Nat) (o:Bo) (e:Ending) (w:World):Prop:=∃ a b ca cb,e=.returned (boC a b ca cb o)∧BbOwn base w a b o.bib
end Go.Proofs.YtcckaeppiamebaaGreatDoor
namespace Go.Proofs.YtcckaeppiamebaaGreatDoor
open Go.RowKit Go.ChangeShapes
section
variable {P:Program} {ops:Array Oper} {Q:Exit→Act→World→Prop} {ds:List Tmp} {R:Nat→Value→World→Prop} {a0:Act} {w0:World}
def GStepG (P:Program) (ops:Array Oper) (Q:Exit→Act→World→Prop) (ds:List Tmp) (R:Nat→Value→World→Prop) (a0:Act) (w0:World) (i:Nat) (o:Oper):Prop :=
 ∀ (K':Act→World→Prop) (a:Act) (w:World),(∀ t,t ∉ ds→slot a t=slot a0 t)→(∀ e∈o.after,Region.binds .any e=true→R e.on (slot a (ds.getD e.on 0)) w) →
  Below w0.heap.size w0 w→(∀ v w',R i v w'→Below w.heap.size w w'→K' (a.put o.dst v) w')→if Region.wanted o (yielded ops a.tmps)=true then Oper.wp P o a w K' Q else K' (a.put o.dst undef) w
structure GFormG (ops:Array Oper) (ds:List Tmp) (n:Nat):Prop where
 len:ds.length=ops.size
 dst:∀ i o,ops[i]?=some o→o.dst=some (ds.getD i 0)
 nodup:ds.Nodup
 fits:∀ d∈ds,d < n
 topo:∀ i o,ops[i]?=some o→∀ e∈o.after,Region.binds .any e=true→e.on < i
def gformG (ops:Array Oper) (ds:List Tmp) (n:Nat):Bool :=
 decide (ds.length=ops.size)&&(List.range ops.size).all (fun i=>match ops[i]? with
  | some o=>(match o.dst with | some d=>d==ds.getD i 0 | none=>false)&&o.after.all (fun e=>!Region.binds .any e||decide (e.on < i))
  | none=>true)&&decide ds.Nodup&&ds.all (fun d=>decide (d < n))
theorem GFormG.of {n:Nat} (h:gformG ops ds n=true):GFormG ops ds n:=by
 unfold gformG at h;simp only [Bool.and_eq_true,decide_eq_true_iff,List.all_eq_true,List.mem_range] at h;obtain ⟨⟨⟨h1,h2⟩,h3⟩,h4⟩:=h;have hb:∀ i o,ops[i]?=some o→i < ops.size:=fun i o ho=>(Array.getElem?_eq_some_iff.1 ho).1
 refine ⟨h1,fun i o ho=>?_,h3,h4,fun i o ho e he hbd=>?_⟩
 ·have:=h2 i (hb i o ho);rw [ho] at this;simp only [Bool.and_eq_true] at this;obtain ⟨t1,_⟩:=this
  cases hd:o.dst with
  | none=>rw [hd] at t1; simp at t1
  | some d=>rw [hd] at t1; simp at t1; rw [t1]; simp
 ·have:=h2 i (hb i o ho);rw [ho] at this;simp only [Bool.and_eq_true] at this;obtain ⟨_,t3⟩:=this;have:=Array.all_eq_true_iff_forall_mem.1 t3 e he;simp [hbd] at this;exact this
theorem wpAny_growG (hF:GFormG ops ds a0.tmps.size) (hst:∀ i v w w',R i v w→Below w.heap.size w w'→R i v w')
  (hstep:∀ i o,ops[i]?=some o→GStepG P ops Q ds R a0 w0 i o)
  (hdone:∀ a w,a.tmps.size=a0.tmps.size→a.defers=a0.defers→(∀ t,t ∉ ds→slot a t=slot a0 t)→(∀ i,i < ops.size→R i (slot a (ds.getD i 0)) w)→Below w0.heap.size w0 w→Q .normal a w) :
  ∀ (fuel:Nat) (listed:Array Bool) (a:Act) (w:World),unl listed ops.size≤fuel→GInv ops ds R a0 w0 listed a w→wpAny P .any ops Q fuel listed a w:=by
 have hall:∀ (listed:Array Bool) (a:Act) (w:World),GInv ops ds R a0 w0 listed a w→Region.ready .any ops listed=[]→Q .normal a w:=by
  intro listed a w hI hr;refine hdone a w hI.tsize hI.defers hI.outer (fun i hi=>hI.inner i ?_) hI.below;have key:∀ i,i < ops.size→listed.getD i false=true:=by
   intro i;induction i using Nat.strongRecOn with
   | ind i ih =>
    intro hi;have hsz:=hI.size;by_cases hh:listed.getD i true=true
    ·have hlt:i < listed.size:=by omega
     simpa [hlt] using hh
    ·exfalso
     have hmem:i∈Region.ready .any ops listed:=by
      rw [mem_ready];refine ⟨by simpa using hh,ops[i],by simp [hi],fun e he hb=>?_⟩;have hlt:=hF.topo i ops[i] (by simp [hi]) e he hb;exact ih _ hlt (by omega)
     rw [hr] at hmem;simp at hmem
  exact key i hi
 intro fuel;induction fuel with
 | zero =>
  intro listed a w hu hI;have hr:Region.ready .any ops listed=[]:=by
   rw [List.eq_nil_iff_forall_not_mem];intro i hi;rw [mem_ready] at hi;obtain ⟨h0,o,ho,_⟩:=hi;have:=unl_zero (listed:=listed) ops.size (by omega) i (Array.getElem?_eq_some_iff.1 ho).1;rw [h0] at this;simp at this
  exact ⟨hr,hall listed a w hI hr⟩
 | succ fuel ih =>
  intro listed a w hu hI;refine ⟨fun hr=>hall listed a w hI hr,fun i hi=>?_⟩;rw [mem_ready] at hi;obtain ⟨h0,o,ho,hdeps⟩:=hi;have hi:i < ops.size:=(Array.getElem?_eq_some_iff.1 ho).1;have hd:=hF.dst i o ho;have hil:i < ds.length:=by rw [hF.len]; exact hi
  have hmem:ds.getD i 0∈ds:=by rw [getD_at hil]; exact List.getElem_mem hil
  refine wpOp_step ho (fun K' hK=>?_);refine hstep i o ho K' a w hI.outer (fun e he hb=>hI.inner _ (hdeps e he hb)) hI.below (fun v w' hR hB=>hK _ _ ?_);refine ih _ _ _ (by have:=unl_set h0 ops.size hi; omega) ⟨by simp [hI.size],?_,?_,fun t ht=>?_,fun j hj=>?_,hI.below.trans (hB.mono hI.below.size)⟩
  ·rw [hd]; simp [Act.put,hI.tsize]
  ·rw [hd]; simp [Act.put,hI.defers]
  ·rw [hd,slot_put_ne (show ds.getD i 0≠t from fun e=>ht (e ▸ hmem))]; exact hI.outer t ht
  ·rw [hd];by_cases e:i=j
   ·subst e;rw [slot_put_eq (by rw [hI.tsize]; exact hF.fits _ hmem)];exact hR
   ·rw [getD_set_ne false e] at hj;have hjl:j < ds.length:=by
     rw [hF.len,← hI.size];rcases Nat.lt_or_ge j listed.size with h' | h'
     ·exact h'
     ·simp [Array.getElem?_eq_none h'] at hj
    rw [slot_put_ne (nodup_ne hF.nodup hil hjl e)];exact hst _ _ _ _ (hI.inner j hj) hB
theorem wp_region_growG0 {id:Nat} (hm:P.follows .mixedOrders=true) (hF:GFormG ops ds a0.tmps.size) (hst:∀ i v w w',R i v w→Below w.heap.size w w'→R i v w')
  (hstep:∀ i o,ops[i]?=some o→GStepG P ops Q ds R a0 w0.drew i o)
  (hdone:∀ a w,a.tmps.size=a0.tmps.size→a.defers=a0.defers→(∀ t,t ∉ ds→slot a t=slot a0 t)→(∀ i,i < ops.size→R i (slot a (ds.getD i 0)) w)→Below w0.drew.heap.size w0.drew w→Q .normal a w) :
  (Code.region id ops true).wp P Q a0 w0:=by
 refine wp_region_any hm (wpAny_growG (w0:=w0.drew) hF hst hstep hdone ops.size _ a0 w0.drew (unl_le _ _) ⟨by simp,rfl,rfl,fun _ _=>rfl,fun i hi=>?_,Below.refl _ _⟩);exfalso
 by_cases h:i < ops.size
 ·simp [h] at hi
 ·simp [h] at hi
def GStepsG (P:Program) (ops:Array Oper) (Q:Exit→Act→World→Prop) (ds:List Tmp) (R:Nat→Value→World→Prop) (a0:Act) (w0:World):Nat→List Oper→Prop
 | _,[]=>True
 | n,o::l=>GStepG P ops Q ds R a0 w0 n o∧GStepsG P ops Q ds R a0 w0 (n+1) l
theorem GStepsG.at':∀ (l:List Oper) (n:Nat),GStepsG P ops Q ds R a0 w0 n l→∀ i o,l[i]?=some o→GStepG P ops Q ds R a0 w0 (n+i) o
 | [],_,_,i,o,h=>by simp at h
 | p::l,n,hs,0,o,h=>by simp at h; subst h; exact hs.1
 | p::l,n,hs,i+1,o,h=>by
  have:=GStepsG.at' l (n+1) hs.2 i o (by simpa using h);rwa [show n+1+i=n+(i+1) by omega] at this
end
theorem yielded_of {ops:Array Oper} {a:Act} {j d:Nat} {o:Oper} {b:Bool} (ho:ops[j]?=some o) (hd:o.dst=some d) (hs:slot a d=.bool b):yielded ops a.tmps j=some b:=by
 unfold yielded;rw [ho];simp only [Option.bind_some,hd];unfold slot at hs;by_cases h:d < a.tmps.size
 ·simp [h] at hs ⊢; rw [hs]
 ·simp [h,undef] at hs
theorem wanted_of {ops:Array Oper} {a:Act} {o:Oper} {j d:Nat} {oj:Oper} {b want:Bool} (hg:o.guard=some (j,want)) (ho:ops[j]?=some oj) (hd:oj.dst=some d) (hs:slot a d=.bool b):Region.wanted o (yielded ops a.tmps)=(b==want):=by
 unfold Region.wanted;rw [hg];show (yielded ops a.tmps j==some want)=_;rw [yielded_of ho hd hs]
 cases b<;>cases want<;>rfl
theorem wants {ops:Array Oper} {a:Act} {o:Oper} (j d:Nat) {oj:Oper} (b want:Bool) {A B:Prop} (hg:o.guard=some (j,want)) (ho:ops[j]?=some oj) (hd:oj.dst=some d) (hs:slot a d=.bool b) (hb:(b==want)=true) (h:A):if Region.wanted o (yielded ops a.tmps)=true then A else B:=by
 rw [wanted_of hg ho hd hs,if_pos hb]; exact h
theorem wantsN {ops:Array Oper} {a:Act} {o:Oper} (j d:Nat) {oj:Oper} (b want:Bool) {A B:Prop} (hg:o.guard=some (j,want)) (ho:ops[j]?=some oj) (hd:oj.dst=some d) (hs:slot a d=.bool b) (hb:(b==want)=false) (h:B):if Region.wanted o (yielded ops a.tmps)=true then A else B:=by
 rw [wanted_of hg ho hd hs,if_neg (by rw [hb]; decide)]; exact h
theorem wanted_none {ops:Array Oper} {a:Act} {o:Oper} (hg:o.guard=none):Region.wanted o (yielded ops a.tmps)=true:=by unfold Region.wanted; rw [hg]
section
variable {P:Program} {ops:Array Oper} {Q:Exit→Act→World→Prop} {ds:List Tmp} {a0:Act} {w0:World}
theorem rAt_left {Rs Ss:List (Value→World→Prop)} {i:Nat} (h:i < Rs.length):rAt (Rs++Ss) i=rAt Rs i:=by
 unfold rAt;simp [List.getElem?_append_left h]
theorem GStepG.congr {R R':Nat→Value→World→Prop} {i:Nat} {o:Oper} (ht:∀ e∈o.after,Region.binds .any e=true→e.on < i) (h:∀ j,j≤i→R j=R' j) (hs:GStepG P ops Q ds R a0 w0 i o):GStepG P ops Q ds R' a0 w0 i o:=by
 intro K' a w ho hd hb hK;refine hs K' a w ho (fun e he hbd=>?_) hb (fun v w' hr=>?_)
 ·rw [h e.on (Nat.le_of_lt (ht e he hbd))]; exact hd e he hbd
 ·rw [h i (Nat.le_refl _)] at hr; exact hK v w' hr
def GCh (P:Program) (ops:Array Oper) (Q:Exit→Act→World→Prop) (ds:List Tmp) (a0:Act) (w0:World):List (Value→World→Prop)→List Oper→Prop
 | Rs,[]=>∀ (X:Nat→Value) w,RAll X w 0 Rs→Below w0.heap.size w0 w→Q .normal (putsFrom X a0 0 ds) w
 | Rs,o::l=>∃ r,Stable r∧GStepG P ops Q ds (rAt (Rs++[r])) a0 w0 Rs.length o∧GCh P ops Q ds a0 w0 (Rs++[r]) l
theorem GCh.all:∀ (l:List Oper) (Rs:List (Value→World→Prop)),(∀ i o,l[i]?=some o→∀ e∈o.after,Region.binds .any e=true→e.on < Rs.length+i)→(∀ r∈Rs,Stable r)→GCh P ops Q ds a0 w0 Rs l →
  ∃ Ss,(Rs++Ss).length=Rs.length+l.length∧(∀ r∈Rs++Ss,Stable r)∧(∀ i o,l[i]?=some o→GStepG P ops Q ds (rAt (Rs++Ss)) a0 w0 (Rs.length+i) o)∧(∀ (X:Nat→Value) w,RAll X w 0 (Rs++Ss)→Below w0.heap.size w0 w→Q .normal (putsFrom X a0 0 ds) w)
 | [],Rs,_,hst,h=>⟨[],by simp,by simpa using hst,fun i o ho=>by simp at ho,by rw [List.append_nil]; exact h⟩
 | o::l,Rs,ht,hst,⟨r,hr,hs,hc⟩=>by
  obtain ⟨Ss,h1,h2,h3,h4⟩:=GCh.all l (Rs++[r]) (fun i o' ho e he hb=>by
   have:=ht (i+1) o' (by simpa using ho) e he hb;simp; omega) (fun x hx=>by
   rcases List.mem_append.1 hx with hx | hx
   ·exact hst x hx
   ·simp at hx; subst hx; exact hr) hc
  refine ⟨r::Ss,by simp at h1 ⊢; omega,by simpa using h2,fun i o' ho=>?_,by simpa using h4⟩;have e:Rs++r::Ss=Rs++[r]++Ss:=by simp
  rw [e]
  cases i with
  | zero =>
   simp at ho;subst ho;refine GStepG.congr (ht 0 o rfl) (fun j hj=>?_) hs;exact (rAt_left (by simp; omega)).symm
  | succ i =>
   have:=h3 i o' (by simpa using ho);rwa [show (Rs++[r]).length+i=Rs.length+(i+1) by simp; omega] at this
theorem wp_region_growH {id:Nat} (ds:List Tmp) (hm:P.follows .mixedOrders=true) (hF:gformG ops ds a0.tmps.size=true) (h:GCh P ops Q ds a0 w0.drew [] ops.toList) :
  (Code.region id ops true).wp P Q a0 w0:=by
 have hG:=GFormG.of hF;obtain ⟨Ss,h1,h2,h3,h4⟩:=GCh.all ops.toList [] (fun i o ho e he hb=>by
  have:=hG.topo i o (by simpa using ho) e he hb;simpa using this) (fun r hr=>by simp at hr) h
 simp only [List.nil_append,List.length_nil,Nat.zero_add] at h1 h2 h3 h4;refine wp_region_growG0 (ds:=ds) (R:=rAt Ss) hm hG (fun i v w w' h hb=>?_) (fun i o ho=>?_) (fun a w g1 g2 g3 g4 g5=>?_)
 ·unfold rAt at *;by_cases hi:i < Ss.length
  ·have e:Ss.getD i (fun _ _=>True)=Ss[i]:=by simp [hi]
   rw [e] at h ⊢;exact h2 _ (List.getElem_mem hi) v w w' h hb
  ·have e:Ss.getD i (fun _ _=>True)=fun _ _=>True:=by simp [Nat.le_of_not_lt hi]
   rw [e]; trivial
 ·exact h3 i o (by simpa using ho)
 ·have hp:putsFrom (fun i=>slot a (ds.getD i 0)) a0 0 ds=a:=puts_eq ds a0 0 g1.symm g2.symm (fun i _=>by rw [Nat.zero_add]) (fun t ht=>(g3 t ht).symm) (fun d hd=>by rw [g1]; exact hG.fits d hd);rw [← hp];exact h4 (fun i=>slot a (ds.getD i 0)) w (RAll.mk Ss 0 (fun i hi=>by rw [Nat.zero_add]; exact g4 i (by rw [← Array.length_toList,← h1]; exact hi))) g5
theorem GCh.val {Rs:List (Value→World→Prop)} {n:Nat} {o:Oper} {l:List Oper} (Rs':Value→List (Value→World→Prop)) (hR:∀ v,Rs' v=Rs++[IsV v]) (hn:Rs.length=n) (h:∃ v,GStepG P ops Q ds (rAt (Rs' v)) a0 w0 n o∧GCh P ops Q ds a0 w0 (Rs' v) l):GCh P ops Q ds a0 w0 Rs (o::l):=by
 obtain ⟨v,h1,h2⟩:=h;rw [hR] at h1 h2;subst hn;exact ⟨IsV v,stable_isV v,h1,h2⟩
theorem GCh.rel {Rs:List (Value→World→Prop)} {n:Nat} {o:Oper} {l:List Oper} (r:Value→World→Prop) (hr:Stable r) (Rs':List (Value→World→Prop)) (hR:Rs'=Rs++[r]) (hn:Rs.length=n) (h1:GStepG P ops Q ds (rAt Rs') a0 w0 n o) (h2:GCh P ops Q ds a0 w0 Rs' l):GCh P ops Q ds a0 w0 Rs (o::l):=by
 subst hR hn;exact ⟨r,hr,h1,h2⟩
def GW (P:Program) (Q:Exit→Act→World→Prop) (ds:List Tmp) (Rs:List (Value→World→Prop)) (a0:Act) (w0:World) (i:Nat) (o:Oper):Prop :=
 ∀ (K':Act→World→Prop) (a:Act) (w:World),(∀ t,t ∉ ds→slot a t=slot a0 t)→(∀ e∈o.after,Region.binds .any e=true→rAt Rs e.on (slot a (ds.getD e.on 0)) w) →
  Below w0.heap.size w0 w→(∀ v w',rAt Rs i v w'→Below w.heap.size w w'→K' (a.put o.dst v) w')→(∀ v,rAt Rs i v w→K' (a.put o.dst v) w)→Oper.wp P o a w K' Q
theorem GW.step {Rs:List (Value→World→Prop)} {i:Nat} {o:Oper} (hg:o.guard=none) (h:GW P Q ds Rs a0 w0 i o):GStepG P ops Q ds (rAt Rs) a0 w0 i o:=fun K' a w ho hd hb hK=>by
 rw [if_pos (wanted_none hg)];exact h K' a w ho hd hb hK (fun v hv=>hK v w hv (Below.refl _ _))
theorem GCh.vv {Rs Rs':List (Value→World→Prop)} {n:Nat} {o:Oper} {l:List Oper} {v:Value} (hR:Rs'=Rs++[IsV v]) (hn:Rs.length=n) (hg:o.guard=none) (h1:GW P Q ds Rs' a0 w0 n o) (h2:GCh P ops Q ds a0 w0 Rs' l):GCh P ops Q ds a0 w0 Rs (o::l):=by
 subst hR hn;exact ⟨IsV v,stable_isV v,h1.step hg,h2⟩
variable {R0 R1 R2 R3 R4 R5 R6 R7 R8 R9 R10 R11 R12 R13 R14 R15 R16 R17 R18 R19 R20 R21 R22 R23 R24 R25 R26 R27 R28 R29 R30 R31 R32 R33 R34 R35 R36 R37 R38 R39 R40 R41 R42 R43 R44 R45:Value→World→Prop} {o:Oper} {l:List Oper} {v:Value}
theorem GCh.v0 (hg:o.guard=none) (h1:GW P Q ds [IsV v] a0 w0 0 o) (h2:GCh P ops Q ds a0 w0 [IsV v] l):GCh P ops Q ds a0 w0 [] (o::l):=.vv rfl rfl hg h1 h2
theorem GCh.v1 (hg:o.guard=none) (h1:GW P Q ds [R0,IsV v] a0 w0 1 o) (h2:GCh P ops Q ds a0 w0 [R0,IsV v] l):GCh P ops Q ds a0 w0 [R0] (o::l):=.vv rfl rfl hg h1 h2
theorem GCh.v2 (hg:o.guard=none) (h1:GW P Q ds [R0,R1,IsV v] a0 w0 2 o) (h2:GCh P ops Q ds a0 w0 [R0,R1,IsV v] l):GCh P ops Q ds a0 w0 [R0,R1] (o::l):=.vv rfl rfl hg h1 h2
theorem GCh.v3 (hg:o.guard=none) (h1:GW P Q ds [R0,R1,R2,IsV v] a0 w0 3 o) (h2:GCh P ops Q ds a0 w0 [R0,R1,R2,IsV v] l):GCh P ops Q ds a0 w0 [R0,R1,R2] (o::l):=.vv rfl rfl hg h1 h2
theorem GCh.v4 (hg:o.guard=none) (h1:GW P Q ds [R0,R1,R2,R3,IsV v] a0 w0 4 o) (h2:GCh P ops Q ds a0 w0 [R0,R1,R2,R3,IsV v] l):GCh P ops Q ds a0 w0 [R0,R1,R2,R3] (o::l):=.vv rfl rfl hg h1 h2
theorem GCh.v5 (hg:o.guard=none) (h1:GW P Q ds [R0,R1,R2,R3,R4,IsV v] a0 w0 5 o) (h2:GCh P ops Q ds a0 w0 [R0,R1,R2,R3,R4,IsV v] l):GCh P ops Q ds a0 w0 [R0,R1,R2,R3,R4] (o::l):=.vv rfl rfl hg h1 h2
theorem GCh.v6 (hg:o.guard=none) (h1:GW P Q ds [R0,R1,R2,R3,R4,R5,IsV v] a0 w0 6 o) (h2:GCh P ops Q ds a0 w0 [R0,R1,R2,R3,R4,R5,IsV v] l):GCh P ops Q ds a0 w0 [R0,R1,R2,R3,R4,R5] (o::l):=.vv rfl rfl hg h1 h2
theorem GCh.v7 (hg:o.guard=none) (h1:GW P Q ds [R0,R1,R2,R3,R4,R5,R6,IsV v] a0 w0 7 o) (h2:GCh P ops Q ds a0 w0 [R0,R1,R2,R3,R4,R5,R6,IsV v] l):GCh P ops Q ds a0 w0 [R0,R1,R2,R3,R4,R5,R6] (o::l):=.vv rfl rfl hg h1 h2
theorem GCh.v8 (hg:o.guard=none) (h1:GW P Q ds [R0,R1,R2,R3,R4,R5,R6,R7,IsV v] a0 w0 8 o) (h2:GCh P ops Q ds a0 w0 [R0,R1,R2,R3,R4,R5,R6,R7,IsV v] l):GCh P ops Q ds a0 w0 [R0,R1,R2,R3,R4,R5,R6,R7] (o::l):=.vv rfl rfl hg h1 h2
theorem GCh.v9 (hg:o.guard=none) (h1:GW P Q ds [R0,R1,R2,R3,R4,R5,R6,R7,R8,IsV v] a0 w0 9 o) (h2:GCh P ops Q ds a0 w0 [R0,R1,R2,R3,R4,R5,R6,R7,R8,IsV v] l):GCh P ops Q ds a0 w0 [R0,R1,R2,R3,R4,R5,R6,R7,R8] (o::l):=.vv rfl rfl hg h1 h2
theorem GCh.v10 (hg:o.guard=none) (h1:GW P Q ds [R0,R1,R2,R3,R4,R5,R6,R7,R8,R9,IsV v] a0 w0 10 o) (h2:GCh P ops Q ds a0 w0 [R0,R1,R2,R3,R4,R5,R6,R7,R8,R9,IsV v] l):GCh P ops Q ds a0 w0 [R0,R1,R2,R3,R4,R5,R6,R7,R8,R9] (o::l):=.vv rfl rfl hg h1 h2
theorem GCh.v11 (hg:o.guard=none) (h1:GW P Q ds [R0,R1,R2,R3,R4,R5,R6,R7,R8,R9,R10,IsV v] a0 w0 11 o) (h2:GCh P ops Q ds a0 w0 [R0,R1,R2,R3,R4,R5,R6,R7,R8,R9,R10,IsV v] l):GCh P ops Q ds a0 w0 [R0,R1,R2,R3,R4,R5,R6,R7,R8,R9,R10] (o::l):=.vv rfl rfl hg h1 h2
theorem GCh.v12 (hg:o.guard=none) (h1:GW P Q ds [R0,R1,R2,R3,R4,R5,R6,R7,R8,R9,R10,R11,IsV v] a0 w0 12 o) (h2:GCh P ops Q ds a0 w0 [R0,R1,R2,R3,R4,R5,R6,R7,R8,R9,R10,R11,IsV v] l):GCh P ops Q ds a0 w0 [R0,R1,R2,R3,R4,R5,R6,R7,R8,R9,R10,R11] (o::l):=.vv rfl rfl hg h1 h2
theorem GCh.v13 (hg:o.guard=none) (h1:GW P Q ds [R0,R1,R2,R3,R4,R5,R6,R7,R8,R9,R10,R11,R12,IsV v] a0 w0 13 o) (h2:GCh P ops Q ds a0 w0 [R0,R1,R2,R3,R4,R5,R6,R7,R8,R9,R10,R11,R12,IsV v] l):GCh P ops Q ds a0 w0 [R0,R1,R2,R3,R4,R5,R6,R7,R8,R9,R10,R11,R12] (o::l):=.vv rfl rfl hg h1 h2
theorem GCh.v15 (hg:o.guard=none) (h1:GW P Q ds [R0,R1,R2,R3,R4,R5,R6,R7,R8,R9,R10,R11,R12,R13,R14,IsV v] a0 w0 15 o) (h2:GCh P ops Q ds a0 w0 [R0,R1,R2,R3,R4,R5,R6,R7,R8,R9,R10,R11,R12,R13,R14,IsV v] l):GCh P ops Q ds a0 w0 [R0,R1,R2,R3,R4,R5,R6,R7,R8,R9,R10,R11,R12,R13,R14] (o::l):=.vv rfl rfl hg h1 h2
theorem GCh.v16 (hg:o.guard=none) (h1:GW P Q ds [R0,R1,R2,R3,R4,R5,R6,R7,R8,R9,R10,R11,R12,R13,R14,R15,IsV v] a0 w0 16 o) (h2:GCh P ops Q ds a0 w0 [R0,R1,R2,R3,R4,R5,R6,R7,R8,R9,R10,R11,R12,R13,R14,R15,IsV v] l):GCh P ops Q ds a0 w0 [R0,R1,R2,R3,R4,R5,R6,R7,R8,R9,R10,R11,R12,R13,R14,R15] (o::l):=.vv rfl rfl hg h1 h2
theorem GCh.v18 (hg:o.guard=none) (h1:GW P Q ds [R0,R1,R2,R3,R4,R5,R6,R7,R8,R9,R10,R11,R12,R13,R14,R15,R16,R17,IsV v] a0 w0 18 o) (h2:GCh P ops Q ds a0 w0 [R0,R1,R2,R3,R4,R5,R6,R7,R8,R9,R10,R11,R12,R13,R14,R15,R16,R17,IsV v] l):GCh P ops Q ds a0 w0 [R0,R1,R2,R3,R4,R5,R6,R7,R8,R9,R10,R11,R12,R13,R14,R15,R16,R17] (o::l):=.vv rfl rfl hg h1 h2
theorem GCh.v23 (hg:o.guard=none) (h1:GW P Q ds [R0,R1,R2,R3,R4,R5,R6,R7,R8,R9,R10,R11,R12,R13,R14,R15,R16,R17,R18,R19,R20,R21,R22,IsV v] a0 w0 23 o) (h2:GCh P ops Q ds a0 w0 [R0,R1,R2,R3,R4,R5,R6,R7,R8,R9,R10,R11,R12,R13,R14,R15,R16,R17,R18,R19,R20,R21,R22,IsV v] l):GCh P ops Q ds a0 w0 [R0,R1,R2,R3,R4,R5,R6,R7,R8,R9,R10,R11,R12,R13,R14,R15,R16,R17,R18,R19,R20,R21,R22] (o::l):=.vv rfl rfl hg h1 h2
end
section
variable {P:Program} {ops:Array Oper} {Q:Exit→Act→World→Prop} {ds:List Tmp} {R:Nat→Value→World→Prop} {a0:Act} {w0:World}
def wpSeq (P:Program) (Q:Exit→Act→World→Prop):List Oper→Act→World→Prop
 | [],a,w=>Q .normal a w
 | o::l,a,w=>∀ K':Act→World→Prop,(∀ a' w',wpSeq P Q l a' w'→K' a' w')→Oper.wp P o a w K' Q
structure GFormV (ops:Array Oper) (ds:List Tmp) (n:Nat):Prop where
 le:ds.length < ops.size
 dst:∀ i o,i < ds.length→ops[i]?=some o→o.dst=some (ds.getD i 0)
 nodup:ds.Nodup
 fits:∀ d∈ds,d < n
 topo:∀ i o,ops[i]?=some o→∀ e∈o.after,Region.binds .any e=true→e.on < i
 sguard:∀ i o,ds.length≤i→ops[i]?=some o→o.guard=none
 swait:∀ i o,ds.length < i→ops[i]?=some o→∃ e∈o.after,Region.binds .any e=true∧e.on=i-1
 lall:∀ j,j < ds.length→∃ i o,j < i∧i≤ds.length∧ops[i]?=some o∧∃ e∈o.after,Region.binds .any e=true∧e.on=j
def gformV (ops:Array Oper) (ds:List Tmp) (n:Nat):Bool :=
 decide (ds.length < ops.size)&&(List.range ops.size).all (fun i=>match ops[i]? with
  | some o=>o.after.all (fun e=>!Region.binds .any e||decide (e.on < i))&&(if i < ds.length then (match o.dst with | some d=>d==ds.getD i 0 | none=>false) else o.guard.isNone)&&(if ds.length < i then o.after.any (fun e=>Region.binds .any e&&e.on==i-1) else true)
  | none=>true)&&decide ds.Nodup&&ds.all (fun d=>decide (d < n)) &&
 (List.range ds.length).all (fun j=>(List.range (ds.length+1)).any (fun i=>decide (j < i)&&match ops[i]? with | some o=>o.after.any (fun e=>Region.binds .any e&&e.on==j) | none=>false))
theorem GFormV.of {n:Nat} (h:gformV ops ds n=true):GFormV ops ds n:=by
 unfold gformV at h;simp only [Bool.and_eq_true,decide_eq_true_iff,List.all_eq_true,List.mem_range] at h;obtain ⟨⟨⟨⟨h1,h2⟩,h3⟩,h4⟩,h5⟩:=h;have hb:∀ i o,ops[i]?=some o→i < ops.size:=fun i o ho=>(Array.getElem?_eq_some_iff.1 ho).1
 refine ⟨h1,fun i o hi ho=>?_,h3,h4,fun i o ho e he hbd=>?_,fun i o hi ho=>?_,fun i o hi ho=>?_,fun j hj=>?_⟩
 ·have:=h2 i (hb i o ho);rw [ho] at this;simp only [Bool.and_eq_true,if_pos hi] at this;have t1:=this.1.2
  cases hd:o.dst with
  | none=>rw [hd] at t1; simp at t1
  | some d=>rw [hd] at t1; simp at t1; rw [t1]; simp
 ·have:=h2 i (hb i o ho);rw [ho] at this;simp only [Bool.and_eq_true] at this;have:=Array.all_eq_true_iff_forall_mem.1 this.1.1 e he;simp [hbd] at this;exact this
 ·have:=h2 i (hb i o ho);rw [ho] at this;simp only [Bool.and_eq_true,if_neg (show ¬ i < ds.length by omega)] at this;simpa using this.1.2
 ·have:=h2 i (hb i o ho);rw [ho] at this;simp only [Bool.and_eq_true,if_pos hi] at this;obtain ⟨e,he,hbd⟩:=Array.any_eq_true'.1 this.2;simp only [Bool.and_eq_true,beq_iff_eq] at hbd;exact ⟨e,he,hbd.1,hbd.2⟩
 ·obtain ⟨i,hi,hh⟩:=List.any_eq_true.1 (h5 j hj);simp only [Bool.and_eq_true,decide_eq_true_iff] at hh
  cases ho:ops[i]? with
  | none=>rw [ho] at hh; simp at hh
  | some o =>
   rw [ho] at hh;obtain ⟨e,he,hbd⟩:=Array.any_eq_true'.1 hh.2;simp only [Bool.and_eq_true,beq_iff_eq] at hbd;exact ⟨i,o,hh.1,by have:=List.mem_range.1 hi; omega,ho,e,he,hbd.1,hbd.2⟩
theorem wpAny_seq (hF:GFormV ops ds a0.tmps.size):∀ (fuel m:Nat) (listed:Array Bool) (a:Act) (w:World),ds.length≤m→m≤ops.size→listed.size=ops.size→(∀ j,j < ops.size→(listed.getD j false=true↔j < m))→ops.size-m≤fuel→wpSeq P Q (ops.toList.drop m) a w→wpAny P .any ops Q fuel listed a w:=by
 have nil:∀ (m:Nat) (listed:Array Bool),listed.size=ops.size→(∀ j,j < ops.size→(listed.getD j false=true↔j < m))→ops.size≤m→Region.ready .any ops listed=[]:=by
  intro m listed hsz hl hm;rw [List.eq_nil_iff_forall_not_mem];intro i hi;rw [mem_ready] at hi;obtain ⟨h0,o,ho,_⟩:=hi;have hio:=(Array.getElem?_eq_some_iff.1 ho).1;have:=(hl i hio).2 (by omega);have hs:i < listed.size:=by omega
  simp [hs] at h0 this;rw [h0] at this;simp at this
 intro fuel;induction fuel with
 | zero =>
  intro m listed a w hn hm hsz hl hf hq;have hme:m=ops.size:=by omega
  subst hme;rw [List.drop_of_length_le (by simp)] at hq;exact ⟨nil _ _ hsz hl (Nat.le_refl _),hq⟩
 | succ fuel ih =>
  intro m listed a w hn hm hsz hl hf hq;by_cases hme:m=ops.size
  ·subst hme;rw [List.drop_of_length_le (by simp)] at hq;exact wpAny_done (nil _ _ hsz hl (Nat.le_refl _)) hq (fuel+1)
  ·have hmo:m < ops.size:=by omega
   have hom:ops[m]?=some ops[m]:=by simp [hmo]
   have hunl:∀ j,j < ops.size→m≤j→listed.getD j true=false:=fun j hj hmj=>by
    have hs:j < listed.size:=by omega
    have:=mt (hl j hj).1 (by omega);simp [hs] at this ⊢;exact this
   refine ⟨fun hr=>?_,fun i hi=>?_⟩
   ·exfalso
    have hmem:m∈Region.ready .any ops listed:=by
     rw [mem_ready];exact ⟨hunl m hmo (Nat.le_refl _),ops[m],hom,fun e he hb=>(hl _ (by have:=hF.topo m _ hom e he hb; omega)).2 (hF.topo m _ hom e he hb)⟩
    rw [hr] at hmem;simp at hmem
   ·rw [mem_ready] at hi;obtain ⟨h0,o,ho,hdeps⟩:=hi;have hio:=(Array.getElem?_eq_some_iff.1 ho).1;have him:m≤i:=by
     by_cases e:i < m
     ·exfalso
      have:=(hl i hio).2 e;have hs:i < listed.size:=by omega
      simp [hs] at h0 this;rw [h0] at this;simp at this
     ·omega
    have hie:i=m:=by
     by_cases e:i=m
     ·exact e
     ·exfalso
      obtain ⟨e1,he,hb,hon⟩:=hF.swait i o (by omega) ho;have:=(hl e1.on (by omega)).1 (hdeps e1 he hb);omega
    subst hie;obtain rfl:ops[i]=o:=by rw [hom] at ho; exact Option.some.inj ho
    refine wpOp_step ho (fun K' hK=>?_);rw [if_pos (by unfold Region.wanted; rw [hF.sguard i _ hn ho])];rw [List.drop_eq_getElem_cons (by simpa using hmo)] at hq;refine hq K' (fun a' w' h'=>hK _ _ ?_);refine ih (i+1) _ a' w' (by omega) (by omega) (by simp [hsz]) (fun j hj=>?_) (by omega) h';by_cases e:i=j
    ·subst e;have hs:i < listed.size:=by omega
     simp [hs]
    ·rw [getD_set_ne false e,hl j hj];omega
theorem wpAny_growV (hF:GFormV ops ds a0.tmps.size) (hst:∀ i v w w',R i v w→Below w.heap.size w w'→R i v w')
  (hstep:∀ i o,i < ds.length→ops[i]?=some o→GStepG P ops Q ds R a0 w0 i o)
  (hdone:∀ a w,a.tmps.size=a0.tmps.size→a.defers=a0.defers→(∀ t,t ∉ ds→slot a t=slot a0 t)→(∀ i,i < ds.length→R i (slot a (ds.getD i 0)) w)→Below w0.heap.size w0 w→wpSeq P Q (ops.toList.drop ds.length) a w) :
  ∀ (fuel:Nat) (listed:Array Bool) (a:Act) (w:World),unl listed ops.size≤fuel→GInv ops ds R a0 w0 listed a w→(∀ j,j < ops.size→ds.length≤j→listed.getD j false=false)→(∀ i o,ops[i]?=some o→listed.getD i false=true→∀ e∈o.after,Region.binds .any e=true→listed.getD e.on false=true)→wpAny P .any ops Q fuel listed a w:=by
 have ft:∀ (listed:Array Bool) (j:Nat),j < listed.size→(listed.getD j true=listed.getD j false):=fun listed j hj=>by simp [hj]
 intro fuel;induction fuel with
 | zero =>
  intro listed a w hu hI hs hcl;exfalso
  have:=unl_zero (listed:=listed) ops.size (by omega) ds.length hF.le;rw [ft listed _ (by rw [hI.size]; exact hF.le),hs _ hF.le (Nat.le_refl _)] at this;simp at this
 | succ fuel ih =>
  intro listed a w hu hI hs hcl;by_cases hall:∀ j,j < ds.length→listed.getD j false=true
  ·refine wpAny_seq hF (fuel+1) ds.length listed a w (Nat.le_refl _) (Nat.le_of_lt hF.le) hI.size (fun j hj=>⟨fun h=>?_,fun h=>hall j h⟩) ?_ (hdone a w hI.tsize hI.defers hI.outer (fun j hj=>hI.inner j (hall j hj)) hI.below)
   ·by_cases e:j < ds.length
    ·exact e
    ·rw [hs j hj (by omega)] at h; simp at h
   ·refine Nat.le_trans ?_ hu;have key:∀ n,n≤ops.size→n-ds.length≤unl listed n:=by
     intro n;induction n with
     | zero=>intro _; omega
     | succ n ihn =>
      intro hn;have h1:=ihn (by omega);unfold unl;by_cases e:n < ds.length
      ·omega
      ·rw [if_neg (by rw [ft listed n (by rw [hI.size]; omega),hs n (by omega) (by omega)]; simp)];omega
    exact key ops.size (Nat.le_refl _)
  ·refine ⟨fun hr=>?_,fun i hi=>?_⟩
   ·exfalso
    refine hall (fun i=>?_);induction i using Nat.strongRecOn with
    | ind i ih2 =>
     intro hil;have hio:i < ops.size:=Nat.lt_trans hil hF.le;by_cases hh:listed.getD i true=true
     ·rw [ft listed i (by rw [hI.size]; exact hio)] at hh; exact hh
     ·exfalso
      have hmem:i∈Region.ready .any ops listed:=by
       rw [mem_ready];refine ⟨by simpa using hh,ops[i],by simp [hio],fun e he hb=>?_⟩;have hlt:=hF.topo i ops[i] (by simp [hio]) e he hb;exact ih2 _ hlt (by omega)
      rw [hr] at hmem;simp at hmem
   ·rw [mem_ready] at hi;obtain ⟨h0,o,ho,hdeps⟩:=hi;have hio:i < ops.size:=(Array.getElem?_eq_some_iff.1 ho).1;have hil:i < ds.length:=by
     by_cases e:i < ds.length
     ·exact e
     ·exfalso
      by_cases e2:ds.length < i
      ·obtain ⟨e1,he,hb,hon⟩:=hF.swait i o e2 ho;have h1:=hdeps e1 he hb;rw [hs e1.on (by omega) (by omega)] at h1;simp at h1
      ·have hin:i=ds.length:=by omega
       refine hall ?_;have key:∀ d j,ds.length-j≤d→j < ds.length→listed.getD j false=true:=by
        intro d;induction d with
        | zero=>intro j h1 h2; omega
        | succ d ihd =>
         intro j h1 h2;obtain ⟨q,oq,hq1,hq2,hoq,ed,he,hb,hon⟩:=hF.lall j h2;by_cases e3:q=ds.length
         ·subst hin;subst e3;obtain rfl:o=oq:=by rw [ho] at hoq; exact Option.some.inj hoq
          rw [← hon]; exact hdeps ed he hb
         ·rw [← hon]; exact hcl q oq hoq (ihd q (by omega) (by omega)) ed he hb
       exact fun j hj=>key ds.length j (by omega) hj
    have hd:=hF.dst i o hil ho;have hmem:ds.getD i 0∈ds:=by rw [getD_at hil]; exact List.getElem_mem hil
    refine wpOp_step ho (fun K' hK=>?_);refine hstep i o hil ho K' a w hI.outer (fun e he hb=>hI.inner _ (hdeps e he hb)) hI.below (fun v w' hR hB=>hK _ _ ?_);refine ih _ _ _ (by have:=unl_set h0 ops.size hio; omega) ⟨by simp [hI.size],?_,?_,fun t ht=>?_,fun j hj=>?_,hI.below.trans (hB.mono hI.below.size)⟩ (fun j hj hn=>by rw [getD_set_ne false (by omega)]; exact hs j hj hn) ?_
    ·rw [hd]; simp [Act.put,hI.tsize]
    ·rw [hd]; simp [Act.put,hI.defers]
    ·rw [hd,slot_put_ne (show ds.getD i 0≠t from fun e=>ht (e ▸ hmem))]; exact hI.outer t ht
    ·rw [hd];by_cases e:i=j
     ·subst e;rw [slot_put_eq (by rw [hI.tsize]; exact hF.fits _ hmem)];exact hR
     ·rw [getD_set_ne false e] at hj;have hjo:j < ops.size:=by
       rw [← hI.size];rcases Nat.lt_or_ge j listed.size with h' | h'
       ·exact h'
       ·simp [Array.getElem?_eq_none h'] at hj
      have hjl:j < ds.length:=by
       by_cases e2:j < ds.length
       ·exact e2
       ·rw [hs j hjo (by omega)] at hj; simp at hj
      rw [slot_put_ne (nodup_ne hF.nodup hil hjl e)];exact hst _ _ _ _ (hI.inner j hj) hB
    ·have hset:∀ j,listed.getD j false=true→(listed.setIfInBounds i true).getD j false=true:=fun j hj=>by
      by_cases e:i=j
      ·subst e; have hsz:i < listed.size:=by rw [hI.size]; exact hio
       simp [hsz]
      ·rw [getD_set_ne false e]; exact hj
     intro j o' ho' hj e he hb;by_cases hij:i=j
     ·subst hij;obtain rfl:o=o':=by rw [ho] at ho'; exact Option.some.inj ho'
      exact hset _ (hdeps e he hb)
     ·rw [getD_set_ne false hij] at hj;exact hset _ (hcl j o' ho' hj e he hb)
def GChV (P:Program) (ops:Array Oper) (Q:Exit→Act→World→Prop) (ds:List Tmp) (a0:Act) (w0:World) (suf:List Oper):List (Value→World→Prop)→List Oper→Prop
 | Rs,[]=>∀ (X:Nat→Value) w,RAll X w 0 Rs→Below w0.heap.size w0 w→wpSeq P Q suf (putsFrom X a0 0 ds) w
 | Rs,o::l=>∃ r,Stable r∧GStepG P ops Q ds (rAt (Rs++[r])) a0 w0 Rs.length o∧GChV P ops Q ds a0 w0 suf (Rs++[r]) l
theorem GChV.all {suf:List Oper}:∀ (l:List Oper) (Rs:List (Value→World→Prop)),(∀ i o,l[i]?=some o→∀ e∈o.after,Region.binds .any e=true→e.on < Rs.length+i)→(∀ r∈Rs,Stable r)→GChV P ops Q ds a0 w0 suf Rs l →
  ∃ Ss,(Rs++Ss).length=Rs.length+l.length∧(∀ r∈Rs++Ss,Stable r)∧(∀ i o,l[i]?=some o→GStepG P ops Q ds (rAt (Rs++Ss)) a0 w0 (Rs.length+i) o)∧(∀ (X:Nat→Value) w,RAll X w 0 (Rs++Ss)→Below w0.heap.size w0 w→wpSeq P Q suf (putsFrom X a0 0 ds) w)
 | [],Rs,_,hst,h=>⟨[],by simp,by simpa using hst,fun i o ho=>by simp at ho,by rw [List.append_nil]; exact h⟩
 | o::l,Rs,ht,hst,⟨r,hr,hs,hc⟩=>by
  obtain ⟨Ss,h1,h2,h3,h4⟩:=GChV.all l (Rs++[r]) (fun i o' ho e he hb=>by
   have:=ht (i+1) o' (by simpa using ho) e he hb;simp; omega) (fun x hx=>by
   rcases List.mem_append.1 hx with hx | hx
   ·exact hst x hx
   ·simp at hx; subst hx; exact hr) hc
  refine ⟨r::Ss,by simp at h1 ⊢; omega,by simpa using h2,fun i o' ho=>?_,by simpa using h4⟩;have e:Rs++r::Ss=Rs++[r]++Ss:=by simp
  rw [e]
  cases i with
  | zero =>
   simp at ho;subst ho;refine GStepG.congr (ht 0 o rfl) (fun j hj=>?_) hs;exact (rAt_left (by simp; omega)).symm
  | succ i =>
   have:=h3 i o' (by simpa using ho);rwa [show (Rs++[r]).length+i=Rs.length+(i+1) by simp; omega] at this
theorem wp_region_growV {id:Nat} (ds:List Tmp) (hm:P.follows .mixedOrders=true) (hF:gformV ops ds a0.tmps.size=true) (h:GChV P ops Q ds a0 w0.drew (ops.toList.drop ds.length) [] (ops.toList.take ds.length)) :
  (Code.region id ops true).wp P Q a0 w0:=by
 have hG:=GFormV.of hF;have hle:=hG.le;obtain ⟨Ss,h1,h2,h3,h4⟩:=GChV.all (ops.toList.take ds.length) [] (fun i o ho e he hb=>by
  have hi:i < ds.length:=by
   by_cases e2:i < ds.length
   ·exact e2
   ·rw [List.getElem?_eq_none (by simp; omega)] at ho; simp at ho
  rw [List.getElem?_take,if_pos hi] at ho;have:=hG.topo i o (by simpa using ho) e he hb;simpa using this) (fun r hr=>by simp at hr) h
 simp only [List.nil_append,List.length_nil,Nat.zero_add] at h1 h2 h3 h4;have hlen:Ss.length=ds.length:=by rw [h1]; simp; omega
 refine wp_region_any hm (wpAny_growV (w0:=w0.drew) (R:=rAt Ss) hG (fun i v w w' h hb=>?_) (fun i o hi ho=>?_) (fun a w g1 g2 g3 g4 g5=>?_) ops.size _ a0 w0.drew (unl_le _ _) ⟨by simp,rfl,rfl,fun _ _=>rfl,fun i hi=>?_,Below.refl _ _⟩ (fun j hj _=>by simp [hj]) (fun i o ho hi=>?_))
 ·unfold rAt at *;by_cases hi:i < Ss.length
  ·have e:Ss.getD i (fun _ _=>True)=Ss[i]:=by simp [hi]
   rw [e] at h ⊢;exact h2 _ (List.getElem_mem hi) v w w' h hb
  ·have e:Ss.getD i (fun _ _=>True)=fun _ _=>True:=by simp [Nat.le_of_not_lt hi]
   rw [e]; trivial
 ·exact h3 i o (by rw [List.getElem?_take,if_pos hi]; simpa using ho)
 ·have hp:putsFrom (fun i=>slot a (ds.getD i 0)) a0 0 ds=a:=puts_eq ds a0 0 g1.symm g2.symm (fun i _=>by rw [Nat.zero_add]) (fun t ht=>(g3 t ht).symm) (fun d hd=>by rw [g1]; exact hG.fits d hd);rw [← hp];exact h4 (fun i=>slot a (ds.getD i 0)) w (RAll.mk Ss 0 (fun i hi=>by rw [Nat.zero_add]; exact g4 i (by omega))) g5
 ·exfalso
  by_cases h:i < ops.size
  ·simp [h] at hi
  ·simp [h] at hi
 ·exfalso
  by_cases h:i < ops.size
  ·simp [h] at hi
  ·simp [h] at hi
theorem GChV.val {suf:List Oper} {Rs:List (Value→World→Prop)} {n:Nat} {o:Oper} {l:List Oper} (Rs':Value→List (Value→World→Prop)) (hR:∀ v,Rs' v=Rs++[IsV v]) (hn:Rs.length=n) (h:∃ v,GStepG P ops Q ds (rAt (Rs' v)) a0 w0 n o∧GChV P ops Q ds a0 w0 suf (Rs' v) l):GChV P ops Q ds a0 w0 suf Rs (o::l):=by
 obtain ⟨v,h1,h2⟩:=h;rw [hR] at h1 h2;subst hn;exact ⟨IsV v,stable_isV v,h1,h2⟩
theorem GChV.rel {suf:List Oper} {Rs:List (Value→World→Prop)} {n:Nat} {o:Oper} {l:List Oper} (r:Value→World→Prop) (hr:Stable r) (Rs':List (Value→World→Prop)) (hR:Rs'=Rs++[r]) (hn:Rs.length=n) (h1:GStepG P ops Q ds (rAt Rs') a0 w0 n o) (h2:GChV P ops Q ds a0 w0 suf Rs' l):GChV P ops Q ds a0 w0 suf Rs (o::l):=by
 subst hR hn;exact ⟨r,hr,h1,h2⟩
theorem GChV.vv {suf:List Oper} {Rs Rs':List (Value→World→Prop)} {n:Nat} {o:Oper} {l:List Oper} {v:Value} (hR:Rs'=Rs++[IsV v]) (hn:Rs.length=n) (hg:o.guard=none) (h1:GW P Q ds Rs' a0 w0 n o) (h2:GChV P ops Q ds a0 w0 suf Rs' l):GChV P ops Q ds a0 w0 suf Rs (o::l):=by
 subst hR hn;exact ⟨IsV v,stable_isV v,h1.step hg,h2⟩
variable {R0 R1 R2 R3 R4 R5 R6 R7 R8 R9 R10 R11 R12 R13 R14 R15 R16 R17 R18 R19 R20 R21 R22 R23 R24 R25 R26 R27 R28 R29 R30 R31 R32 R33 R34 R35 R36 R37 R38 R39 R40 R41 R42 R43 R44 R45:Value→World→Prop} {o:Oper} {l suf:List Oper} {v:Value}
theorem GChV.v0 (hg:o.guard=none) (h1:GW P Q ds [IsV v] a0 w0 0 o) (h2:GChV P ops Q ds a0 w0 suf [IsV v] l):GChV P ops Q ds a0 w0 suf [] (o::l):=.vv rfl rfl hg h1 h2
theorem GChV.v1 (hg:o.guard=none) (h1:GW P Q ds [R0,IsV v] a0 w0 1 o) (h2:GChV P ops Q ds a0 w0 suf [R0,IsV v] l):GChV P ops Q ds a0 w0 suf [R0] (o::l):=.vv rfl rfl hg h1 h2
theorem GChV.v2 (hg:o.guard=none) (h1:GW P Q ds [R0,R1,IsV v] a0 w0 2 o) (h2:GChV P ops Q ds a0 w0 suf [R0,R1,IsV v] l):GChV P ops Q ds a0 w0 suf [R0,R1] (o::l):=.vv rfl rfl hg h1 h2
theorem GChV.v3 (hg:o.guard=none) (h1:GW P Q ds [R0,R1,R2,IsV v] a0 w0 3 o) (h2:GChV P ops Q ds a0 w0 suf [R0,R1,R2,IsV v] l):GChV P ops Q ds a0 w0 suf [R0,R1,R2] (o::l):=.vv rfl rfl hg h1 h2
theorem GChV.v4 (hg:o.guard=none) (h1:GW P Q ds [R0,R1,R2,R3,IsV v] a0 w0 4 o) (h2:GChV P ops Q ds a0 w0 suf [R0,R1,R2,R3,IsV v] l):GChV P ops Q ds a0 w0 suf [R0,R1,R2,R3] (o::l):=.vv rfl rfl hg h1 h2
theorem GChV.v5 (hg:o.guard=none) (h1:GW P Q ds [R0,R1,R2,R3,R4,IsV v] a0 w0 5 o) (h2:GChV P ops Q ds a0 w0 suf [R0,R1,R2,R3,R4,IsV v] l):GChV P ops Q ds a0 w0 suf [R0,R1,R2,R3,R4] (o::l):=.vv rfl rfl hg h1 h2
theorem GChV.v6 (hg:o.guard=none) (h1:GW P Q ds [R0,R1,R2,R3,R4,R5,IsV v] a0 w0 6 o) (h2:GChV P ops Q ds a0 w0 suf [R0,R1,R2,R3,R4,R5,IsV v] l):GChV P ops Q ds a0 w0 suf [R0,R1,R2,R3,R4,R5] (o::l):=.vv rfl rfl hg h1 h2
theorem GChV.v7 (hg:o.guard=none) (h1:GW P Q ds [R0,R1,R2,R3,R4,R5,R6,IsV v] a0 w0 7 o) (h2:GChV P ops Q ds a0 w0 suf [R0,R1,R2,R3,R4,R5,R6,IsV v] l):GChV P ops Q ds a0 w0 suf [R0,R1,R2,R3,R4,R5,R6] (o::l):=.vv rfl rfl hg h1 h2
theorem GChV.v8 (hg:o.guard=none) (h1:GW P Q ds [R0,R1,R2,R3,R4,R5,R6,R7,IsV v] a0 w0 8 o) (h2:GChV P ops Q ds a0 w0 suf [R0,R1,R2,R3,R4,R5,R6,R7,IsV v] l):GChV P ops Q ds a0 w0 suf [R0,R1,R2,R3,R4,R5,R6,R7] (o::l):=.vv rfl rfl hg h1 h2
theorem GChV.v9 (hg:o.guard=none) (h1:GW P Q ds [R0,R1,R2,R3,R4,R5,R6,R7,R8,IsV v] a0 w0 9 o) (h2:GChV P ops Q ds a0 w0 suf [R0,R1,R2,R3,R4,R5,R6,R7,R8,IsV v] l):GChV P ops Q ds a0 w0 suf [R0,R1,R2,R3,R4,R5,R6,R7,R8] (o::l):=.vv rfl rfl hg h1 h2
theorem GChV.v10 (hg:o.guard=none) (h1:GW P Q ds [R0,R1,R2,R3,R4,R5,R6,R7,R8,R9,IsV v] a0 w0 10 o) (h2:GChV P ops Q ds a0 w0 suf [R0,R1,R2,R3,R4,R5,R6,R7,R8,R9,IsV v] l):GChV P ops Q ds a0 w0 suf [R0,R1,R2,R3,R4,R5,R6,R7,R8,R9] (o::l):=.vv rfl rfl hg h1 h2
theorem GChV.v11 (hg:o.guard=none) (h1:GW P Q ds [R0,R1,R2,R3,R4,R5,R6,R7,R8,R9,R10,IsV v] a0 w0 11 o) (h2:GChV P ops Q ds a0 w0 suf [R0,R1,R2,R3,R4,R5,R6,R7,R8,R9,R10,IsV v] l):GChV P ops Q ds a0 w0 suf [R0,R1,R2,R3,R4,R5,R6,R7,R8,R9,R10] (o::l):=.vv rfl rfl hg h1 h2
theorem GChV.v12 (hg:o.guard=none) (h1:GW P Q ds [R0,R1,R2,R3,R4,R5,R6,R7,R8,R9,R10,R11,IsV v] a0 w0 12 o) (h2:GChV P ops Q ds a0 w0 suf [R0,R1,R2,R3,R4,R5,R6,R7,R8,R9,R10,R11,IsV v] l):GChV P ops Q ds a0 w0 suf [R0,R1,R2,R3,R4,R5,R6,R7,R8,R9,R10,R11] (o::l):=.vv rfl rfl hg h1 h2
theorem GChV.v13 (hg:o.guard=none) (h1:GW P Q ds [R0,R1,R2,R3,R4,R5,R6,R7,R8,R9,R10,R11,R12,IsV v] a0 w0 13 o) (h2:GChV P ops Q ds a0 w0 suf [R0,R1,R2,R3,R4,R5,R6,R7,R8,R9,R10,R11,R12,IsV v] l):GChV P ops Q ds a0 w0 suf [R0,R1,R2,R3,R4,R5,R6,R7,R8,R9,R10,R11,R12] (o::l):=.vv rfl rfl hg h1 h2
theorem GChV.v14 (hg:o.guard=none) (h1:GW P Q ds [R0,R1,R2,R3,R4,R5,R6,R7,R8,R9,R10,R11,R12,R13,IsV v] a0 w0 14 o) (h2:GChV P ops Q ds a0 w0 suf [R0,R1,R2,R3,R4,R5,R6,R7,R8,R9,R10,R11,R12,R13,IsV v] l):GChV P ops Q ds a0 w0 suf [R0,R1,R2,R3,R4,R5,R6,R7,R8,R9,R10,R11,R12,R13] (o::l):=.vv rfl rfl hg h1 h2
theorem GChV.v15 (hg:o.guard=none) (h1:GW P Q ds [R0,R1,R2,R3,R4,R5,R6,R7,R8,R9,R10,R11,R12,R13,R14,IsV v] a0 w0 15 o) (h2:GChV P ops Q ds a0 w0 suf [R0,R1,R2,R3,R4,R5,R6,R7,R8,R9,R10,R11,R12,R13,R14,IsV v] l):GChV P ops Q ds a0 w0 suf [R0,R1,R2,R3,R4,R5,R6,R7,R8,R9,R10,R11,R12,R13,R14] (o::l):=.vv rfl rfl hg h1 h2
theorem GChV.v16 (hg:o.guard=none) (h1:GW P Q ds [R0,R1,R2,R3,R4,R5,R6,R7,R8,R9,R10,R11,R12,R13,R14,R15,IsV v] a0 w0 16 o) (h2:GChV P ops Q ds a0 w0 suf [R0,R1,R2,R3,R4,R5,R6,R7,R8,R9,R10,R11,R12,R13,R14,R15,IsV v] l):GChV P ops Q ds a0 w0 suf [R0,R1,R2,R3,R4,R5,R6,R7,R8,R9,R10,R11,R12,R13,R14,R15] (o::l):=.vv rfl rfl hg h1 h2
theorem GChV.v17 (hg:o.guard=none) (h1:GW P Q ds [R0,R1,R2,R3,R4,R5,R6,R7,R8,R9,R10,R11,R12,R13,R14,R15,R16,IsV v] a0 w0 17 o) (h2:GChV P ops Q ds a0 w0 suf [R0,R1,R2,R3,R4,R5,R6,R7,R8,R9,R10,R11,R12,R13,R14,R15,R16,IsV v] l):GChV P ops Q ds a0 w0 suf [R0,R1,R2,R3,R4,R5,R6,R7,R8,R9,R10,R11,R12,R13,R14,R15,R16] (o::l):=.vv rfl rfl hg h1 h2
theorem GChV.v18 (hg:o.guard=none) (h1:GW P Q ds [R0,R1,R2,R3,R4,R5,R6,R7,R8,R9,R10,R11,R12,R13,R14,R15,R16,R17,IsV v] a0 w0 18 o) (h2:GChV P ops Q ds a0 w0 suf [R0,R1,R2,R3,R4,R5,R6,R7,R8,R9,R10,R11,R12,R13,R14,R15,R16,R17,IsV v] l):GChV P ops Q ds a0 w0 suf [R0,R1,R2,R3,R4,R5,R6,R7,R8,R9,R10,R11,R12,R13,R14,R15,R16,R17] (o::l):=.vv rfl rfl hg h1 h2
theorem GChV.v19 (hg:o.guard=none) (h1:GW P Q ds [R0,R1,R2,R3,R4,R5,R6,R7,R8,R9,R10,R11,R12,R13,R14,R15,R16,R17,R18,IsV v] a0 w0 19 o) (h2:GChV P ops Q ds a0 w0 suf [R0,R1,R2,R3,R4,R5,R6,R7,R8,R9,R10,R11,R12,R13,R14,R15,R16,R17,R18,IsV v] l):GChV P ops Q ds a0 w0 suf [R0,R1,R2,R3,R4,R5,R6,R7,R8,R9,R10,R11,R12,R13,R14,R15,R16,R17,R18] (o::l):=.vv rfl rfl hg h1 h2
theorem GChV.v20 (hg:o.guard=none) (h1:GW P Q ds [R0,R1,R2,R3,R4,R5,R6,R7,R8,R9,R10,R11,R12,R13,R14,R15,R16,R17,R18,R19,IsV v] a0 w0 20 o) (h2:GChV P ops Q ds a0 w0 suf [R0,R1,R2,R3,R4,R5,R6,R7,R8,R9,R10,R11,R12,R13,R14,R15,R16,R17,R18,R19,IsV v] l):GChV P ops Q ds a0 w0 suf [R0,R1,R2,R3,R4,R5,R6,R7,R8,R9,R10,R11,R12,R13,R14,R15,R16,R17,R18,R19] (o::l):=.vv rfl rfl hg h1 h2
theorem GChV.v21 (hg:o.guard=none) (h1:GW P Q ds [R0,R1,R2,R3,R4,R5,R6,R7,R8,R9,R10,R11,R12,R13,R14,R15,R16,R17,R18,R19,R20,IsV v] a0 w0 21 o) (h2:GChV P ops Q ds a0 w0 suf [R0,R1,R2,R3,R4,R5,R6,R7,R8,R9,R10,R11,R12,R13,R14,R15,R16,R17,R18,R19,R20,IsV v] l):GChV P ops Q ds a0 w0 suf [R0,R1,R2,R3,R4,R5,R6,R7,R8,R9,R10,R11,R12,R13,R14,R15,R16,R17,R18,R19,R20] (o::l):=.vv rfl rfl hg h1 h2
theorem GChV.v22 (hg:o.guard=none) (h1:GW P Q ds [R0,R1,R2,R3,R4,R5,R6,R7,R8,R9,R10,R11,R12,R13,R14,R15,R16,R17,R18,R19,R20,R21,IsV v] a0 w0 22 o) (h2:GChV P ops Q ds a0 w0 suf [R0,R1,R2,R3,R4,R5,R6,R7,R8,R9,R10,R11,R12,R13,R14,R15,R16,R17,R18,R19,R20,R21,IsV v] l):GChV P ops Q ds a0 w0 suf [R0,R1,R2,R3,R4,R5,R6,R7,R8,R9,R10,R11,R12,R13,R14,R15,R16,R17,R18,R19,R20,R21] (o::l):=.vv rfl rfl hg h1 h2
theorem GChV.v23 (hg:o.guard=none) (h1:GW P Q ds [R0,R1,R2,R3,R4,R5,R6,R7,R8,R9,R10,R11,R12,R13,R14,R15,R16,R17,R18,R19,R20,R21,R22,IsV v] a0 w0 23 o) (h2:GChV P ops Q ds a0 w0 suf [R0,R1,R2,R3,R4,R5,R6,R7,R8,R9,R10,R11,R12,R13,R14,R15,R16,R17,R18,R19,R20,R21,R22,IsV v] l):GChV P ops Q ds a0 w0 suf [R0,R1,R2,R3,R4,R5,R6,R7,R8,R9,R10,R11,R12,R13,R14,R15,R16,R17,R18,R19,R20,R21,R22] (o::l):=.vv rfl rfl hg h1 h2
theorem GChV.v24 (hg:o.guard=none) (h1:GW P Q ds [R0,R1,R2,R3,R4,R5,R6,R7,R8,R9,R10,R11,R12,R13,R14,R15,R16,R17,R18,R19,R20,R21,R22,R23,IsV v] a0 w0 24 o) (h2:GChV P ops Q ds a0 w0 suf [R0,R1,R2,R3,R4,R5,R6,R7,R8,R9,R10,R11,R12,R13,R14,R15,R16,R17,R18,R19,R20,R21,R22,R23,IsV v] l):GChV P ops Q ds a0 w0 suf [R0,R1,R2,R3,R4,R5,R6,R7,R8,R9,R10,R11,R12,R13,R14,R15,R16,R17,R18,R19,R20,R21,R22,R23] (o::l):=.vv rfl rfl hg h1 h2
theorem GChV.v25 (hg:o.guard=none) (h1:GW P Q ds [R0,R1,R2,R3,R4,R5,R6,R7,R8,R9,R10,R11,R12,R13,R14,R15,R16,R17,R18,R19,R20,R21,R22,R23,R24,IsV v] a0 w0 25 o) (h2:GChV P ops Q ds a0 w0 suf [R0,R1,R2,R3,R4,R5,R6,R7,R8,R9,R10,R11,R12,R13,R14,R15,R16,R17,R18,R19,R20,R21,R22,R23,R24,IsV v] l):GChV P ops Q ds a0 w0 suf [R0,R1,R2,R3,R4,R5,R6,R7,R8,R9,R10,R11,R12,R13,R14,R15,R16,R17,R18,R19,R20,R21,R22,R23,R24] (o::l):=.vv rfl rfl hg h1 h2
theorem GChV.v26 (hg:o.guard=none) (h1:GW P Q ds [R0,R1,R2,R3,R4,R5,R6,R7,R8,R9,R10,R11,R12,R13,R14,R15,R16,R17,R18,R19,R20,R21,R22,R23,R24,R25,IsV v] a0 w0 26 o) (h2:GChV P ops Q ds a0 w0 suf [R0,R1,R2,R3,R4,R5,R6,R7,R8,R9,R10,R11,R12,R13,R14,R15,R16,R17,R18,R19,R20,R21,R22,R23,R24,R25,IsV v] l):GChV P ops Q ds a0 w0 suf [R0,R1,R2,R3,R4,R5,R6,R7,R8,R9,R10,R11,R12,R13,R14,R15,R16,R17,R18,R19,R20,R21,R22,R23,R24,R25] (o::l):=.vv rfl rfl hg h1 h2
theorem GChV.v27 (hg:o.guard=none) (h1:GW P Q ds [R0,R1,R2,R3,R4,R5,R6,R7,R8,R9,R10,R11,R12,R13,R14,R15,R16,R17,R18,R19,R20,R21,R22,R23,R24,R25,R26,IsV v] a0 w0 27 o) (h2:GChV P ops Q ds a0 w0 suf [R0,R1,R2,R3,R4,R5,R6,R7,R8,R9,R10,R11,R12,R13,R14,R15,R16,R17,R18,R19,R20,R21,R22,R23,R24,R25,R26,IsV v] l):GChV P ops Q ds a0 w0 suf [R0,R1,R2,R3,R4,R5,R6,R7,R8,R9,R10,R11,R12,R13,R14,R15,R16,R17,R18,R19,R20,R21,R22,R23,R24,R25,R26] (o::l):=.vv rfl rfl hg h1 h2
theorem GChV.v28 (hg:o.guard=none) (h1:GW P Q ds [R0,R1,R2,R3,R4,R5,R6,R7,R8,R9,R10,R11,R12,R13,R14,R15,R16,R17,R18,R19,R20,R21,R22,R23,R24,R25,R26,R27,IsV v] a0 w0 28 o) (h2:GChV P ops Q ds a0 w0 suf [R0,R1,R2,R3,R4,R5,R6,R7,R8,R9,R10,R11,R12,R13,R14,R15,R16,R17,R18,R19,R20,R21,R22,R23,R24,R25,R26,R27,IsV v] l):GChV P ops Q ds a0 w0 suf [R0,R1,R2,R3,R4,R5,R6,R7,R8,R9,R10,R11,R12,R13,R14,R15,R16,R17,R18,R19,R20,R21,R22,R23,R24,R25,R26,R27] (o::l):=.vv rfl rfl hg h1 h2
end
open Go.PlainAid Go.WideShapes
structure OutOf (lo hi:Nat) (w W:World):Prop where
 os:W.os=w.os
 tape:W.tape=w.tape
 output:W.output=w.output
 size:w.heap.size≤W.heap.size
 block:∀ k,k < w.heap.size→(k < lo∨hi≤k)→W.heap[k]?=w.heap[k]?
section
variable {lo hi lo2 hi2 B:Nat} {w w1 W:World}
theorem OutOf.of_below (h:Below w.heap.size w W):OutOf lo hi w W:=⟨h.os,h.tape,h.output,h.size,fun k hk _=>h.block k hk⟩
theorem OutOf.trans (h:OutOf lo hi w w1) (h2:OutOf lo hi w1 W):OutOf lo hi w W :=
 ⟨h2.os.trans h.os,h2.tape.trans h.tape,h2.output.trans h.output,Nat.le_trans h.size h2.size,fun k hk hb=>(h2.block k (Nat.lt_of_lt_of_le hk h.size) hb).trans (h.block k hk hb)⟩
theorem OutOf.below (h:OutOf lo hi w W) {m:Nat} (hm:m≤lo) (hl:m≤w.heap.size):Below m w W:=⟨h.os,h.tape,h.output,h.size,fun k hk=>h.block k (by omega) (.inl (by omega))⟩
theorem OutOf.of_grown (h:w.grownBy W (some B)) (h1:lo≤B) (h2:B < hi):OutOf lo hi w W :=
 ⟨h.os,h.tape,h.output,h.size,fun k hk hb=>h.block k hk (by simp; omega)⟩
theorem HoldsL.outOf {cs:List Value} (h:HoldsL w B cs) (hl:0 < cs.length) (ho:OutOf lo hi w W) (hb:B < lo∨hi≤B):HoldsL W B cs:=h.of_block (ho.block B (h.lt hl) hb)
end
section
variable {α:Type} {en:α→List Value} {n:Nat} {lo hi lo2 hi2:Nat} {w W:World} {a:Option Addr} {xs:List α}
theorem SlLaid.of_block {B L k:Nat} (h:SlLaid en n w B xs L k) (hb:W.heap[B]?=w.heap[B]?) (hs:w.heap.size≤W.heap.size):SlLaid en n W B xs L k:=by
 have hc:∀ o,W.cell? ⟨B,o,none⟩=w.cell? ⟨B,o,none⟩:=fun o=>by unfold World.cell?; rw [show (⟨B,o,none⟩ : Addr).block=B from rfl,hb]
 have hf:∀ o,W.frozen? ⟨B,o,none⟩=w.frozen? ⟨B,o,none⟩:=fun o=>World.frozen?_of_block (a:=⟨B,o,none⟩) hb
 exact ⟨Nat.lt_of_lt_of_le h.blk hs,fun i hi hk j v hv=>(hc _).trans (h.at0 i hi hk j v hv),fun i hi=>by rw [hc]; exact h.there i hi,fun i hi=>by rw [hf]; exact h.free i hi⟩
def SlIn (en:α→List Value) (n lo hi:Nat) (w:World) (a:Option Addr) (xs:List α):Prop:=xs=[]∨∃ g,a=some ⟨g,0,none⟩∧lo≤g∧g < hi∧SlLaid en n w g xs xs.length xs.length
theorem SlIn.of_own (h:SlOwn en n lo w a xs) {hi:Nat} (hh:w.heap.size≤hi):SlIn en n lo hi w a xs:=by
 rcases h with h | ⟨g,h1,h2,h3⟩
 ·exact .inl h
 ·exact .inr ⟨g,h1,h2,Nat.lt_of_lt_of_le h3.blk hh,h3⟩
theorem SlIn.own (h:SlIn en n lo hi w a xs):SlOwn en n lo w a xs:=by
 rcases h with h | ⟨g,h1,h2,h3,h4⟩
 ·exact .inl h
 ·exact .inr ⟨g,h1,h2,h4⟩
theorem SlIn.is (h:SlIn en n lo hi w a xs):SlIs en n w a xs:=h.own.is
theorem SlIn.kept (h:SlIn en n lo hi w a xs) (hb:Below w.heap.size w W):SlIn en n lo hi W a xs:=by
 rcases h with h | ⟨g,h1,h2,h3,h4⟩
 ·exact .inl h
 ·exact .inr ⟨g,h1,h2,h3,h4.kept hb⟩
theorem SlIn.outOf (h:SlIn en n lo hi w a xs) (ho:OutOf lo2 hi2 w W) (hb:hi≤lo2∨hi2≤lo):SlIn en n lo hi W a xs:=by
 rcases h with h | ⟨g,h1,h2,h3,h4⟩
 ·exact .inl h
 ·exact .inr ⟨g,h1,h2,h3,h4.of_block (ho.block g h4.blk (by omega)) ho.size⟩
end
structure BbIn (lo hi:Nat) (w:World) (a b:Option Addr) (x:Bb):Prop where
 bd:SlIn bdL 5 lo hi w a x.binds
 ss:SlIn ssL 7 lo hi w b x.sess
 ne:∀ g h,a=some ⟨g,0,none⟩→b=some ⟨h,0,none⟩→x.binds≠[]→x.sess≠[]→g≠h
section
variable {lo hi lo2 hi2:Nat} {w W:World} {a b:Option Addr} {x:Bb}
theorem BbIn.of_own (h:BbOwn lo w a b x) (hh:w.heap.size≤hi):BbIn lo hi w a b x:=⟨SlIn.of_own h.bd hh,SlIn.of_own h.ss hh,h.ne⟩
theorem BbIn.own (h:BbIn lo hi w a b x):BbOwn lo w a b x:=⟨h.bd.own,h.ss.own,h.ne⟩
theorem BbIn.is (h:BbIn lo hi w a b x):BbIs w a b x:=⟨h.bd.is,h.ss.is⟩
theorem BbIn.kept (h:BbIn lo hi w a b x) (hb:Below w.heap.size w W):BbIn lo hi W a b x:=⟨h.bd.kept hb,h.ss.kept hb,h.ne⟩
theorem BbIn.outOf (h:BbIn lo hi w a b x) (ho:OutOf lo2 hi2 w W) (hb:hi≤lo2∨hi2≤lo):BbIn lo hi W a b x:=⟨h.bd.outOf ho hb,h.ss.outOf ho hb,h.ne⟩
theorem BbOwn.low {base:Nat} (h:BbOwn base w a b x) {m:Nat} (hm:m≤base):BbOwn m w a b x:=⟨h.bd.down hm,h.ss.down hm,h.ne⟩
end
def IsPl (base:Nat) (p:Pl):Value→World→Prop:=fun v w=>∃ B,v=plC (some ⟨B,0,none⟩) p.addrs.length p∧base≤B∧SlLaid strL1 1 w B p.addrs p.addrs.length p.addrs.length
theorem stable_isPl (base:Nat) (p:Pl):Stable (IsPl base p):=fun v w w' ⟨B,h1,h2,h3⟩ hb=>⟨B,h1,h2,h3.kept hb⟩
def IsBb (base:Nat) (x:Bb):Value→World→Prop:=fun v w=>∃ a b ca cb,v=bbC a b ca cb x∧BbOwn base w a b x
theorem stable_isBb (base:Nat) (x:Bb):Stable (IsBb base x):=fun v w w' ⟨a,b,ca,cb,h1,h2⟩ hb=>⟨a,b,ca,cb,h1,h2.kept hb⟩
theorem strs_in {xs:List ByteArray} {left:Int} (h0:0≤left) (h1:left≤1048576) (h:0≤szSl strN xs left):xs.length≤1048576∧∀ s∈xs,s.size≤1048576:=by
 obtain ⟨h2,h3⟩:=szSl_in h0 h;exact ⟨by omega,fun q hq=>by have:=h3 q hq q.size (by simp [strN]); omega⟩
def BbSm (x:Bb):Prop:=x.binds.length≤1048576∧x.sess.length≤1048576∧(∀ q∈x.binds,q.inn.size≤1048576∧q.out.size≤1048576)∧∀ s∈x.sess,s.inn.size≤1048576∧s.peer.size≤1048576
theorem bb_in {x:Bb} {left:Int} (h0:0≤left) (h1:left≤1048576) (h:0≤szBb x left):BbSm x:=by
 unfold szBb at h;split at h
 ·omega
 ·rename_i hn;have r1:=szSl_range bindN x.binds left h0;obtain ⟨a1,a2⟩:=szSl_in h0 (show 0≤szSl bindN x.binds left by omega);obtain ⟨b1,b2⟩:=szSl_in (show 0≤szSl bindN x.binds left by omega) h;refine ⟨by omega,by omega,fun q hq=>⟨?_,?_⟩,fun q hq=>⟨?_,?_⟩⟩
  ·have:=a2 q hq q.inn.size (by simp [bindN]); omega
  ·have:=a2 q hq q.out.size (by simp [bindN]); omega
  ·have:=b2 q hq q.inn.size (by simp [sessionN]); omega
  ·have:=b2 q hq q.peer.size (by simp [sessionN]); omega
theorem szBb_range (x:Bb) (left:Int) (h:0≤left) : -1≤szBb x left∧szBb x left≤left:=by
 unfold szBb;have r1:=szSl_range bindN x.binds left h;split
 ·omega
 ·have r2:=szSl_range sessionN x.sess (szSl bindN x.binds left) (by omega); omega
theorem markPool_out (lo hi:Nat) (p:Pl) (a1:Option Addr) (cap1 k:Nat) (w:World) (hk:0 < k) (hL:k+1*p.addrs.length≤1073741824) (hs:SlIn strL1 1 lo hi w a1 p.addrs) :
  Calls Tryz.prog 17 #[plC a1 cap1 p,iV k] w fun e w'=>e=.returned (iV ((k+1*p.addrs.length:Nat):Int))∧OutOf lo hi w w':=by
 have GA:Hid (Below w.heap.size w (w.alloc (.cells (PlV a1 cap1 p).toArray 48))):=(Below.refl _ _).alloc (Nat.le_refl _) _;have HM:Hid (∀ W,Below w.heap.size w W→Calls Tryz.prog 42 #[.slice a1 p.addrs.length cap1,iV k] W fun e w'=>e=.returned (iV ((k+1*p.addrs.length:Nat):Int))∧OutOf lo hi W w'):=fun W hW=>by
  rcases hs.kept hW with h | ⟨g,rfl,h1,h2,h3⟩
  ·rw [h];refine (markStringS_nil a1 cap1 k W (by omega)).mono ?_;rintro e w' ⟨rfl,rfl⟩;exact ⟨rfl,OutOf.of_below (Below.refl _ _)⟩
  ·refine (markStringS_any g p.addrs.length cap1 k W hk hL (h3.other _)).mono ?_;rintro e w' ⟨rfl,_,h5⟩;exact ⟨rfl,OutOf.of_grown h5 h1 h2⟩
 clear hs;unfold plC;go_enter Tryz.func17,Tryz.ntmps17
 go_wp2_with fail
 refine (HM.out _ GA.out).mono ?_;rintro e w1 ⟨rfl,q1⟩;have G1:Hid (OutOf lo hi w w1):=(OutOf.of_below GA.out).trans q1;clear q1;go_wp2_with fail
 go_ret;exact ⟨ret_int (by omega),G1.out⟩
theorem markBindS_out (lo hi:Nat) (x:Bb) (a b:Option Addr) (ca k:Nat) (w:World) (hk:0 < k) (hL:k+5*x.binds.length≤1073741824) (hs:BbIn lo hi w a b x) :
  Calls Tryz.prog 43 #[.slice a x.binds.length ca,iV k] w fun e w'=>e=.returned (iV ((k+5*x.binds.length:Nat):Int))∧MkOwn 5 bindM lo w' a k x.binds.length∧SlIn ssL 7 lo hi w' b x.sess∧OutOf lo hi w w':=by
 obtain ⟨h1,h2,h3⟩:=hs;by_cases e1:x.binds=[]
 ·rw [e1];refine (markBindS_nil a ca k w (by omega)).mono ?_;rintro e w' ⟨rfl,rfl⟩;exact ⟨rfl,.inl rfl,h2,OutOf.of_below (Below.refl _ _)⟩
 ·rcases h1 with e | ⟨g,rfl,hb,hh,hl⟩
  ·exact absurd e e1
  ·refine (markBindS_any g x.binds.length ca k w hk hL (hl.other _)).mono ?_;rintro e w' ⟨rfl,q1,q2⟩;refine ⟨rfl,.inr ⟨g,rfl,hb,q1⟩,?_,OutOf.of_grown q2 hb hh⟩;by_cases e2:x.sess=[]
   ·exact .inl e2
   ·rcases h2 with e | ⟨h,rfl,hb2,hh2,hl2⟩
    ·exact absurd e e2
    ·exact .inr ⟨h,rfl,hb2,hh2,hl2.grownNe q2 (fun e=>h3 g h rfl rfl e1 e2 e.symm)⟩
theorem markSessionS_out (lo hi:Nat) (xs:List Ss) (a b:Option Addr) (cb k kb nb:Nat) (w:World) (hk:0 < k) (hL:k+7*xs.length≤1073741824) (hm:MkOwn 5 bindM lo w a kb nb) (hs:SlIn ssL 7 lo hi w b xs) (hne:∀ g h,a=some ⟨g,0,none⟩→b=some ⟨h,0,none⟩→nb≠0→xs≠[]→g≠h) :
  Calls Tryz.prog 44 #[.slice b xs.length cb,iV k] w fun e w'=>e=.returned (iV ((k+7*xs.length:Nat):Int))∧MkOwn 5 bindM lo w' a kb nb∧MkOwn 7 sessionM lo w' b k xs.length∧OutOf lo hi w w':=by
 by_cases e1:xs=[]
 ·rw [e1];refine (markSessionS_nil b cb k w (by omega)).mono ?_;rintro e w' ⟨rfl,rfl⟩;exact ⟨rfl,hm,.inl rfl,OutOf.of_below (Below.refl _ _)⟩
 ·rcases hs with e | ⟨h,rfl,hb,hh,hl⟩
  ·exact absurd e e1
  ·refine (markSessionS_any h xs.length cb k w hk hL (hl.other _)).mono ?_;rintro e w' ⟨rfl,q1,q2⟩;refine ⟨rfl,?_,.inr ⟨h,rfl,hb,q1⟩,OutOf.of_grown q2 hb hh⟩;by_cases e2:nb=0
   ·exact .inl e2
   ·rcases hm with e | ⟨g,rfl,hb2,hl2⟩
    ·exact absurd e e2
    ·exact .inr ⟨g,rfl,hb2,hl2.grownNe q2 (fun e=>hne g h rfl rfl e2 e1 e)⟩
theorem markBib_out (lo hi:Nat) (x:Bb) (a b:Option Addr) (ca cb k:Nat) (w:World) (hh:hi≤w.heap.size) (hk:0 < k) (hL:k+5*x.binds.length+7*x.sess.length≤1073741824) (hs:BbIn lo hi w a b x) :
  Calls Tryz.prog 18 #[bbC a b ca cb x,iV k] w fun e w'=>e=.returned (iV ((k+5*x.binds.length+7*x.sess.length:Nat):Int))∧BbMk lo w' a b k x.binds.length x.sess.length∧OutOf lo hi w w':=by
 have GA:Hid (Below w.heap.size w (w.alloc (.cells (BbV a ca b cb x).toArray 39))):=(Below.refl _ _).alloc (Nat.le_refl _) _;have HM:Hid _:=markBindS_out lo hi x a b ca k (w.alloc (.cells (BbV a ca b cb x).toArray 39)) hk (by omega) (hs.kept GA.out);have HN:Hid (∀ W,MkOwn 5 bindM lo W a k x.binds.length→SlIn ssL 7 lo hi W b x.sess→Calls Tryz.prog 44 #[.slice b x.sess.length cb,iV ((k+5*x.binds.length:Nat):Int)] W fun e w'=>e=.returned (iV ((k+5*x.binds.length+7*x.sess.length:Nat):Int))∧MkOwn 5 bindM lo w' a k x.binds.length∧MkOwn 7 sessionM lo w' b (k+5*x.binds.length) x.sess.length∧OutOf lo hi W w'):=fun W h1 h2=>markSessionS_out lo hi x.sess a b cb (k+5*x.binds.length) k x.binds.length W (by omega) hL h1 h2 (fun g h e1 e2 n1 n2=>hs.ne g h e1 e2 (fun e=>n1 (by rw [e]; rfl)) n2)
 have H0:Hid _:=HoldsL.new w (BbV a ca b cb x) 39;have hh':Hid (hi≤w.heap.size):=hh;obtain ⟨k1,hk1⟩ : ∃ k1,k1=k+5*x.binds.length:=⟨_,rfl⟩;rw [← hk1] at HM HN hL ⊢;obtain ⟨k2,hk2⟩ : ∃ k2,k2=k1+7*x.sess.length:=⟨_,rfl⟩;rw [← hk2] at HN hL ⊢;have HK1:Hid (k1=k+5*x.binds.length):=hk1;clear hk1 hk2 hs hh;unfold bbC;go_enter Tryz.func18,Tryz.ntmps18
 go_wp2_with fail
 refine Calls.mono HM.out ?_;rintro e w1 ⟨rfl,m1,o1,q1⟩;have G1:Hid (OutOf lo hi w w1):=(OutOf.of_below GA.out).trans q1;have M1:Hid _:=m1;have O1:Hid _:=o1;have c1:w1.cell? ⟨w.heap.size,1,none⟩=some (.slice b x.sess.length cb):=(H0.out.outOf (by simp) q1 (.inr hh'.out)).cell rfl;clear m1 o1 q1;go_wp2_with fail
 refine (HN.out _ M1.out O1.out).mono ?_;rintro e w2 ⟨rfl,m2,o2,q2⟩;have G2:Hid (OutOf lo hi w w2):=G1.out.trans q2;have M2:Hid (BbMk lo w2 a b k x.binds.length x.sess.length):=⟨m2,by rw [← HK1.out]; exact o2⟩;clear m2 o2 q2;go_wp2_with fail
 go_ret;exact ⟨rfl,M2.out,G2.out⟩
section
variable {base lo hi B:Nat} {w W:World} {a b:Option Addr} {x:Bb}
theorem BbOwn.grownNe (h:BbOwn base w a b x) (hg:w.grownBy W (some B)) (hne:∀ g o,(x.binds≠[]∧a=some ⟨g,o,none⟩)∨(x.sess≠[]∧b=some ⟨g,o,none⟩)→g≠B):BbOwn base W a b x:=by
 refine ⟨?_,?_,h.ne⟩
 ·by_cases e:x.binds=[]
  ·exact .inl e
  ·rcases h.bd with h1 | ⟨g,rfl,h2,h3⟩
   ·exact .inl h1
   ·exact .inr ⟨g,rfl,h2,h3.grownNe hg (hne g 0 (.inl ⟨e,rfl⟩))⟩
 ·by_cases e:x.sess=[]
  ·exact .inl e
  ·rcases h.ss with h1 | ⟨g,rfl,h2,h3⟩
   ·exact .inl h1
   ·exact .inr ⟨g,rfl,h2,h3.grownNe hg (hne g 0 (.inr ⟨e,rfl⟩))⟩
theorem BbOwn.not_box {y:Option Addr} {n cap:Nat} {l:List Value} (h:BbOwn base w a b x) (hB:HoldsL w B (.slice y n cap::l)):∀ g o,(x.binds≠[]∧a=some ⟨g,o,none⟩)∨(x.sess≠[]∧b=some ⟨g,o,none⟩)→g≠B:=by
 intro g o hc hg;subst hg;have h2:=hB.cell (j:=0) rfl;rcases hc with ⟨h1,rfl⟩ | ⟨h1,rfl⟩
 ·rcases h.bd with h3 | ⟨g',e,_,h3⟩
  ·exact h1 h3
  ·cases e
   cases hx:x.binds with
   | nil=>exact h1 hx
   | cons q qs =>
    rw [hx] at h3;have:=h3.at 0 (by simp) 0 (iV q.proto) rfl;simp at this;rw [h2] at this;simp at this
 ·rcases h.ss with h3 | ⟨g',e,_,h3⟩
  ·exact h1 h3
  ·cases e
   cases hx:x.sess with
   | nil=>exact h1 hx
   | cons q qs =>
    rw [hx] at h3;have:=h3.at 0 (by simp) 0 (iV q.proto) rfl;simp at this;rw [h2] at this;simp at this
end
def IsZx (base:Nat) (zs:List Value):Value→World→Prop:=fun v w=>∃ g,v=.pointer (some ⟨g,0,none⟩)∧base≤g∧HoldsL w g zs
theorem stable_isZx (base:Nat) (zs:List Value) (h:0 < zs.length):Stable (IsZx base zs):=fun v w w' ⟨g,h1,h2,h3⟩ hb=>⟨g,h1,h2,h3.kept h hb⟩
theorem markBindS_but (lo hi:Nat) (x:Bb) (a b:Option Addr) (ca k:Nat) (w:World) (hk:0 < k) (hL:k+5*x.binds.length≤1073741824) (hs:BbIn lo hi w a b x) (X:Nat) (hX:X < w.heap.size) (hn:∀ g o',(x.binds≠[]∧a=some ⟨g,o',none⟩)∨(x.sess≠[]∧b=some ⟨g,o',none⟩)→g≠X) :
  Calls Tryz.prog 43 #[.slice a x.binds.length ca,iV k] w fun e w'=>e=.returned (iV ((k+5*x.binds.length:Nat):Int))∧MkOwn 5 bindM lo w' a k x.binds.length∧SlIn ssL 7 lo hi w' b x.sess∧OutOf lo hi w w'∧w'.heap[X]?=w.heap[X]?:=by
 obtain ⟨h1,h2,h3⟩:=hs;by_cases e1:x.binds=[]
 ·rw [e1];refine (markBindS_nil a ca k w (by omega)).mono ?_;rintro e w' ⟨rfl,rfl⟩;exact ⟨rfl,.inl rfl,h2,OutOf.of_below (Below.refl _ _),rfl⟩
 ·rcases h1 with e | ⟨g,rfl,hb,hh,hl⟩
  ·exact absurd e e1
  ·refine (markBindS_any g x.binds.length ca k w hk hL (hl.other _)).mono ?_;rintro e w' ⟨rfl,q1,q2⟩;refine ⟨rfl,.inr ⟨g,rfl,hb,q1⟩,?_,OutOf.of_grown q2 hb hh,q2.block X hX (by simp; exact fun e=>hn g 0 (.inl ⟨e1,rfl⟩) e.symm)⟩;by_cases e2:x.sess=[]
   ·exact .inl e2
   ·rcases h2 with e | ⟨h,rfl,hb2,hh2,hl2⟩
    ·exact absurd e e2
    ·exact .inr ⟨h,rfl,hb2,hh2,hl2.grownNe q2 (fun e=>h3 g h rfl rfl e1 e2 e.symm)⟩
theorem markSessionS_but (lo hi:Nat) (xs:List Ss) (a b:Option Addr) (cb k kb nb:Nat) (w:World) (hk:0 < k) (hL:k+7*xs.length≤1073741824) (hm:MkOwn 5 bindM lo w a kb nb) (hs:SlIn ssL 7 lo hi w b xs) (hne:∀ g h,a=some ⟨g,0,none⟩→b=some ⟨h,0,none⟩→nb≠0→xs≠[]→g≠h) (X:Nat) (hX:X < w.heap.size) (hn:∀ g o,xs≠[]∧b=some ⟨g,o,none⟩→g≠X) :
  Calls Tryz.prog 44 #[.slice b xs.length cb,iV k] w fun e w'=>e=.returned (iV ((k+7*xs.length:Nat):Int))∧MkOwn 5 bindM lo w' a kb nb∧MkOwn 7 sessionM lo w' b k xs.length∧OutOf lo hi w w'∧w'.heap[X]?=w.heap[X]?:=by
 by_cases e1:xs=[]
 ·rw [e1];refine (markSessionS_nil b cb k w (by omega)).mono ?_;rintro e w' ⟨rfl,rfl⟩;exact ⟨rfl,hm,.inl rfl,OutOf.of_below (Below.refl _ _),rfl⟩
 ·rcases hs with e | ⟨h,rfl,hb,hh,hl⟩
  ·exact absurd e e1
  ·refine (markSessionS_any h xs.length cb k w hk hL (hl.other _)).mono ?_;rintro e w' ⟨rfl,q1,q2⟩;refine ⟨rfl,?_,.inr ⟨h,rfl,hb,q1⟩,OutOf.of_grown q2 hb hh,q2.block X hX (by simp; exact fun e=>hn h 0 ⟨e1,rfl⟩ e.symm)⟩;by_cases e2:nb=0
   ·exact .inl e2
   ·rcases hm with e | ⟨g,rfl,hb2,hl2⟩
    ·exact absurd e e2
    ·exact .inr ⟨g,rfl,hb2,hl2.grownNe q2 (fun e=>hne g h rfl rfl e2 e1 e)⟩
theorem markBib_but (lo hi:Nat) (x:Bb) (a b:Option Addr) (ca cb k:Nat) (w:World) (hh:hi≤w.heap.size) (hk:0 < k) (hL:k+5*x.binds.length+7*x.sess.length≤1073741824) (hs:BbIn lo hi w a b x) (X:Nat) (hX:X < w.heap.size) (hn:∀ g o',(x.binds≠[]∧a=some ⟨g,o',none⟩)∨(x.sess≠[]∧b=some ⟨g,o',none⟩)→g≠X) :
  Calls Tryz.prog 18 #[bbC a b ca cb x,iV k] w fun e w'=>e=.returned (iV ((k+5*x.binds.length+7*x.sess.length:Nat):Int))∧BbMk lo w' a b k x.binds.length x.sess.length∧OutOf lo hi w w'∧w'.heap[X]?=w.heap[X]?:=by
 have GA:Hid (Below w.heap.size w (w.alloc (.cells (BbV a ca b cb x).toArray 39))):=(Below.refl _ _).alloc (Nat.le_refl _) _;have HX1:Hid (∀ W:World,w.heap.size≤W.heap.size→X < W.heap.size):=fun W hW=>by omega
 have HM:Hid _:=markBindS_but lo hi x a b ca k (w.alloc (.cells (BbV a ca b cb x).toArray 39)) hk (by omega) (hs.kept GA.out) X (by simp; omega) hn;have HN:Hid (∀ W,X < W.heap.size→MkOwn 5 bindM lo W a k x.binds.length→SlIn ssL 7 lo hi W b x.sess→Calls Tryz.prog 44 #[.slice b x.sess.length cb,iV ((k+5*x.binds.length:Nat):Int)] W fun e w'=>e=.returned (iV ((k+5*x.binds.length+7*x.sess.length:Nat):Int))∧MkOwn 5 bindM lo w' a k x.binds.length∧MkOwn 7 sessionM lo w' b (k+5*x.binds.length) x.sess.length∧OutOf lo hi W w'∧w'.heap[X]?=W.heap[X]?):=fun W h0 h1 h2=>markSessionS_but lo hi x.sess a b cb (k+5*x.binds.length) k x.binds.length W (by omega) hL h1 h2 (fun g h e1 e2 n1 n2=>hs.ne g h e1 e2 (fun e=>n1 (by rw [e]; rfl)) n2) X h0 (fun g o h=>hn g o (.inr h))
 have H0:Hid _:=HoldsL.new w (BbV a ca b cb x) 39;have hh':Hid (hi≤w.heap.size):=hh;obtain ⟨k1,hk1⟩ : ∃ k1,k1=k+5*x.binds.length:=⟨_,rfl⟩;rw [← hk1] at HM HN hL ⊢;obtain ⟨k2,hk2⟩ : ∃ k2,k2=k1+7*x.sess.length:=⟨_,rfl⟩;rw [← hk2] at HN hL ⊢;have HK1:Hid (k1=k+5*x.binds.length):=hk1;have HA0:Hid ((w.alloc (.cells (BbV a ca b cb x).toArray 39)).heap[X]?=w.heap[X]?):=GA.out.block X hX;clear hk1 hk2 hs hh hn hX;unfold bbC;go_enter Tryz.func18,Tryz.ntmps18
 go_wp2_with fail
 refine Calls.mono HM.out ?_;rintro e w1 ⟨rfl,m1,o1,q1,x1⟩;have G1:Hid (OutOf lo hi w w1):=(OutOf.of_below GA.out).trans q1;have X1:Hid (w1.heap[X]?=w.heap[X]?):=x1.trans HA0.out;have HL1:Hid (X < w1.heap.size):=HX1.out _ G1.out.size;have M1:Hid _:=m1;have O1:Hid _:=o1;have c1:w1.cell? ⟨w.heap.size,1,none⟩=some (.slice b x.sess.length cb):=(H0.out.outOf (by simp) q1 (.inr hh'.out)).cell rfl;clear m1 o1 q1 x1;go_wp2_with fail
 refine (HN.out _ HL1.out M1.out O1.out).mono ?_;rintro e w2 ⟨rfl,m2,o2,q2,x2⟩;have X2:Hid (w2.heap[X]?=w.heap[X]?):=x2.trans X1.out;have G2:Hid (OutOf lo hi w w2):=G1.out.trans q2;have M2:Hid (BbMk lo w2 a b k x.binds.length x.sess.length):=⟨m2,by rw [← HK1.out]; exact o2⟩;clear m2 o2 q2 x2;go_wp2_with fail
 go_ret;exact ⟨rfl,M2.out,G2.out,X2.out⟩
structure BoxTouch (w:World) (B:Nat) (p:Tc):Prop where
 c0:w.cell? ⟨B,0,none⟩=some (iV p.proto)
 c1:w.cell? ⟨B,1,none⟩=some (.bool p.inside)
 c2:w.cell? ⟨B,2,none⟩=some (.string p.addr)
 c3:w.cell? ⟨B,3,none⟩=some (iV p.port)
 c4:w.cell? ⟨B,4,none⟩=some (.string p.peer)
 c5:w.cell? ⟨B,5,none⟩=some (iV p.peerPort)
 c6:w.cell? ⟨B,6,none⟩=some (iV p.flags)
theorem BoxTouch.kept {w W:World} {B:Nat} {p:Tc} (h:BoxTouch w B p) (hB:Below w.heap.size w W):BoxTouch W B p:=by
 have hb:=World.block_lt_of_cell? w _ h.c0;exact ⟨((bcell hB).1 B 0 hb).trans h.c0,((bcell hB).1 B 1 hb).trans h.c1,((bcell hB).1 B 2 hb).trans h.c2,((bcell hB).1 B 3 hb).trans h.c3,((bcell hB).1 B 4 hb).trans h.c4,((bcell hB).1 B 5 hb).trans h.c5,((bcell hB).1 B 6 hb).trans h.c6⟩
theorem BoxTouch.new (w:World) (p:Tc) {t:TypeId}:BoxTouch (w.alloc (.cells (TcV p).toArray t)) w.heap.size p:=⟨cell_new rfl,cell_new rfl,cell_new rfl,cell_new rfl,cell_new rfl,cell_new rfl,cell_new rfl⟩
def P4Wf (p:P4):Prop:=In64t p.tos∧In64t p.id∧In64t p.off∧In64t p.ttl∧In64t p.proto∧p.src.size≤maxLen∧p.dst.size≤maxLen∧p.opts.size≤maxLen∧p.data.size≤maxLen
structure BoxV4 (w:World) (B:Nat) (p:P4):Prop where
 c0:w.cell? ⟨B,0,none⟩=some (iV p.tos)
 c1:w.cell? ⟨B,1,none⟩=some (iV p.id)
 c2:w.cell? ⟨B,2,none⟩=some (.bool p.whole)
 c3:w.cell? ⟨B,3,none⟩=some (.bool p.more)
 c4:w.cell? ⟨B,4,none⟩=some (iV p.off)
 c5:w.cell? ⟨B,5,none⟩=some (iV p.ttl)
 c6:w.cell? ⟨B,6,none⟩=some (iV p.proto)
 c7:w.cell? ⟨B,7,none⟩=some (.string p.src)
 c8:w.cell? ⟨B,8,none⟩=some (.string p.dst)
 c9:w.cell? ⟨B,9,none⟩=some (.string p.opts)
 c10:w.cell? ⟨B,10,none⟩=some (.string p.data)
theorem BoxV4.kept {w W:World} {B:Nat} {p:P4} (h:BoxV4 w B p) (hB:Below w.heap.size w W):BoxV4 W B p:=by
 have hb:=World.block_lt_of_cell? w _ h.c0;exact ⟨((bcell hB).1 B 0 hb).trans h.c0,((bcell hB).1 B 1 hb).trans h.c1,((bcell hB).1 B 2 hb).trans h.c2,((bcell hB).1 B 3 hb).trans h.c3,((bcell hB).1 B 4 hb).trans h.c4,((bcell hB).1 B 5 hb).trans h.c5,((bcell hB).1 B 6 hb).trans h.c6,((bcell hB).1 B 7 hb).trans h.c7,((bcell hB).1 B 8 hb).trans h.c8,((bcell hB).1 B 9 hb).trans h.c9,((bcell hB).1 B 10 hb).trans h.c10⟩
theorem BoxV4.new (w:World) (p:P4) {t:TypeId}:BoxV4 (w.alloc (.cells (P4V p).toArray t)) w.heap.size p:=⟨cell_new rfl,cell_new rfl,cell_new rfl,cell_new rfl,cell_new rfl,cell_new rfl,cell_new rfl,cell_new rfl,cell_new rfl,cell_new rfl,cell_new rfl⟩
section
variable {H:Type} {enc:TypeId × Value→H} {w:World} {base:Nat} {spare:Nat→Bool} {held:Bool}
theorem open_V4 {r:Reach} {b0:Nat} {v:Value} {d:DataW H} {p:List MemPlace} (hv:Value.okWide Tryz.prog w r b0 32 v) (h:DataW.Trod enc Tryz.prog w base spare held 32 v d p) :
  ∃ q:P4,v=p4C q∧P4Wf q:=by
 obtain ⟨cs,rfl,hsz⟩:=okWide_struct Tryz.underlying32 hv;obtain ⟨c0,c1,c2,c3,c4,c5,c6,c7,c8,c9,c10,rfl⟩:=arr11 (hsz.trans (show Tryz.prog.cellsOf 32=11 by kernel_rfl));obtain ⟨fuel,hf⟩:=h;obtain ⟨m0,y0,h0⟩:=flat_field Tryz.underlying32 hf 0 _ rfl rfl (show Tryz.prog.cellsOf 2=1 by kernel_rfl) c0 rfl;obtain ⟨x0,e0,_,g0⟩:=DataW.trod_int Tryz.underlying2 h0;obtain ⟨m1,y1,h1⟩:=flat_field Tryz.underlying32 hf 1 _ rfl rfl (show Tryz.prog.cellsOf 2=1 by kernel_rfl) c1 rfl;obtain ⟨x1,e1,_,g1⟩:=DataW.trod_int Tryz.underlying2 h1;obtain ⟨m2,y2,h2⟩:=flat_field Tryz.underlying32 hf 2 _ rfl rfl (show Tryz.prog.cellsOf 4=1 by kernel_rfl) c2 rfl;obtain ⟨x2,e2,_⟩:=DataW.trod_bool Tryz.underlying4 h2;obtain ⟨m3,y3,h3⟩:=flat_field Tryz.underlying32 hf 3 _ rfl rfl (show Tryz.prog.cellsOf 4=1 by kernel_rfl) c3 rfl;obtain ⟨x3,e3,_⟩:=DataW.trod_bool Tryz.underlying4 h3;obtain ⟨m4,y4,h4⟩:=flat_field Tryz.underlying32 hf 4 _ rfl rfl (show Tryz.prog.cellsOf 2=1 by kernel_rfl) c4 rfl;obtain ⟨x4,e4,_,g4⟩:=DataW.trod_int Tryz.underlying2 h4;obtain ⟨m5,y5,h5⟩:=flat_field Tryz.underlying32 hf 5 _ rfl rfl (show Tryz.prog.cellsOf 2=1 by kernel_rfl) c5 rfl;obtain ⟨x5,e5,_,g5⟩:=DataW.trod_int Tryz.underlying2 h5;obtain ⟨m6,y6,h6⟩:=flat_field Tryz.underlying32 hf 6 _ rfl rfl (show Tryz.prog.cellsOf 2=1 by kernel_rfl) c6 rfl;obtain ⟨x6,e6,_,g6⟩:=DataW.trod_int Tryz.underlying2 h6;obtain ⟨m7,y7,h7⟩:=flat_field Tryz.underlying32 hf 7 _ rfl rfl (show Tryz.prog.cellsOf 9=1 by kernel_rfl) c7 rfl;obtain ⟨x7,e7,_,g7⟩:=DataW.trod_string Tryz.underlying9 h7;obtain ⟨m8,y8,h8⟩:=flat_field Tryz.underlying32 hf 8 _ rfl rfl (show Tryz.prog.cellsOf 9=1 by kernel_rfl) c8 rfl;obtain ⟨x8,e8,_,g8⟩:=DataW.trod_string Tryz.underlying9 h8;obtain ⟨m9,y9,h9⟩:=flat_field Tryz.underlying32 hf 9 _ rfl rfl (show Tryz.prog.cellsOf 9=1 by kernel_rfl) c9 rfl;obtain ⟨x9,e9,_,g9⟩:=DataW.trod_string Tryz.underlying9 h9;obtain ⟨m10,y10,h10⟩:=flat_field Tryz.underlying32 hf 10 _ rfl rfl (show Tryz.prog.cellsOf 9=1 by kernel_rfl) c10 rfl;obtain ⟨x10,e10,_,g10⟩:=DataW.trod_string Tryz.underlying9 h10;simp only [List.cons.injEq,and_true] at e0 e1 e2 e3 e4 e5 e6 e7 e8 e9 e10;subst e0 e1 e2 e3 e4 e5 e6 e7 e8 e9 e10;exact ⟨⟨x0,x1,x2,x3,x4,x5,x6,x7,x8,x9,x10⟩,rfl,wf64s g0,wf64s g1,wf64s g4,wf64s g5,wf64s g6,g7,g8,g9,g10⟩
end
theorem toV4_any (p:P4) (w:World) :
  Cb 12 #[p4C p] w (p4C p):=by
 obtain ⟨tos,id,whole,more,off,ttl,proto,src,dst,opts,data⟩:=p;unfold p4C;dsimp only;go_enter Tryz.func12,Tryz.ntmps12
 go_wp2_with fail
 refine bodyPost_ret (v:=.agg (P4R tos id whole more off ttl proto src dst opts data).toArray) (by simp [results,Tryz.results12,go_sem]) rfl ⟨rfl,?_⟩;exact (((Below.refl _ _).alloc (Nat.le_refl _) _).alloc (by simp) _).alloc (by simp; omega) _
theorem eqV4_same (p:P4) (w:World) :
  Cb 36 #[p4C p,p4C p] w (.bool true):=by
 obtain ⟨tos,id,whole,more,off,ttl,proto,src,dst,opts,data⟩:=p;unfold p4C;dsimp only;have HZ:Hid (Below w.heap.size w ((aW w (P4R tos id whole more off ttl proto src dst opts data) 40).alloc (.cells (P4R tos id whole more off ttl proto src dst opts data).toArray 40))):=((Below.refl _ _).alloc (Nat.le_refl _) _).alloc (by simp) _;go_enter Tryz.func36,Tryz.ntmps36
 go_wp2_with fail
 go_ret;exact ⟨rfl,HZ.out⟩
end Go.Proofs.YtcckaeppiamebaaGreatDoor
namespace Go.Proofs.YtcckaeppiamebaaGreatDoor
open Go.RowKit Go.PlainAid
def v4AN (p:P4):List Nat:=[p.src.size,p.dst.size,p.opts.size,p.data.size]
theorem v4N_in {p:P4} {left:Int} (h1:left≤1048576) (h:0≤szN (v4AN p) left):p.src.size≤1048576∧p.dst.size≤1048576∧p.opts.size≤1048576∧p.data.size≤1048576:=by
 have hb:=szN_bound _ _ h;exact ⟨by have:=hb p.src.size (by simp [v4AN]); omega,by have:=hb p.dst.size (by simp [v4AN]); omega,by have:=hb p.opts.size (by simp [v4AN]); omega,by have:=hb p.data.size (by simp [v4AN]); omega⟩
theorem szV4A_at (p:P4) (left:Int) (w:World) (hw:P4Wf p) (h0:0≤left) (h1:left≤1048576) :
  Cb 8 #[p4C p,iV left] w (iV (szN (v4AN p) left)):=by
 have HV0:Hid (szN (v4AN p) left=szN [p.src.size,p.dst.size,p.opts.size,p.data.size] left):=rfl;obtain ⟨q_tos,q_id,q_off,q_ttl,q_proto,q_src,q_dst,q_opts,q_data⟩:=hw;generalize szN (v4AN p) left=ans at *;obtain ⟨tos,id,whole,more,off,ttl,proto,src,dst,opts,data⟩:=p;unfold p4C;dsimp only at *;unfold maxLen at *;clear q_tos q_id q_off q_ttl q_proto;have HZ:Hid (Below w.heap.size w (w.alloc (.cells (P4R tos id whole more off ttl proto src dst opts data).toArray 32))):=(Below.refl _ _).alloc (Nat.le_refl _) _;by_cases l0:left < (src.size:Int)
 ·have HV:Hid (ans=-1):=by unfold Hid; rw [HV0.out,szN_yes l0]
  clear HV0;go_enter Tryz.func8,Tryz.ntmps8
  go_wp2_with fail
  go_ret;exact ⟨ret_int HV.out.symm,HZ.out⟩
 ·skip
  by_cases l1:left-src.size < (dst.size:Int)
  ·have HV:Hid (ans=-1):=by unfold Hid; rw [HV0.out,szN_no l0,szN_yes l1]
   clear HV0;go_enter Tryz.func8,Tryz.ntmps8
   go_wp2_with fail
   go_ret;exact ⟨ret_int HV.out.symm,HZ.out⟩
  ·skip
   by_cases l2:left-src.size-dst.size < (opts.size:Int)
   ·have HV:Hid (ans=-1):=by unfold Hid; rw [HV0.out,szN_no l0,szN_no l1,szN_yes l2]
    clear HV0;go_enter Tryz.func8,Tryz.ntmps8
    go_wp2_with fail
    go_ret;exact ⟨ret_int HV.out.symm,HZ.out⟩
   ·skip
    by_cases l3:left-src.size-dst.size-opts.size < (data.size:Int)
    ·have HV:Hid (ans=-1):=by unfold Hid; rw [HV0.out,szN_no l0,szN_no l1,szN_no l2,szN_yes l3]
     clear HV0;go_enter Tryz.func8,Tryz.ntmps8
     go_wp2_with fail
     go_ret;exact ⟨ret_int HV.out.symm,HZ.out⟩
    ·have HV:Hid (ans=left-src.size-dst.size-opts.size-data.size):=by unfold Hid; rw [HV0.out,szN_no l0,szN_no l1,szN_no l2,szN_no l3]; rfl
     clear HV0;go_enter Tryz.func8,Tryz.ntmps8
     go_wp2_with fail
     go_ret;exact ⟨ret_int HV.out.symm,HZ.out⟩
theorem any_take {α:Type} (f:α→Bool) (xs:List α) (i:Nat) (h:i < xs.length):(xs.take (i+1)).any f=((xs.take i).any f||f xs[i]):=by
 rw [List.take_succ_eq_append_getElem h,List.any_append]; simp
theorem any_at {α:Type} (f:α→Bool) (xs:List α) (i:Nat) (h:i < xs.length) (hf:f xs[i]=true):xs.any f=true:=List.any_eq_true.2 ⟨_,List.getElem_mem h,hf⟩
theorem findI_at {α:Type} (f:α→Bool) (xs:List α) (i:Nat) (h:i < xs.length) (hn:(xs.take i).any f=false) (hf:f xs[i]=true):findI f xs=i:=by
 have:xs.findIdx? f=some i:=by
  rw [List.findIdx?_eq_some_iff_getElem];refine ⟨h,hf,fun j hj=>?_⟩;have hjl:j < xs.length:=Nat.lt_trans hj h;have:=List.any_eq_false.1 hn (xs[j]) (by rw [List.mem_take_iff_getElem]; exact ⟨j,by omega,rfl⟩);simpa using this
 unfold findI; rw [this]
theorem findI_no {α:Type} (f:α→Bool) (xs:List α) (hn:xs.any f=false):findI f xs=-1:=by
 have:xs.findIdx? f=none:=by
  rw [List.findIdx?_eq_none_iff];intro x hx;have:=List.any_eq_false.1 hn x hx;simpa using this
 unfold findI; rw [this]
theorem spBProto_any (proto:Int) (w:World) :
  Cw 120 #[iV proto] w (.bool (protoB proto)):=by
 have hun:undef=Value.tuple #[]:=rfl;by_cases h0:proto=6
 ·subst h0;go_enter Tryz.func120,Tryz.ntmps120
  go_wp2_with fail
  go_ret;exact ⟨rfl,rfl⟩
 ·by_cases h1:proto=17
  ·subst h1;go_enter Tryz.func120,Tryz.ntmps120
   go_wp2_with fail
   go_ret;exact ⟨rfl,rfl⟩
  ·by_cases h2:proto=1
   ·subst h2;go_enter Tryz.func120,Tryz.ntmps120
    go_wp2_with fail
    go_ret;exact ⟨rfl,rfl⟩
   ·have HV:Hid (protoB proto=false):=by unfold Hid protoB; simp [h0,h1,h2]
    go_enter Tryz.func120,Tryz.ntmps120
    go_wp2_with fail
    go_ret;exact ⟨ret_bool (by rw [HV.out]; simp [h0,h1,h2]),rfl⟩
theorem spIn_any (xs:List ByteArray) (s:ByteArray) (a:Option Addr) (cap:Nat) (w:World) (hlen:xs.length≤1048576) (hr:SlIs strL1 1 w a xs) :
  Cb 69 #[.slice a xs.length cap,.string s] w (.bool (inL xs s)):=by
 have HR:Hid (SlIs strL1 1 w a xs):=hr;have HV:Hid (inL xs s=xs.any fun t=>decide (t.toList=s.toList)):=rfl;generalize inL xs s=ans at *;clear hr;go_enter Tryz.func69,Tryz.ntmps69
 go_wp2_with fail
 go_loopw [5] (fun iv wr=>∃ i:Nat,i≤xs.length∧iv=iV i∧(xs.take i).any (fun t=>decide (t.toList=s.toList))=false∧Below w.heap.size w wr) (fun iv _=>xs.length-(intOf iv).toNat)
 case atStart=>exact ⟨0,Nat.zero_le _,rfl,rfl,Below.refl _ _⟩
 case round =>
  obtain ⟨i,hi,rfl,hn,hbel⟩:=hrel;have HN:Hid ((xs.take i).any (fun t=>decide (t.toList=s.toList))=false):=hn;have HL:Hid (Below w.heap.size w wr):=hbel;clear hn hbel;by_cases hlt:i < xs.length
  ·obtain ⟨b,off,rfl,hb,hat⟩:=HR.out.at hlt;have hA:=(hat.below hb HL.out) i hlt;have HST:Hid _:=any_take (fun t:ByteArray=>decide (t.toList=s.toList)) xs i hlt;have HAT:Hid _:=any_at (fun t:ByteArray=>decide (t.toList=s.toList)) xs i hlt;obtain ⟨t,ht⟩ : ∃ t,xs[i]=t:=⟨_,rfl⟩;rw [ht] at hA HST HAT;have c0:wr.cell? ⟨b,off+i,none⟩=some (.string t):=by have:=hA 0 _ rfl; simpa using this
   have c0':wr.cell? ⟨b,off+i*1,none⟩=some (.string t):=by simpa using c0
   clear hA hat ht;by_cases he:t.toList=s.toList
   ·have HX:Hid (ans=true):=by unfold Hid; rw [HV.out]; exact HAT.out (decide_eq_true he)
    have hbq:(t.toList==s.toList)=true:=by simp [he]
    clear he;go_wp2_with fail
    go_ret;exact ⟨ret_bool HX.out.symm,HL.out⟩
   ·have HN2:Hid ((xs.take (i+1)).any (fun t=>decide (t.toList=s.toList))=false):=by unfold Hid; rw [HST.out,HN.out,decide_eq_false he]; rfl
    have hbq:(t.toList==s.toList)=false:=by simp [he]
    clear he;go_wp2_with fail
    go_roundw
    case rel=>exact ⟨i+1,by omega,by go_num,HN2.out,HL.out⟩
    case measure=>simp [intOf]; omega
  ·have hie:i=xs.length:=by omega
   have HX:Hid (ans=false):=by unfold Hid; have:=HN.out; rw [hie,List.take_length] at this; rw [HV.out]; exact this
   go_wp2_with fail
   go_ret;exact ⟨ret_bool HX.out.symm,HL.out⟩
theorem spBind_any (xs:List Bd) (proto:Int) (s:ByteArray) (port:Int) (a:Option Addr) (cap:Nat) (sv:Value) (w:World) (hlen:xs.length≤1048576) (hr:SlIs bdL 5 w a xs) :
  Cb 122 #[.agg #[.slice a xs.length cap,sv],iV proto,.string s,iV port] w (iV (findI (ofIn proto s port) xs)):=by
 have HB0:Hid (HoldsL (w.alloc (.cells [.slice a xs.length cap,sv].toArray 39)) w.heap.size [.slice a xs.length cap,sv]):=HoldsL.new w _ _;have HZ:Hid (Below w.heap.size w (w.alloc (.cells [.slice a xs.length cap,sv].toArray 39))):=(Below.refl _ _).alloc (Nat.le_refl _) _;have HR:Hid (SlIs bdL 5 (w.alloc (.cells [.slice a xs.length cap,sv].toArray 39)) a xs):=hr.below HZ.out;rw [show [.slice a xs.length cap,sv].toArray=#[.slice a xs.length cap,sv] from rfl] at HB0 HZ HR;obtain ⟨f,hf⟩ : ∃ f,f=ofIn proto s port:=⟨_,rfl⟩;rw [← hf];have HF:Hid (∀ q,f q=(decide (q.proto=proto)&&decide (q.inn.toList=s.toList)&&decide (q.inPort=port))):=fun q=>by rw [hf]; rfl
 clear hr hf;go_enter Tryz.func122,Tryz.ntmps122
 go_wp2_with fail
 generalize w.alloc (.cells #[.slice a xs.length cap,sv] 39)=W0 at *;have hX0:w.heap.size < W0.heap.size:=HB0.out.lt (by simp);generalize hX:w.heap.size=X at *;go_loopw [9] (fun iv wr=>∃ i:Nat,i≤xs.length∧iv=iV i∧(xs.take i).any f=false∧Below W0.heap.size W0 wr) (fun iv _=>xs.length-(intOf iv).toNat)
 case atStart=>exact ⟨0,Nat.zero_le _,rfl,rfl,Below.refl _ _⟩
 case round =>
  obtain ⟨i,hi,rfl,hn,hbel⟩:=hrel;have HN:Hid ((xs.take i).any f=false):=hn;have HL:Hid (Below W0.heap.size W0 wr):=hbel;have HW:Hid _:=HZ.out.trans (hbel.mono (by omega));have x0:wr.cell? ⟨X,0,none⟩=some (.slice a xs.length cap):=(HB0.out.kept (by simp) hbel).cell rfl;clear hn hbel;by_cases hlt:i < xs.length
  ·obtain ⟨b,off,rfl,hb,hat⟩:=HR.out.at hlt;have hA:=(hat.below hb HL.out) i hlt;have HST:Hid _:=any_take f xs i hlt;have HAT:Hid _:=findI_at f xs i hlt HN.out;obtain ⟨q,hq⟩ : ∃ q,xs[i]=q:=⟨_,rfl⟩;rw [hq] at hA HST HAT;have hfq:=HF.out q;have c0:wr.cell? ⟨b,off+i*5,none⟩=some (iV q.proto):=hA 0 _ rfl;have c1:wr.cell? ⟨b,off+i*5+1,none⟩=some (.string q.inn):=hA 1 _ rfl;have c2:wr.cell? ⟨b,off+i*5+2,none⟩=some (iV q.inPort):=hA 2 _ rfl;have c3:wr.cell? ⟨b,off+i*5+3,none⟩=some (.string q.out):=hA 3 _ rfl;have c4:wr.cell? ⟨b,off+i*5+4,none⟩=some (iV q.outPort):=hA 4 _ rfl;have HFQ:Hid _:=hfq;have L8:Hid (Below W0.heap.size W0 (wr.alloc (.cells (BdV q).toArray 94))):=HL.out.alloc HL.out.size _;have W8:Hid (Below X w (wr.alloc (.cells (BdV q).toArray 94))):=HW.out.alloc (by have:=HL.out.size; omega) _;have K8:Hid (BoxBind (wr.alloc (.cells (BdV q).toArray 94)) wr.heap.size q):=BoxBind.new wr q;clear hA hat hq hfq;go_upto_region 5 with fail
   clear c0 c1 c2 c3 c4 x0 HL HW;generalize wr.alloc (.cells (BdV q).toArray 94)=V8 at *;generalize wr.heap.size=Y at *;obtain ⟨k0,k1,k2,k3,k4⟩:=K8.out;go_cut [38] (fun v wx=>v=.bool (f q)∧wx=V8)
   case first =>
    by_cases d0:q.proto=proto
    ·by_cases d1:q.inn.toList=s.toList
     ·by_cases d2:q.inPort=port
      ·have HG:Hid (f q=true):=by unfold Hid; rw [HFQ.out,decide_eq_true d0,decide_eq_true d1,decide_eq_true d2]; rfl
       go_wp2_with fail
       go_meet;rw [HG.out];first | exact ⟨rfl,rfl⟩ | simp [d2]
      ·have HG:Hid (f q=false):=by unfold Hid; rw [HFQ.out,decide_eq_true d0,decide_eq_true d1,decide_eq_false d2]; rfl
       go_wp2_with fail
       go_meet;rw [HG.out];first | exact ⟨rfl,rfl⟩ | simp [d2]
     ·have HG:Hid (f q=false):=by unfold Hid; rw [HFQ.out,decide_eq_false d1]; simp
      go_wp2_with fail
      go_meet;rw [HG.out];first | exact ⟨rfl,rfl⟩ | simp [d1]
    ·have HG:Hid (f q=false):=by unfold Hid; rw [HFQ.out,decide_eq_false d0]; simp
     go_wp2_with fail
     go_meet;rw [HG.out];first | exact ⟨rfl,rfl⟩ | simp [d0]
   case rest =>
   obtain ⟨rfl,rfl⟩:=hcut;clear k0 k1 k2 k3 k4
   cases hfq:f q with
   | true =>
    have HX:Hid (findI f xs=(i:Int)):=HAT.out hfq;go_wp2_with fail
    go_ret;exact ⟨ret_int HX.out.symm,by rw [hX]; exact W8.out⟩
   | false =>
    have HN2:Hid ((xs.take (i+1)).any f=false):=by unfold Hid; rw [HST.out,HN.out,hfq]; rfl
    go_wp2_with fail
    go_roundw
    case rel=>exact ⟨i+1,by omega,by go_num,HN2.out,L8.out⟩
    case measure=>simp [intOf]; omega
  ·have hie:i=xs.length:=by omega
   have HX:Hid (findI f xs=-1):=by unfold Hid; have:=HN.out; rw [hie,List.take_length] at this; exact findI_no f xs this
   go_wp2_with fail
   go_ret;exact ⟨ret_int HX.out.symm,by rw [hX]; exact HW.out⟩
theorem spAt_any (xs:List Bd) (proto:Int) (s:ByteArray) (port:Int) (a:Option Addr) (cap:Nat) (sv:Value) (w:World) (hlen:xs.length≤1048576) (hr:SlIs bdL 5 w a xs) :
  Cb 123 #[.agg #[.slice a xs.length cap,sv],iV proto,.string s,iV port] w (iV (findI (ofOut proto s port) xs)):=by
 have HB0:Hid (HoldsL (w.alloc (.cells [.slice a xs.length cap,sv].toArray 39)) w.heap.size [.slice a xs.length cap,sv]):=HoldsL.new w _ _;have HZ:Hid (Below w.heap.size w (w.alloc (.cells [.slice a xs.length cap,sv].toArray 39))):=(Below.refl _ _).alloc (Nat.le_refl _) _;have HR:Hid (SlIs bdL 5 (w.alloc (.cells [.slice a xs.length cap,sv].toArray 39)) a xs):=hr.below HZ.out;rw [show [.slice a xs.length cap,sv].toArray=#[.slice a xs.length cap,sv] from rfl] at HB0 HZ HR;obtain ⟨f,hf⟩ : ∃ f,f=ofOut proto s port:=⟨_,rfl⟩;rw [← hf];have HF:Hid (∀ q,f q=(decide (q.proto=proto)&&decide (q.out.toList=s.toList)&&decide (q.outPort=port))):=fun q=>by rw [hf]; rfl
 clear hr hf;go_enter Tryz.func123,Tryz.ntmps123
 go_wp2_with fail
 generalize w.alloc (.cells #[.slice a xs.length cap,sv] 39)=W0 at *;have hX0:w.heap.size < W0.heap.size:=HB0.out.lt (by simp);generalize hX:w.heap.size=X at *;go_loopw [9] (fun iv wr=>∃ i:Nat,i≤xs.length∧iv=iV i∧(xs.take i).any f=false∧Below W0.heap.size W0 wr) (fun iv _=>xs.length-(intOf iv).toNat)
 case atStart=>exact ⟨0,Nat.zero_le _,rfl,rfl,Below.refl _ _⟩
 case round =>
  obtain ⟨i,hi,rfl,hn,hbel⟩:=hrel;have HN:Hid ((xs.take i).any f=false):=hn;have HL:Hid (Below W0.heap.size W0 wr):=hbel;have HW:Hid _:=HZ.out.trans (hbel.mono (by omega));have x0:wr.cell? ⟨X,0,none⟩=some (.slice a xs.length cap):=(HB0.out.kept (by simp) hbel).cell rfl;clear hn hbel;by_cases hlt:i < xs.length
  ·obtain ⟨b,off,rfl,hb,hat⟩:=HR.out.at hlt;have hA:=(hat.below hb HL.out) i hlt;have HST:Hid _:=any_take f xs i hlt;have HAT:Hid _:=findI_at f xs i hlt HN.out;obtain ⟨q,hq⟩ : ∃ q,xs[i]=q:=⟨_,rfl⟩;rw [hq] at hA HST HAT;have hfq:=HF.out q;have c0:wr.cell? ⟨b,off+i*5,none⟩=some (iV q.proto):=hA 0 _ rfl;have c1:wr.cell? ⟨b,off+i*5+1,none⟩=some (.string q.inn):=hA 1 _ rfl;have c2:wr.cell? ⟨b,off+i*5+2,none⟩=some (iV q.inPort):=hA 2 _ rfl;have c3:wr.cell? ⟨b,off+i*5+3,none⟩=some (.string q.out):=hA 3 _ rfl;have c4:wr.cell? ⟨b,off+i*5+4,none⟩=some (iV q.outPort):=hA 4 _ rfl;have HFQ:Hid _:=hfq;have L8:Hid (Below W0.heap.size W0 (wr.alloc (.cells (BdV q).toArray 94))):=HL.out.alloc HL.out.size _;have W8:Hid (Below X w (wr.alloc (.cells (BdV q).toArray 94))):=HW.out.alloc (by have:=HL.out.size; omega) _;have K8:Hid (BoxBind (wr.alloc (.cells (BdV q).toArray 94)) wr.heap.size q):=BoxBind.new wr q;clear hA hat hq hfq;go_upto_region 5 with fail
   clear c0 c1 c2 c3 c4 x0 HL HW;generalize wr.alloc (.cells (BdV q).toArray 94)=V8 at *;generalize wr.heap.size=Y at *;obtain ⟨k0,k1,k2,k3,k4⟩:=K8.out;go_cut [38] (fun v wx=>v=.bool (f q)∧wx=V8)
   case first =>
    by_cases d0:q.proto=proto
    ·by_cases d1:q.out.toList=s.toList
     ·by_cases d2:q.outPort=port
      ·have HG:Hid (f q=true):=by unfold Hid; rw [HFQ.out,decide_eq_true d0,decide_eq_true d1,decide_eq_true d2]; rfl
       go_wp2_with fail
       go_meet;rw [HG.out];first | exact ⟨rfl,rfl⟩ | simp [d2]
      ·have HG:Hid (f q=false):=by unfold Hid; rw [HFQ.out,decide_eq_true d0,decide_eq_true d1,decide_eq_false d2]; rfl
       go_wp2_with fail
       go_meet;rw [HG.out];first | exact ⟨rfl,rfl⟩ | simp [d2]
     ·have HG:Hid (f q=false):=by unfold Hid; rw [HFQ.out,decide_eq_false d1]; simp
      go_wp2_with fail
      go_meet;rw [HG.out];first | exact ⟨rfl,rfl⟩ | simp [d1]
    ·have HG:Hid (f q=false):=by unfold Hid; rw [HFQ.out,decide_eq_false d0]; simp
     go_wp2_with fail
     go_meet;rw [HG.out];first | exact ⟨rfl,rfl⟩ | simp [d0]
   case rest =>
   obtain ⟨rfl,rfl⟩:=hcut;clear k0 k1 k2 k3 k4
   cases hfq:f q with
   | true =>
    have HX:Hid (findI f xs=(i:Int)):=HAT.out hfq;go_wp2_with fail
    go_ret;exact ⟨ret_int HX.out.symm,by rw [hX]; exact W8.out⟩
   | false =>
    have HN2:Hid ((xs.take (i+1)).any f=false):=by unfold Hid; rw [HST.out,HN.out,hfq]; rfl
    go_wp2_with fail
    go_roundw
    case rel=>exact ⟨i+1,by omega,by go_num,HN2.out,L8.out⟩
    case measure=>simp [intOf]; omega
  ·have hie:i=xs.length:=by omega
   have HX:Hid (findI f xs=-1):=by unfold Hid; have:=HN.out; rw [hie,List.take_length] at this; exact findI_no f xs this
   go_wp2_with fail
   go_ret;exact ⟨ret_int HX.out.symm,by rw [hX]; exact HW.out⟩
def bdZ:Bd:=⟨0,⟨#[]⟩,0,⟨#[]⟩,0⟩
theorem findBd_at (f:Bd→Bool) (xs:List Bd) (h:¬ findI f xs < 0):∃ i:Nat,∃ hi:i < xs.length,findI f xs=i∧xs.find? f=some xs[i]:=by
 unfold findI at *
 cases hf:xs.findIdx? f with
 | none=>rw [hf] at h; exact absurd (by decide) h
 | some i =>
  obtain ⟨hi,hfi,hn⟩:=List.findIdx?_eq_some_iff_getElem.1 hf;exact ⟨i,hi,rfl,List.find?_eq_some_iff_getElem.2 ⟨hfi,i,hi,rfl,fun j hj=>by simpa using hn j hj⟩⟩
theorem find_no (f:Bd→Bool) (xs:List Bd) (h:findI f xs < 0):xs.find? f=none:=by
 unfold findI at h
 cases hf:xs.findIdx? f with
 | none=>exact List.find?_eq_none.2 (fun x hx=>by have:=List.findIdx?_eq_none_iff.1 hf x hx; simp [this])
 | some i=>rw [hf] at h; simp only at h; omega
theorem spHas_any (p:Bd) (q:Ss) (w:World) :
  Cb 78 #[bdC p,ssC q] w (.bool (hasS p q)):=by
 have HV:Hid (hasS p q=(decide (p.proto=q.proto)&&decide (p.inn.toList=q.inn.toList)&&decide (p.inPort=q.inPort))):=rfl;generalize hasS p q=ans at *;obtain ⟨proto,inn,inPort,out,outPort⟩:=p;obtain ⟨proto',inn',inPort',peer',peerPort',state',untl'⟩:=q;unfold bdC ssC;dsimp only at *;have HZ:Hid (∀ o1 o2,Below w.heap.size w ((w.alloc o1).alloc o2)):=fun o1 o2=>((Below.refl _ _).alloc (Nat.le_refl _) _).alloc (by simp) _
 go_enter Tryz.func78,Tryz.ntmps78
 go_wp2_with fail
 all_goals go_ret
 all_goals exact ⟨ret_bool (by rw [HV.out]; simp_all; try rfl),HZ.out _ _⟩
end Go.Proofs.YtcckaeppiamebaaGreatDoor
namespace Go.Proofs.YtcckaeppiamebaaGreatDoor
open Go.RowKit
def ofHost (inn:ByteArray) (c:Bd):Bool:=decide (c.inn.toList=inn.toList)
def outD (p:Pl) (inn:ByteArray):ByteArray:=(p.addrs[(sumV inn).toNat % p.addrs.length]?).getD ⟨#[]⟩
def outIn (xs:List Bd) (d inn:ByteArray):ByteArray:=match xs.find? (ofHost inn) with | some c=>c.out | none=>d
def freeP (xs:List Bd) (proto:Int) (out:ByteArray) (n:Int):Bool:=decide (findI (ofOut proto out n) xs < 0)
def leastN (f:Int→Bool):Int→Nat→Option Int
 | _,0=>none
 | lo,c+1=>if f lo=true then some lo else leastN f (lo+1) c
def lendN (p:Pl) (xs:List Bd) (proto:Int) (out:ByteArray) (port:Int):Option Int :=
 if (isIn port p.low p.high&&freeP xs proto out port)=true then some port
 else match leastN (fun n=>decide (n % 2=port % 2)&&freeP xs proto out n) p.low (p.high-p.low+1).toNat with
  | some n=>some n
  | none=>leastN (freeP xs proto out) p.low (p.high-p.low+1).toNat
def lendV (p:Pl) (xs:List Bd) (proto:Int) (inn:ByteArray) (port:Int):Bd × Int :=
 match xs.find? (ofIn proto inn port) with
 | some c=>(c,0)
 | none=>match lendN p xs proto (outIn xs (outD p inn) inn) port with
  | some n=>(⟨proto,inn,port,outIn xs (outD p inn) inn,n⟩,0)
  | none=>(bdZ,9)
theorem leastN_step {f:Int→Bool} {n hi:Int} (h:n≤hi):leastN f n (hi-n+1).toNat=if f n=true then some n else leastN f (n+1) (hi-(n+1)+1).toNat:=by
 obtain ⟨c,hc⟩ : ∃ c:Nat,(hi-n+1).toNat=c+1:=⟨(hi-n).toNat,by omega⟩;rw [hc];show (if f n=true then some n else leastN f (n+1) c)=_;rw [show (hi-(n+1)+1).toNat=c by omega]
theorem leastN_end {f:Int→Bool} {n hi:Int} (h:hi < n):leastN f n (hi-n+1).toNat=none:=by
 rw [show (hi-n+1).toNat=0 by omega]; rfl
theorem outIn_step {xs:List Bd} {d inn:ByteArray} {i:Nat} (h:i < xs.length):outIn (xs.drop i) d inn=if ofHost inn xs[i]=true then xs[i].out else outIn (xs.drop (i+1)) d inn:=by
 unfold outIn;rw [List.drop_eq_getElem_cons h,List.find?_cons]
 cases hb:ofHost inn xs[i]<;>simp
end Go.Proofs.YtcckaeppiamebaaGreatDoor
/- SV4: what the specification's l01Is, l01Byte and V4Right answer. -/
namespace Go.Proofs.YtcckaeppiamebaaGreatDoor
open Go.RowKit Go.PlainAid
set_option linter.unusedVariables false
set_option linter.unusedSimpArgs false

theorem specIs_any (n lo hi : Int) (w : World) :
  Cw 81 #[iV n, iV lo, iV hi] w (.bool (isIn n lo hi)) := by
 by_cases h1 : lo ≤ n
 ·by_cases h2 : n ≤ hi
  ·have HV : Hid (isIn n lo hi = true) := by unfold Hid isIn; simp [h1, h2]
   go_enter Tryz.func81, Tryz.ntmps81
   go_wp2_with fail
   go_ret
   exact ⟨ret_bool (by rw [HV.out]), rfl⟩
  ·have HV : Hid (isIn n lo hi = false) := by unfold Hid isIn; simp [h2]
   go_enter Tryz.func81, Tryz.ntmps81
   go_wp2_with fail
   go_ret
   exact ⟨ret_bool (by rw [HV.out]), rfl⟩
 ·have HV : Hid (isIn n lo hi = false) := by unfold Hid isIn; simp [h1]
  have h1' : n < lo := by omega
  go_enter Tryz.func81, Tryz.ntmps81
  go_wp2_with fail
  go_ret
  exact ⟨ret_bool (by rw [HV.out]), rfl⟩

theorem specByte_any (n : Int) (w : World) :
  Cw 79 #[iV n] w (.bool (isIn n 0 255)) := by
 have HC : Hid (∀ W, Cw 81 #[iV n, iV 0, iV 255] W (.bool (isIn n 0 255))) := fun W => specIs_any n 0 255 W
 generalize isIn n 0 255 = b at *
 go_enter Tryz.func79, Tryz.ntmps79
 go_wp2_with fail
 refine (HC.out _).mono ?_
 rintro e w2 ⟨rfl, rfl⟩
 go_wp2_with fail
 go_ret
 exact ⟨rfl, rfl⟩

set_option maxRecDepth 100000 in
set_option maxHeartbeats 2000000 in
theorem specV4Right_any (p : P4) (w : World) (h1 : p.src.size ≤ 1048576) (h2 : p.dst.size ≤ 1048576) (h3 : p.opts.size ≤ 1048576) (h4 : p.data.size ≤ 1048576) :
  Cb 51 #[p4C p] w (.bool (v4Ok p)) := by
 have HB1 : Hid (∀ W, Cw 79 #[iV p.tos] W (.bool (isIn p.tos 0 255))) := fun W => specByte_any p.tos W
 have HB2 : Hid (∀ W, Cw 79 #[iV p.ttl] W (.bool (isIn p.ttl 0 255))) := fun W => specByte_any p.ttl W
 have HB3 : Hid (∀ W, Cw 79 #[iV p.proto] W (.bool (isIn p.proto 0 255))) := fun W => specByte_any p.proto W
 have HB4 : Hid (∀ W, Cw 80 #[iV p.id] W (.bool (isIn p.id 0 65535))) := fun W => specWordIs_any p.id W
 have HB5 : Hid (∀ W, Cw 81 #[iV p.off, iV 0, iV 8191] W (.bool (isIn p.off 0 8191))) := fun W => specIs_any p.off 0 8191 W
 have HO : Hid (isIn p.off 0 8191 = true → 0 ≤ p.off ∧ p.off ≤ 8191) := fun h => isIn_parts h
 have HA : Hid (v4A p = (isIn p.tos 0 255 && isIn p.ttl 0 255 && isIn p.proto 0 255 && isIn p.id 0 65535 && isIn p.off 0 8191 && decide (p.src.size = 4) && decide (p.dst.size = 4))) := rfl
 have HF : Hid (v4A p = false → v4Ok p = false) := fun h => by unfold v4Ok; rw [h]; rfl
 have HF2 : Hid (v4A p = true → v4B p = false → v4Ok p = false) := fun h h' => by unfold v4Ok; rw [h, h']; rfl
 have HF3 : Hid (v4A p = true → v4B p = true → v4Ok p = v4C p) := fun h h' => by unfold v4Ok; rw [h, h']; rfl
 have HBB : Hid (v4B p = (decide (p.opts.size ≤ 40) && decide (p.opts.size % 4 = 0) && decide (p.data.size ≤ 1400) && !(p.more && !decide (p.data.size % 8 = 0)) && decide (8 * p.off + p.data.size ≤ 65515))) := rfl
 have HCC : Hid (v4C p = (!p.whole || (!p.more && decide (p.off = 0)))) := rfl
 generalize v4A p = vA at *
 generalize v4B p = vB at *
 generalize v4C p = vC at *
 generalize v4Ok p = ok at *
 obtain ⟨tos, id, whole, more, off, ttl, proto, src, dst, opts, data⟩ := p
 unfold p4C
 dsimp only at *
 have HZ : Hid (Below w.heap.size w (w.alloc (.cells #[iV tos, iV id, .bool whole, .bool more, iV off, iV ttl, iV proto, .string src, .string dst, .string opts, .string data] 40))) := (Below.refl _ _).alloc (Nat.le_refl _) _
 cases b1 : isIn tos 0 255 with
 | false =>
  have HV : Hid (ok = false) := HF.out (by rw [HA.out, b1]; simp)
  rw [b1] at HB1
  clear b1 HA HF HF2 HF3 HBB HCC HO
  go_enter Tryz.func51, Tryz.ntmps51
  go_wp2_with fail
  refine (HB1.out _).mono ?_
  rintro e w2 ⟨rfl, rfl⟩
  go_wp2_with fail
  go_ret
  exact ⟨ret_bool HV.out.symm, HZ.out⟩
 | true =>
  rw [b1] at HB1
  cases b2 : isIn ttl 0 255 with
  | false =>
   have HV : Hid (ok = false) := HF.out (by rw [HA.out, b2]; simp)
   rw [b2] at HB2
   clear b2 HA HF HF2 HF3 HBB HCC HO
   go_enter Tryz.func51, Tryz.ntmps51
   go_wp2_with fail
   refine (HB1.out _).mono ?_
   rintro e w2 ⟨rfl, rfl⟩
   go_wp2_with fail
   refine (HB2.out _).mono ?_
   rintro e w2 ⟨rfl, rfl⟩
   go_wp2_with fail
   go_ret
   exact ⟨ret_bool HV.out.symm, HZ.out⟩
  | true =>
   rw [b2] at HB2
   cases b3 : isIn proto 0 255 with
   | false =>
    have HV : Hid (ok = false) := HF.out (by rw [HA.out, b3]; simp)
    rw [b3] at HB3
    clear b3 HA HF HF2 HF3 HBB HCC HO
    go_enter Tryz.func51, Tryz.ntmps51
    go_wp2_with fail
    refine (HB1.out _).mono ?_
    rintro e w2 ⟨rfl, rfl⟩
    go_wp2_with fail
    refine (HB2.out _).mono ?_
    rintro e w2 ⟨rfl, rfl⟩
    go_wp2_with fail
    refine (HB3.out _).mono ?_
    rintro e w2 ⟨rfl, rfl⟩
    go_wp2_with fail
    go_ret
    exact ⟨ret_bool HV.out.symm, HZ.out⟩
   | true =>
    rw [b3] at HB3
    cases b4 : isIn id 0 65535 with
    | false =>
     have HV : Hid (ok = false) := HF.out (by rw [HA.out, b4]; simp)
     rw [b4] at HB4
     clear b4 HA HF HF2 HF3 HBB HCC HO
     go_enter Tryz.func51, Tryz.ntmps51
     go_wp2_with fail
     refine (HB1.out _).mono ?_
     rintro e w2 ⟨rfl, rfl⟩
     go_wp2_with fail
     refine (HB2.out _).mono ?_
     rintro e w2 ⟨rfl, rfl⟩
     go_wp2_with fail
     refine (HB3.out _).mono ?_
     rintro e w2 ⟨rfl, rfl⟩
     go_wp2_with fail
     refine (HB4.out _).mono ?_
     rintro e w2 ⟨rfl, rfl⟩
     go_wp2_with fail
     go_ret
     exact ⟨ret_bool HV.out.symm, HZ.out⟩
    | true =>
     rw [b4] at HB4
     cases b5 : isIn off 0 8191 with
     | false =>
      have HV : Hid (ok = false) := HF.out (by rw [HA.out, b5]; simp)
      rw [b5] at HB5
      clear b5 HA HF HF2 HF3 HBB HCC HO
      go_enter Tryz.func51, Tryz.ntmps51
      go_wp2_with fail
      refine (HB1.out _).mono ?_
      rintro e w2 ⟨rfl, rfl⟩
      go_wp2_with fail
      refine (HB2.out _).mono ?_
      rintro e w2 ⟨rfl, rfl⟩
      go_wp2_with fail
      refine (HB3.out _).mono ?_
      rintro e w2 ⟨rfl, rfl⟩
      go_wp2_with fail
      refine (HB4.out _).mono ?_
      rintro e w2 ⟨rfl, rfl⟩
      go_wp2_with fail
      refine (HB5.out _).mono ?_
      rintro e w2 ⟨rfl, rfl⟩
      go_wp2_with fail
      go_ret
      exact ⟨ret_bool HV.out.symm, HZ.out⟩
     | true =>
      rw [b5] at HB5
      obtain ⟨o0, o1⟩ := HO.out b5
      by_cases s1 : src.size = 4
      ·have ds1 : ((src.size : Int) != 4) = false := by simp; omega
       by_cases s2 : dst.size = 4
       ·have ds2 : ((dst.size : Int) != 4) = false := by simp; omega
        have hA : vA = true := by rw [HA.out, b1, b2, b3, b4, b5, decide_eq_true s1, decide_eq_true s2]; rfl
        have HG2 : Hid (vB = false → ok = false) := HF2.out hA
        have HG3 : Hid (vB = true → ok = vC) := HF3.out hA
        clear hA HA HF HF2 HF3 HO b1 b2 b3 b4 b5 s1 s2
        by_cases e0 : opts.size ≤ 40
        ·have dT0 : decide ((40 : Int) < (opts.size : Int)) = false := by simp; omega
         by_cases e1 : opts.size % 4 = 0
         ·have dT1 : (((opts.size : Int) % 4) != 0) = false := by simp; omega
          by_cases e2 : data.size ≤ 1400
          ·have dT2 : decide ((1400 : Int) < (data.size : Int)) = false := by simp; omega
           have em : (more && !decide (data.size % 8 = 0)) = false ∨ (more = true ∧ data.size % 8 ≠ 0) := by cases more <;> simp <;> omega
           rcases em with em | ⟨rfl, em⟩
           ·have dm : more = true → (((data.size : Int) % 8) != 0) = false := fun h => by rw [h] at em; simp at em; simp; omega
            by_cases e9 : 8 * off + data.size ≤ 65515
            ·have d9 : decide ((65515 : Int) < 8 * off + (data.size : Int)) = false := by simp; omega
             have HV : Hid (ok = (!whole || (!more && decide (off = 0)))) := by unfold Hid; rw [← HCC.out]; exact HG3.out (by rw [HBB.out, em, decide_eq_true e0, decide_eq_true e1, decide_eq_true e2, decide_eq_true e9]; rfl)
             clear HG2 HG3 HBB HCC em
             cases more with
             | false =>
              clear dm
              cases whole with
              | false =>
               go_enter Tryz.func51, Tryz.ntmps51
               go_wp2_with fail
               refine (HB1.out _).mono ?_
               rintro e w2 ⟨rfl, rfl⟩
               go_wp2_with fail
               refine (HB2.out _).mono ?_
               rintro e w2 ⟨rfl, rfl⟩
               go_wp2_with fail
               refine (HB3.out _).mono ?_
               rintro e w2 ⟨rfl, rfl⟩
               go_wp2_with fail
               refine (HB4.out _).mono ?_
               rintro e w2 ⟨rfl, rfl⟩
               go_wp2_with fail
               refine (HB5.out _).mono ?_
               rintro e w2 ⟨rfl, rfl⟩
               go_wp2_with fail
               go_ret
               exact ⟨ret_bool (by rw [HV.out]; rfl), HZ.out⟩
              | true =>
               go_enter Tryz.func51, Tryz.ntmps51
               go_wp2_with fail
               refine (HB1.out _).mono ?_
               rintro e w2 ⟨rfl, rfl⟩
               go_wp2_with fail
               refine (HB2.out _).mono ?_
               rintro e w2 ⟨rfl, rfl⟩
               go_wp2_with fail
               refine (HB3.out _).mono ?_
               rintro e w2 ⟨rfl, rfl⟩
               go_wp2_with fail
               refine (HB4.out _).mono ?_
               rintro e w2 ⟨rfl, rfl⟩
               go_wp2_with fail
               refine (HB5.out _).mono ?_
               rintro e w2 ⟨rfl, rfl⟩
               go_wp2_with fail
               go_ret
               exact ⟨ret_bool (by rw [HV.out]; rfl), HZ.out⟩
             | true =>
              have dm := dm rfl
              cases whole with
              | false =>
               go_enter Tryz.func51, Tryz.ntmps51
               go_wp2_with fail
               refine (HB1.out _).mono ?_
               rintro e w2 ⟨rfl, rfl⟩
               go_wp2_with fail
               refine (HB2.out _).mono ?_
               rintro e w2 ⟨rfl, rfl⟩
               go_wp2_with fail
               refine (HB3.out _).mono ?_
               rintro e w2 ⟨rfl, rfl⟩
               go_wp2_with fail
               refine (HB4.out _).mono ?_
               rintro e w2 ⟨rfl, rfl⟩
               go_wp2_with fail
               refine (HB5.out _).mono ?_
               rintro e w2 ⟨rfl, rfl⟩
               go_wp2_with fail
               go_ret
               exact ⟨ret_bool (by rw [HV.out]; rfl), HZ.out⟩
              | true =>
               go_enter Tryz.func51, Tryz.ntmps51
               go_wp2_with fail
               refine (HB1.out _).mono ?_
               rintro e w2 ⟨rfl, rfl⟩
               go_wp2_with fail
               refine (HB2.out _).mono ?_
               rintro e w2 ⟨rfl, rfl⟩
               go_wp2_with fail
               refine (HB3.out _).mono ?_
               rintro e w2 ⟨rfl, rfl⟩
               go_wp2_with fail
               refine (HB4.out _).mono ?_
               rintro e w2 ⟨rfl, rfl⟩
               go_wp2_with fail
               refine (HB5.out _).mono ?_
               rintro e w2 ⟨rfl, rfl⟩
               go_wp2_with fail
               go_ret
               exact ⟨ret_bool (by rw [HV.out]; rfl), HZ.out⟩
            ·have HV : Hid (ok = false) := HG2.out (by rw [HBB.out, decide_eq_false e9]; simp)
             have d9 : decide ((65515 : Int) < 8 * off + (data.size : Int)) = true := by simp; omega
             clear HG2 HG3 HBB HCC
             cases more with
             | false =>
              clear dm
              go_enter Tryz.func51, Tryz.ntmps51
              go_wp2_with fail
              refine (HB1.out _).mono ?_
              rintro e w2 ⟨rfl, rfl⟩
              go_wp2_with fail
              refine (HB2.out _).mono ?_
              rintro e w2 ⟨rfl, rfl⟩
              go_wp2_with fail
              refine (HB3.out _).mono ?_
              rintro e w2 ⟨rfl, rfl⟩
              go_wp2_with fail
              refine (HB4.out _).mono ?_
              rintro e w2 ⟨rfl, rfl⟩
              go_wp2_with fail
              refine (HB5.out _).mono ?_
              rintro e w2 ⟨rfl, rfl⟩
              go_wp2_with fail
              go_ret
              exact ⟨ret_bool HV.out.symm, HZ.out⟩
             | true =>
              have dm := dm rfl
              go_enter Tryz.func51, Tryz.ntmps51
              go_wp2_with fail
              refine (HB1.out _).mono ?_
              rintro e w2 ⟨rfl, rfl⟩
              go_wp2_with fail
              refine (HB2.out _).mono ?_
              rintro e w2 ⟨rfl, rfl⟩
              go_wp2_with fail
              refine (HB3.out _).mono ?_
              rintro e w2 ⟨rfl, rfl⟩
              go_wp2_with fail
              refine (HB4.out _).mono ?_
              rintro e w2 ⟨rfl, rfl⟩
              go_wp2_with fail
              refine (HB5.out _).mono ?_
              rintro e w2 ⟨rfl, rfl⟩
              go_wp2_with fail
              go_ret
              exact ⟨ret_bool HV.out.symm, HZ.out⟩
           ·have HV : Hid (ok = false) := HG2.out (by rw [HBB.out, decide_eq_false em]; simp)
            have dm : (((data.size : Int) % 8) != 0) = true := by simp; omega
            clear HG2 HG3 HBB HCC
            go_enter Tryz.func51, Tryz.ntmps51
            go_wp2_with fail
            refine (HB1.out _).mono ?_
            rintro e w2 ⟨rfl, rfl⟩
            go_wp2_with fail
            refine (HB2.out _).mono ?_
            rintro e w2 ⟨rfl, rfl⟩
            go_wp2_with fail
            refine (HB3.out _).mono ?_
            rintro e w2 ⟨rfl, rfl⟩
            go_wp2_with fail
            refine (HB4.out _).mono ?_
            rintro e w2 ⟨rfl, rfl⟩
            go_wp2_with fail
            refine (HB5.out _).mono ?_
            rintro e w2 ⟨rfl, rfl⟩
            go_wp2_with fail
            go_ret
            exact ⟨ret_bool HV.out.symm, HZ.out⟩
          ·have HV : Hid (ok = false) := HG2.out (by rw [HBB.out, decide_eq_false e2]; simp)
           have dF2 : decide ((1400 : Int) < (data.size : Int)) = true := by simp; omega
           clear HG2 HG3 HBB HCC
           go_enter Tryz.func51, Tryz.ntmps51
           go_wp2_with fail
           refine (HB1.out _).mono ?_
           rintro e w2 ⟨rfl, rfl⟩
           go_wp2_with fail
           refine (HB2.out _).mono ?_
           rintro e w2 ⟨rfl, rfl⟩
           go_wp2_with fail
           refine (HB3.out _).mono ?_
           rintro e w2 ⟨rfl, rfl⟩
           go_wp2_with fail
           refine (HB4.out _).mono ?_
           rintro e w2 ⟨rfl, rfl⟩
           go_wp2_with fail
           refine (HB5.out _).mono ?_
           rintro e w2 ⟨rfl, rfl⟩
           go_wp2_with fail
           go_ret
           exact ⟨ret_bool HV.out.symm, HZ.out⟩
         ·have HV : Hid (ok = false) := HG2.out (by rw [HBB.out, decide_eq_false e1]; simp)
          have dF1 : (((opts.size : Int) % 4) != 0) = true := by simp; omega
          clear HG2 HG3 HBB HCC
          go_enter Tryz.func51, Tryz.ntmps51
          go_wp2_with fail
          refine (HB1.out _).mono ?_
          rintro e w2 ⟨rfl, rfl⟩
          go_wp2_with fail
          refine (HB2.out _).mono ?_
          rintro e w2 ⟨rfl, rfl⟩
          go_wp2_with fail
          refine (HB3.out _).mono ?_
          rintro e w2 ⟨rfl, rfl⟩
          go_wp2_with fail
          refine (HB4.out _).mono ?_
          rintro e w2 ⟨rfl, rfl⟩
          go_wp2_with fail
          refine (HB5.out _).mono ?_
          rintro e w2 ⟨rfl, rfl⟩
          go_wp2_with fail
          go_ret
          exact ⟨ret_bool HV.out.symm, HZ.out⟩
        ·have HV : Hid (ok = false) := HG2.out (by rw [HBB.out, decide_eq_false e0]; simp)
         have dF0 : decide ((40 : Int) < (opts.size : Int)) = true := by simp; omega
         clear HG2 HG3 HBB HCC
         go_enter Tryz.func51, Tryz.ntmps51
         go_wp2_with fail
         refine (HB1.out _).mono ?_
         rintro e w2 ⟨rfl, rfl⟩
         go_wp2_with fail
         refine (HB2.out _).mono ?_
         rintro e w2 ⟨rfl, rfl⟩
         go_wp2_with fail
         refine (HB3.out _).mono ?_
         rintro e w2 ⟨rfl, rfl⟩
         go_wp2_with fail
         refine (HB4.out _).mono ?_
         rintro e w2 ⟨rfl, rfl⟩
         go_wp2_with fail
         refine (HB5.out _).mono ?_
         rintro e w2 ⟨rfl, rfl⟩
         go_wp2_with fail
         go_ret
         exact ⟨ret_bool HV.out.symm, HZ.out⟩
       ·have HV : Hid (ok = false) := HF.out (by rw [HA.out, decide_eq_false s2]; simp)
        have hd : ((dst.size : Int) != 4) = true := by simp; omega
        clear s2 HA HF HF2 HF3 HBB HCC HO
        go_enter Tryz.func51, Tryz.ntmps51
        go_wp2_with fail
        refine (HB1.out _).mono ?_
        rintro e w2 ⟨rfl, rfl⟩
        go_wp2_with fail
        refine (HB2.out _).mono ?_
        rintro e w2 ⟨rfl, rfl⟩
        go_wp2_with fail
        refine (HB3.out _).mono ?_
        rintro e w2 ⟨rfl, rfl⟩
        go_wp2_with fail
        refine (HB4.out _).mono ?_
        rintro e w2 ⟨rfl, rfl⟩
        go_wp2_with fail
        refine (HB5.out _).mono ?_
        rintro e w2 ⟨rfl, rfl⟩
        go_wp2_with fail
        go_ret
        exact ⟨ret_bool HV.out.symm, HZ.out⟩
      ·have HV : Hid (ok = false) := HF.out (by rw [HA.out, decide_eq_false s1]; simp)
       have hd : ((src.size : Int) != 4) = true := by simp; omega
       clear s1 HA HF HF2 HF3 HBB HCC HO
       go_enter Tryz.func51, Tryz.ntmps51
       go_wp2_with fail
       refine (HB1.out _).mono ?_
       rintro e w2 ⟨rfl, rfl⟩
       go_wp2_with fail
       refine (HB2.out _).mono ?_
       rintro e w2 ⟨rfl, rfl⟩
       go_wp2_with fail
       refine (HB3.out _).mono ?_
       rintro e w2 ⟨rfl, rfl⟩
       go_wp2_with fail
       refine (HB4.out _).mono ?_
       rintro e w2 ⟨rfl, rfl⟩
       go_wp2_with fail
       refine (HB5.out _).mono ?_
       rintro e w2 ⟨rfl, rfl⟩
       go_wp2_with fail
       go_ret
       exact ⟨ret_bool HV.out.symm, HZ.out⟩

end Go.Proofs.YtcckaeppiamebaaGreatDoor
namespace Go.Proofs.YtcckaeppiamebaaGreatDoor
open Go.RowKit Go.PlainAid
theorem flags_all:((List.range 256).all fun n=>decide ((bits .and .i64 (n:Int) 22=2)↔(flagB (n:Int) 2=true∧flagB (n:Int) 4=false∧flagB (n:Int) 16=false)))=true:=by kernel_rfl
theorem flags_22 {flags:Int} (h:isIn flags 0 255=true):(flagB flags 2=true∧flagB flags 4=false∧flagB flags 16=false)=(bits .and .i64 flags 22=2):=by
 unfold isIn at h;simp only [Bool.and_eq_true,decide_eq_true_eq] at h;obtain ⟨n,rfl⟩:=Int.eq_ofNat_of_zero_le h.1;have:=List.all_eq_true.1 flags_all n (List.mem_range.2 (by omega));exact propext (decide_eq_true_eq.mp this).symm
theorem next_in (proto state:Int) (inside:Bool) (flags:Int) (hs:stillP proto=false) (hp:proto=6) (hb:isIn state 1 7=true) (hc:isIn flags 0 255=true):trackNextV proto state inside flags=(
  if flagB flags 4=true then 7
  else if state=1 then (if inside=false∧flagB flags 2=true then 3 else 1)
  else if state=2 then (if inside=true∧flagB flags 2=true then 3 else 2)
  else if state=3 then (if flagB flags 1=true then (if inside=true then 4 else 5) else 3)
  else if state=4 then (if inside=false∧flagB flags 1=true then 6 else 4)
  else if state=5 then (if inside=true∧flagB flags 1=true then 6 else 5)
  else if state=7 then 3 else state):=by
 unfold trackNextV; rw [if_neg (by rw [hs]; decide),if_pos ⟨hp,hb,hc⟩]
theorem specLives_any (l:Lv) (w:World) :
  Cb 119 #[lvC l] w (.bool (livesOk l)):=by
 have HC0:Hid (∀ W,Cw 81 #[iV l.udp,iV 1,iV 10000] W (.bool (isIn l.udp 1 10000))):=fun W=>specIs_any _ _ _ W
 have HC1:Hid (∀ W,Cw 81 #[iV l.echo,iV 1,iV 10000] W (.bool (isIn l.echo 1 10000))):=fun W=>specIs_any _ _ _ W
 have HC2:Hid (∀ W,Cw 81 #[iV l.opening,iV 1,iV 10000] W (.bool (isIn l.opening 1 10000))):=fun W=>specIs_any _ _ _ W
 have HC3:Hid (∀ W,Cw 81 #[iV l.opn,iV 1,iV 10000] W (.bool (isIn l.opn 1 10000))):=fun W=>specIs_any _ _ _ W
 have HC4:Hid (∀ W,Cw 81 #[iV l.closing,iV 1,iV 10000] W (.bool (isIn l.closing 1 10000))):=fun W=>specIs_any _ _ _ W
 have HV:Hid (livesOk l=(isIn l.udp 1 10000&&isIn l.echo 1 10000&&isIn l.opening 1 10000&&isIn l.opn 1 10000&&isIn l.closing 1 10000)):=rfl;generalize livesOk l=ans at *;generalize isIn l.udp 1 10000=b0 at *;generalize isIn l.echo 1 10000=b1 at *;generalize isIn l.opening 1 10000=b2 at *;generalize isIn l.opn 1 10000=b3 at *;generalize isIn l.closing 1 10000=b4 at *;have HZ:Hid (Below w.heap.size w (w.alloc (.cells #[iV l.udp,iV l.echo,iV l.opening,iV l.opn,iV l.closing] 46))):=(Below.refl _ _).alloc (Nat.le_refl _) _;unfold lvC;go_enter Tryz.func119,Tryz.ntmps119
 go_wp2_with fail
 cases b0 with
 | false =>
  refine (HC0.out _).mono ?_;rintro e w0 ⟨rfl,rfl⟩;go_wp2_with fail
  go_ret;exact ⟨ret_bool (by rw [HV.out]; rfl),HZ.out⟩
 | true =>
  refine (HC0.out _).mono ?_;rintro e w0 ⟨rfl,rfl⟩;go_wp2_with fail
  cases b1 with
  | false =>
   refine (HC1.out _).mono ?_;rintro e w1 ⟨rfl,rfl⟩;go_wp2_with fail
   go_ret;exact ⟨ret_bool (by rw [HV.out]; rfl),HZ.out⟩
  | true =>
   refine (HC1.out _).mono ?_;rintro e w1 ⟨rfl,rfl⟩;go_wp2_with fail
   cases b2 with
   | false =>
    refine (HC2.out _).mono ?_;rintro e w2 ⟨rfl,rfl⟩;go_wp2_with fail
    go_ret;exact ⟨ret_bool (by rw [HV.out]; rfl),HZ.out⟩
   | true =>
    refine (HC2.out _).mono ?_;rintro e w2 ⟨rfl,rfl⟩;go_wp2_with fail
    cases b3 with
    | false =>
     refine (HC3.out _).mono ?_;rintro e w3 ⟨rfl,rfl⟩;go_wp2_with fail
     go_ret;exact ⟨ret_bool (by rw [HV.out]; rfl),HZ.out⟩
    | true =>
     refine (HC3.out _).mono ?_;rintro e w3 ⟨rfl,rfl⟩;go_wp2_with fail
     cases b4 with
     | false =>
      refine (HC4.out _).mono ?_;rintro e w4 ⟨rfl,rfl⟩;go_wp2_with fail
      go_ret;exact ⟨ret_bool (by rw [HV.out]; rfl),HZ.out⟩
     | true =>
      refine (HC4.out _).mono ?_;rintro e w4 ⟨rfl,rfl⟩;go_wp2_with fail
      go_ret;exact ⟨ret_bool (by rw [HV.out]; rfl),HZ.out⟩
theorem specStill_any (proto:Int) (w:World) :
  Cw 164 #[iV proto] w (.bool (stillP proto)):=by
 by_cases h1:proto=17
 ·have HV:Hid (stillP proto=true):=by unfold Hid stillP; simp [h1]
  go_enter Tryz.func164,Tryz.ntmps164
  go_wp2_with fail
  go_ret;exact ⟨ret_bool HV.out.symm,rfl⟩
 ·by_cases h2:proto=1
  ·have HV:Hid (stillP proto=true):=by unfold Hid stillP; simp [h2]
   go_enter Tryz.func164,Tryz.ntmps164
   go_wp2_with fail
   go_ret;exact ⟨ret_bool HV.out.symm,rfl⟩
  ·have HV:Hid (stillP proto=false):=by unfold Hid stillP; simp [h1,h2]
   go_enter Tryz.func164,Tryz.ntmps164
   go_wp2_with fail
   go_ret;exact ⟨ret_bool (by rw [HV.out]; simp [h1,h2]),rfl⟩
theorem specNext_any (proto state:Int) (inside:Bool) (flags:Int) (w:World) :
  Cw 128 #[iV proto,iV state,.bool inside,iV flags] w (iV (trackNextV proto state inside flags)):=by
 have HA:Hid (∀ W,Cw 164 #[iV proto] W (.bool (stillP proto))):=fun W=>specStill_any _ W
 have HB:Hid (∀ W,Cw 81 #[iV state,iV 1,iV 7] W (.bool (isIn state 1 7))):=fun W=>specIs_any _ _ _ W
 have HC:Hid (∀ W,Cw 79 #[iV flags] W (.bool (isIn flags 0 255))):=fun W=>specByte_any _ W
 have HV:Hid (trackNextV proto state inside flags=trackNextV proto state inside flags):=rfl
 cases hs:stillP proto with
 | true =>
  have HX:Hid (trackNextV proto state inside flags=3):=by unfold Hid trackNextV; rw [if_pos hs]
  rw [hs] at HA;clear hs;go_enter Tryz.func128,Tryz.ntmps128
  go_wp2_with fail
  refine (HA.out _).mono ?_;rintro e w1 ⟨rfl,rfl⟩;go_wp2_with fail
  go_ret;exact ⟨ret_int HX.out.symm,rfl⟩
 | false =>
  rw [hs] at HA;have HS:Hid (stillP proto=false):=hs;clear hs;by_cases hp:proto=6
  ·subst hp
   cases hb:isIn state 1 7 with
   | false =>
    have HX:Hid (trackNextV 6 state inside flags=0):=by unfold Hid trackNextV; rw [if_neg (by rw [HS.out]; decide),if_neg (by rw [hb]; simp)]
    rw [hb] at HB;clear hb;go_enter Tryz.func128,Tryz.ntmps128
    go_wp2_with fail
    refine (HA.out _).mono ?_;rintro e w1 ⟨rfl,rfl⟩;go_wp2_with fail
    refine (HB.out _).mono ?_;rintro e w1 ⟨rfl,rfl⟩;go_wp2_with fail
    go_ret;exact ⟨ret_int HX.out.symm,rfl⟩
   | true =>
    cases hc:isIn flags 0 255 with
    | false =>
     have HX:Hid (trackNextV 6 state inside flags=0):=by unfold Hid trackNextV; rw [if_neg (by rw [HS.out]; decide),if_neg (by rw [hc]; simp)]
     rw [hb] at HB;rw [hc] at HC;clear hb hc;go_enter Tryz.func128,Tryz.ntmps128
     go_wp2_with fail
     refine (HA.out _).mono ?_;rintro e w1 ⟨rfl,rfl⟩;go_wp2_with fail
     refine (HB.out _).mono ?_;rintro e w1 ⟨rfl,rfl⟩;go_wp2_with fail
     refine (HC.out _).mono ?_;rintro e w1 ⟨rfl,rfl⟩;go_wp2_with fail
     go_ret;exact ⟨ret_int HX.out.symm,rfl⟩
    | true =>
     have HX:Hid _:=next_in 6 state inside flags HS.out rfl hb hc;rw [hb] at HB;rw [hc] at HC;have hr:state=1∨state=2∨state=3∨state=4∨state=5∨state=6∨state=7:=by
      unfold isIn at hb; simp only [Bool.and_eq_true,decide_eq_true_eq] at hb; omega
     clear hb hc;go_enter Tryz.func128,Tryz.ntmps128
     go_wp2_with fail
     refine (HA.out _).mono ?_;rintro e w1 ⟨rfl,rfl⟩;go_wp2_with fail
     refine (HB.out _).mono ?_;rintro e w1 ⟨rfl,rfl⟩;go_wp2_with fail
     refine (HC.out _).mono ?_;rintro e w1 ⟨rfl,rfl⟩;clear HA HB HC;go_upto_region 5 with fail
     by_cases h4:bits .and .i64 flags 4=0
     ·have n4:flagB flags 4=false:=by unfold flagB; simp [h4]
      rw [n4,if_neg (by decide)] at HX;clear n4;have e1:flagB flags 1=decide (¬ bits .and .i64 flags 1=0):=rfl;have e2:flagB flags 2=decide (¬ bits .and .i64 flags 2=0):=rfl;rw [e1,e2] at HX;clear e1 e2;rcases hr with rfl | rfl | rfl | rfl | rfl | rfl | rfl<;>by_cases h1:bits .and .i64 flags 1=0<;>by_cases h2:bits .and .i64 flags 2=0<;>cases inside
      all_goals
       simp [h1,h2] at HX;go_wp2_with fail
       go_ret;exact ⟨ret_int HX.out.symm,rfl⟩
     ·have HY:Hid (trackNextV 6 state inside flags=7):=by unfold Hid; rw [HX.out,if_pos (by unfold flagB; exact decide_eq_true h4)]
      go_wp2_with fail
      go_ret;exact ⟨ret_int HY.out.symm,rfl⟩
  ·have HX:Hid (trackNextV proto state inside flags=0):=by unfold Hid trackNextV; rw [if_neg (by rw [HS.out]; decide),if_neg (fun h=>hp h.1)]
   go_enter Tryz.func128,Tryz.ntmps128
   go_wp2_with fail
   refine (HA.out _).mono ?_;rintro e w1 ⟨rfl,rfl⟩;go_wp2_with fail
   go_ret;exact ⟨ret_int HX.out.symm,rfl⟩
theorem specNew_any (proto:Int) (inside:Bool) (flags:Int) (w:World) :
  Cw 162 #[iV proto,.bool inside,iV flags] w (iV (trackNewV proto inside flags)):=by
 have HA:Hid (∀ W,Cw 164 #[iV proto] W (.bool (stillP proto))):=fun W=>specStill_any _ W
 have HC:Hid (∀ W,Cw 79 #[iV flags] W (.bool (isIn flags 0 255))):=fun W=>specByte_any _ W
 cases hc:isIn flags 0 255 with
 | false =>
  have HX:Hid (trackNewV proto inside flags=0):=by unfold Hid trackNewV; rw [if_pos hc]
  rw [hc] at HC;clear hc;go_enter Tryz.func162,Tryz.ntmps162
  go_wp2_with fail
  refine (HC.out _).mono ?_;rintro e w1 ⟨rfl,rfl⟩;go_wp2_with fail
  go_ret;exact ⟨ret_int HX.out.symm,rfl⟩
 | true =>
  have h22:=flags_22 hc;have HN:Hid (¬ isIn flags 0 255=false):=by unfold Hid; rw [hc]; decide
  rw [hc] at HC;clear hc
  cases hs:stillP proto with
  | true =>
   have HX:Hid (trackNewV proto inside flags=3):=by unfold Hid trackNewV; rw [if_neg HN.out,if_pos hs]
   rw [hs] at HA;clear hs h22;go_enter Tryz.func162,Tryz.ntmps162
   go_wp2_with fail
   refine (HC.out _).mono ?_;rintro e w1 ⟨rfl,rfl⟩;go_wp2_with fail
   refine (HA.out _).mono ?_;rintro e w1 ⟨rfl,rfl⟩;go_wp2_with fail
   go_ret;exact ⟨ret_int HX.out.symm,rfl⟩
  | false =>
   have HX:Hid (trackNewV proto inside flags=if proto=6∧bits .and .i64 flags 22=2 then (if inside=true then 1 else 2) else 0):=by
    unfold Hid trackNewV; rw [if_neg HN.out,if_neg (by rw [hs]; decide)]; simp only [h22]
   rw [hs] at HA;clear hs h22;by_cases hp:proto=6
   ·subst hp;by_cases hf:bits .and .i64 flags 22=2
    ·rw [if_pos ⟨rfl,hf⟩] at HX
     cases inside;all_goals
      go_enter Tryz.func162,Tryz.ntmps162
      go_wp2_with fail
      refine (HC.out _).mono ?_;rintro e w1 ⟨rfl,rfl⟩;go_wp2_with fail
      refine (HA.out _).mono ?_;rintro e w1 ⟨rfl,rfl⟩;go_wp2_with fail
      go_ret;exact ⟨ret_int HX.out.symm,rfl⟩
    ·rw [if_neg (fun h=>hf h.2)] at HX;go_enter Tryz.func162,Tryz.ntmps162
     go_wp2_with fail
     refine (HC.out _).mono ?_;rintro e w1 ⟨rfl,rfl⟩;go_wp2_with fail
     refine (HA.out _).mono ?_;rintro e w1 ⟨rfl,rfl⟩;go_wp2_with fail
     go_ret;exact ⟨ret_int HX.out.symm,rfl⟩
   ·rw [if_neg (fun h=>hp h.1)] at HX;go_enter Tryz.func162,Tryz.ntmps162
    go_wp2_with fail
    refine (HC.out _).mono ?_;rintro e w1 ⟨rfl,rfl⟩;go_wp2_with fail
    refine (HA.out _).mono ?_;rintro e w1 ⟨rfl,rfl⟩;go_wp2_with fail
    go_ret;exact ⟨ret_int HX.out.symm,rfl⟩
theorem specLife_any (l:Lv) (proto state:Int) (w:World) :
  Cb 129 #[lvC l,iV proto,iV state] w (iV (trackLifeV l proto state)):=by
 have HL:Hid (∀ W,Cb 119 #[lvC l] W (.bool (livesOk l))):=fun W=>specLives_any l W
 have HK:Hid (BoxLives (w.alloc (.cells #[iV l.udp,iV l.echo,iV l.opening,iV l.opn,iV l.closing] 46)) w.heap.size l):=BoxLives.new w l;have HZ:Hid (Below w.heap.size w (w.alloc (.cells #[iV l.udp,iV l.echo,iV l.opening,iV l.opn,iV l.closing] 46))):=(Below.refl _ _).alloc (Nat.le_refl _) _;unfold lvC at HL ⊢
 cases hl:livesOk l with
 | false =>
  have HX:Hid (trackLifeV l proto state=0):=by unfold Hid trackLifeV; rw [if_pos hl]
  rw [hl] at HL;clear hl;go_enter Tryz.func129,Tryz.ntmps129
  go_wp2_with fail
  refine (HL.out _).mono ?_;rintro e w1 ⟨rfl,q1⟩;have G1:Hid _:=HZ.out.trans (q1.mono HZ.out.size);clear q1;go_wp2_with fail
  go_ret;exact ⟨ret_int HX.out.symm,G1.out⟩
 | true =>
  have HX:Hid (trackLifeV l proto state=if proto=17 then l.udp else if proto=1 then l.echo else if proto=6 then (if state=1∨state=2 then l.opening else if state=3∨state=4∨state=5 then l.opn else if state=6∨state=7 then l.closing else 0) else 0):=by unfold Hid trackLifeV; rw [if_neg (by rw [hl]; decide)]
  rw [hl] at HL;clear hl;go_enter Tryz.func129,Tryz.ntmps129
  go_wp2_with fail
  refine (HL.out _).mono ?_;rintro e w1 ⟨rfl,q1⟩;have G1:Hid _:=HZ.out.trans (q1.mono HZ.out.size);obtain ⟨k0,k1,k2,k3,k4⟩:=HK.out.kept q1;clear q1 HZ HK HL;by_cases p0:proto=17
  ·subst p0;rw [if_pos rfl] at HX;go_wp2_with fail
   go_ret;exact ⟨ret_int HX.out.symm,G1.out⟩
  ·by_cases p1:proto=1
   ·subst p1;rw [if_neg (by decide),if_pos rfl] at HX;go_wp2_with fail
    go_ret;exact ⟨ret_int HX.out.symm,G1.out⟩
   ·rw [if_neg p0,if_neg p1] at HX;by_cases p6:proto=6
    ·subst p6;rw [if_pos rfl] at HX;clear p0 p1;by_cases s1:state=1
     ·subst s1; simp at HX; go_wp2_with fail; go_ret; exact ⟨ret_int HX.out.symm,G1.out⟩
     by_cases s2:state=2
     ·subst s2; simp at HX; go_wp2_with fail; go_ret; exact ⟨ret_int HX.out.symm,G1.out⟩
     by_cases s3:state=3
     ·subst s3; simp at HX; go_wp2_with fail; go_ret; exact ⟨ret_int HX.out.symm,G1.out⟩
     by_cases s4:state=4
     ·subst s4; simp at HX; go_wp2_with fail; go_ret; exact ⟨ret_int HX.out.symm,G1.out⟩
     by_cases s5:state=5
     ·subst s5; simp at HX; go_wp2_with fail; go_ret; exact ⟨ret_int HX.out.symm,G1.out⟩
     by_cases s6:state=6
     ·subst s6; simp at HX; go_wp2_with fail; go_ret; exact ⟨ret_int HX.out.symm,G1.out⟩
     by_cases s7:state=7
     ·subst s7; simp at HX; go_wp2_with fail; go_ret; exact ⟨ret_int HX.out.symm,G1.out⟩
     simp [s1,s2,s3,s4,s5,s6,s7] at HX;go_wp2_with fail
     go_ret;exact ⟨ret_int HX.out.symm,G1.out⟩
    ·rw [if_neg p6] at HX;go_wp2_with fail
     go_ret;exact ⟨ret_int HX.out.symm,G1.out⟩
end Go.Proofs.YtcckaeppiamebaaGreatDoor
