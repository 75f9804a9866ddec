import Derived.Test.YthpopipedamciaaGreatMerged4
import Derived.Test.YthpopipedamciaaGreatLawBindS
import Derived.Test.YthpopipedamciaaGreatLawSessionS
import Derived.Test.YthpopipedamciaaGreatHoldL
set_option linter.unusedVariables false
set_option linter.unusedSimpArgs false
set_option maxRecDepth 100000
set_option maxHeartbeats 8000000
namespace Go.Proofs.YthpopipedamciaaGreat
open Go.RowKit Go.PlainAid Go.ChangeShapes Go.WideShapes
def BbWf (x:Bb):Prop:=BdsWf x.binds∧SssWf x.sess
structure BbIs (w:World) (a b:Option Addr) (x:Bb):Prop where
 bd:SlIs bdL 5 w a x.binds
 ss:SlIs ssL 7 w b x.sess
theorem BbIs.below {w W:World} {a b:Option Addr} {x:Bb} (h:BbIs w a b x) (hB:Below w.heap.size w W):BbIs W a b x:=⟨h.bd.below hB,h.ss.below hB⟩
structure BbOwn (base:Nat) (w:World) (a b:Option Addr) (x:Bb):Prop where
 bd:SlOwn bdL 5 base w a x.binds
 ss:SlOwn ssL 7 base w b x.sess
 ne:∀ g h,a=some ⟨g,0,none⟩→b=some ⟨h,0,none⟩→x.binds≠[]→x.sess≠[]→g≠h
theorem BbOwn.is {base:Nat} {w:World} {a b:Option Addr} {x:Bb} (h:BbOwn base w a b x):BbIs w a b x:=⟨h.bd.is,h.ss.is⟩
theorem BbOwn.kept {base:Nat} {w W:World} {a b:Option Addr} {x:Bb} (h:BbOwn base w a b x) (hB:Below w.heap.size w W):BbOwn base W a b x:=⟨h.bd.kept hB,h.ss.kept hB,h.ne⟩
def BbRet (base:Nat) (x:Bb) (e:Ending) (w:World):Prop:=∃ a b ca cb,e=.returned (bbC a b ca cb x)∧BbOwn base w a b x
def szBb (x:Bb) (left:Int):Int:=if szSl bindN x.binds left < 0 then -1 else szSl sessionN x.sess (szSl bindN x.binds left)
section
variable {H:Type} {enc:TypeId × Value→H} {w:World} {base:Nat} {spare:Nat→Bool} {held:Bool}
end
theorem szBib_at (x:Bb) (a b:Option Addr) (ca cb:Nat) (left:Int) (w:World) (hw:BbWf x) (hr:BbIs w a b x) (h0:0≤left) (h1:left≤1048576) :
  Calls Tryz.prog 45 #[bbC a b ca cb x,.int .i64 left] w fun e w'=>e=.returned (.int .i64 (szBb x left))∧Below w.heap.size w w':=by
 have GA:Hid (Below w.heap.size w (w.alloc (.cells #[.slice a x.binds.length ca,.slice b x.sess.length cb] 53))):=(Below.refl _ _).alloc (Nat.le_refl _) _;have H0:Hid _:=HoldsL.new w [.slice a x.binds.length ca,.slice b x.sess.length cb] 53;have HC:Hid (∀ W,Below w.heap.size w W→Calls Tryz.prog 92 #[.slice a x.binds.length ca,.int .i64 left] W fun e w'=>e=.returned (.int .i64 (szSl bindN x.binds left))∧Below W.heap.size W w'):=fun W hW=>szBindS_at x.binds a ca left W hw.1 (hr.bd.below hW) h0 h1
 have HV:Hid (szBb x left=if szSl bindN x.binds left < 0 then -1 else szSl sessionN x.sess (szSl bindN x.binds left)):=rfl;have hrg:=szSl_range bindN x.binds left h0;generalize szBb x left=ans at *;generalize szSl bindN x.binds left=mid at *;unfold bbC;by_cases hs:mid < 0
 ·have he:mid=-1:=by omega
  subst he;rw [if_pos (by decide)] at HV;clear hr;go_enter Tryz.func45,Tryz.ntmps45
  go_wp2_with fail
  refine (HC.out _ GA.out).mono ?_;rintro e w1 ⟨rfl,q1⟩;have G1:Hid (Below w.heap.size w w1):=GA.out.trans (q1.mono GA.out.size);clear q1;go_wp2_with fail
  go_ret;exact ⟨ret_int HV.out.symm,G1.out⟩
 ·rw [if_neg hs] at HV;have hs1:0≤mid:=by omega
  have hs2:mid≤1048576:=by omega
  have HD:Hid (∀ W,Below w.heap.size w W→Calls Tryz.prog 93 #[.slice b x.sess.length cb,.int .i64 mid] W fun e w'=>e=.returned (.int .i64 (szSl sessionN x.sess mid))∧Below W.heap.size W w'):=fun W hW=>szSessionS_at x.sess b cb mid W hw.2 (hr.ss.below hW) hs1 hs2
  have hrg2:=szSl_range sessionN x.sess mid hs1;rw [← HV.out] at HD hrg2;clear hr HV;by_cases ht:ans < 0
  ·have he:ans=-1:=by omega
   subst he;go_enter Tryz.func45,Tryz.ntmps45
   go_wp2_with fail
   refine (HC.out _ GA.out).mono ?_;rintro e w1 ⟨rfl,q1⟩;have G1:Hid (Below w.heap.size w w1):=GA.out.trans (q1.mono GA.out.size);have k1:w1.cell? ⟨w.heap.size,1,none⟩=some (.slice b x.sess.length cb):=(H0.out.kept (by simp) q1).cell rfl;clear q1;go_wp2_with fail
   refine (HD.out _ G1.out).mono ?_;rintro e w2 ⟨rfl,q2⟩;have G2:Hid (Below w.heap.size w w2):=G1.out.trans (q2.mono G1.out.size);clear q2;go_wp2_with fail
   go_ret;exact ⟨rfl,G2.out⟩
  ·have ht1:0≤ans:=by omega
   have ht2:ans≤1048576:=by omega
   go_enter Tryz.func45,Tryz.ntmps45
   go_wp2_with fail
   refine (HC.out _ GA.out).mono ?_;rintro e w1 ⟨rfl,q1⟩;have G1:Hid (Below w.heap.size w w1):=GA.out.trans (q1.mono GA.out.size);have k1:w1.cell? ⟨w.heap.size,1,none⟩=some (.slice b x.sess.length cb):=(H0.out.kept (by simp) q1).cell rfl;clear q1;go_wp2_with fail
   refine (HD.out _ G1.out).mono ?_;rintro e w2 ⟨rfl,q2⟩;have G2:Hid (Below w.heap.size w w2):=G1.out.trans (q2.mono G1.out.size);clear q2;go_wp2_with fail
   go_ret;exact ⟨rfl,G2.out⟩
theorem toBib_any (x:Bb) (a b:Option Addr) (ca cb:Nat) (w:World) (hl1:x.binds.length≤1048576) (hl2:x.sess.length≤1048576) (hr:BbIs w a b x) :
  Calls Tryz.prog 54 #[bbC a b ca cb x] w fun e w'=>BbRet w.heap.size x e w'∧Below w.heap.size w w':=by
 have HB:Hid (Below w.heap.size w (((w.alloc (.cells #[.slice a x.binds.length ca,.slice b x.sess.length cb] 53)).alloc (.cells #[.slice none 0 0,.slice none 0 0] 36)).alloc (.cells #[.slice none 0 0,.slice none 0 0] 36))):=(((Below.refl _ _).alloc (Nat.le_refl _) _).alloc (by simp) _).alloc (by simp; omega) _;have H0:=((HoldsL.new w [.slice a x.binds.length ca,.slice b x.sess.length cb] 53).alloc (.cells #[.slice none 0 0,.slice none 0 0] 36)).alloc (.cells #[.slice none 0 0,.slice none 0 0] 36);have H1:=(HoldsL.new (w.alloc (.cells #[.slice a x.binds.length ca,.slice b x.sess.length cb] 53)) [.slice none 0 0,.slice none 0 0] 36).alloc (.cells #[.slice none 0 0,.slice none 0 0] 36);have H2:=HoldsL.new ((w.alloc (.cells #[.slice a x.binds.length ca,.slice b x.sess.length cb] 53)).alloc (.cells #[.slice none 0 0,.slice none 0 0] 36)) [.slice none 0 0,.slice none 0 0] 36;have hsz:(((w.alloc (.cells #[.slice a x.binds.length ca,.slice b x.sess.length cb] 53)).alloc (.cells #[.slice none 0 0,.slice none 0 0] 36)).alloc (.cells #[.slice none 0 0,.slice none 0 0] 36)).heap.size=w.heap.size+1+1+1:=by simp
 rw [World.size_alloc] at H1 H2;rw [World.size_alloc] at H2;have HS:Hid (∀ W,Below w.heap.size w W→Calls Tryz.prog 101 #[.slice a x.binds.length ca] W fun e w'=>e=.returned (.slice (some ⟨W.heap.size,0,none⟩) x.binds.length x.binds.length)∧Below W.heap.size W w'∧SlLaid bdL 5 w' W.heap.size x.binds x.binds.length x.binds.length):=fun W hW=>toBindS_any x.binds a ca W hl1 (hr.bd.below hW)
 have HT:Hid (∀ W,Below w.heap.size w W→Calls Tryz.prog 102 #[.slice b x.sess.length cb] W fun e w'=>e=.returned (.slice (some ⟨W.heap.size,0,none⟩) x.sess.length x.sess.length)∧Below W.heap.size W w'∧SlLaid ssL 7 w' W.heap.size x.sess x.sess.length x.sess.length):=fun W hW=>toSessionS_any x.sess b cb W hl2 (hr.ss.below hW)
 have G0:Hid _:=H0;have G1:Hid _:=H1;have G2:Hid _:=H2;unfold bbC;clear hr H0 H1 H2;go_enter Tryz.func54,Tryz.ntmps54
 go_upto_region 2 with fail
 generalize ((w.alloc (.cells #[.slice a x.binds.length ca,.slice b x.sess.length cb] 53)).alloc (.cells #[.slice none 0 0,.slice none 0 0] 36)).alloc (.cells #[.slice none 0 0,.slice none 0 0] 36)=W3 at *;have k0:=G0.out.cell (j:=0) rfl;go_wp2_with fail
 refine (HS.out _ HB.out).mono ?_;rintro e w1 ⟨rfl,q1,y1⟩;have B1:Hid (Below w.heap.size w w1):=HB.out.trans (q1.mono HB.out.size);have K0:=G0.out.kept (by simp) q1;have K1:Hid _:=G1.out.kept (by simp) q1;have K2:=G2.out.kept (by simp) q1;have HY:Hid (SlLaid bdL 5 w1 W3.heap.size x.binds x.binds.length x.binds.length):=y1;rw [hsz] at HY ⊢;obtain ⟨C,hC⟩ : ∃ C,C=w.heap.size+1+1+1:=⟨_,rfl⟩;rw [← hC] at HY ⊢;have hCl:w.heap.size+1+1 < C:=by omega
 have hCw:C < w1.heap.size:=HY.out.blk;clear q1 y1 k0 hC hsz;have b1:=K0.cell (j:=1) rfl;have o0:=K2.cell (j:=0) rfl;have f0:=K2.free (j:=0) (by simp);have D2:Hid _:=K2.set 0 (.slice (some ⟨C,0,none⟩) x.binds.length x.binds.length);have D1:Hid _:=K1.out.setOther (C:=w.heap.size+1+1) (j:=0) (by omega) (.slice (some ⟨C,0,none⟩) x.binds.length x.binds.length);have DY:Hid _:=HY.out.setOther (X:=w.heap.size+1+1) (o:=0) (by omega) (.slice (some ⟨C,0,none⟩) x.binds.length x.binds.length);have DB:Hid _:=B1.out.setCell (p:=⟨w.heap.size+1+1,0,none⟩) (by show w.heap.size≤w.heap.size+1+1; omega) (.slice (some ⟨C,0,none⟩) x.binds.length x.binds.length);have hCw2:C < (w1.setCell ⟨w.heap.size+1+1,0,none⟩ (.slice (some ⟨C,0,none⟩) x.binds.length x.binds.length)).heap.size:=DY.out.blk;clear K0 K1 K2 HY B1 hCw;go_wp2_with fail
 generalize w1.setCell ⟨w.heap.size+1+1,0,none⟩ (.slice (some ⟨C,0,none⟩) x.binds.length x.binds.length)=W5 at *;refine (HT.out _ DB.out).mono ?_;rintro e w6 ⟨rfl,q6,y6⟩;have E2:=D2.out.kept (by simp) q6;have E1:=D1.out.kept (by simp) q6;have EY:Hid _:=DY.out.kept q6;have EZ:Hid (SlLaid ssL 7 w6 W5.heap.size x.sess x.sess.length x.sess.length):=y6;have EB:Hid (Below w.heap.size w w6):=DB.out.trans (q6.mono DB.out.size);clear q6 y6 b1 o0 f0;generalize W5.heap.size=D at *;obtain ⟨o0,o1⟩:=E2.c2;have f1:=E2.free (j:=1) (by simp);obtain ⟨r0,r1⟩:=E1.c2;obtain ⟨s0,s1⟩:=E1.f2;have R1:Hid (HoldsL _ (w.heap.size+1) [.slice (some ⟨C,0,none⟩) x.binds.length x.binds.length,.slice (some ⟨D,0,none⟩) x.sess.length x.sess.length]):=((E1.setOther (C:=w.heap.size+1+1) (j:=1) (by omega) (.slice (some ⟨D,0,none⟩) x.sess.length x.sess.length)).set 0 (.slice (some ⟨C,0,none⟩) x.binds.length x.binds.length)).set 1 (.slice (some ⟨D,0,none⟩) x.sess.length x.sess.length);have RY:Hid _:=((EY.out.setOther (X:=w.heap.size+1+1) (o:=1) (by omega) (.slice (some ⟨D,0,none⟩) x.sess.length x.sess.length)).setOther (X:=w.heap.size+1) (o:=0) (by omega) (.slice (some ⟨C,0,none⟩) x.binds.length x.binds.length)).setOther (X:=w.heap.size+1) (o:=1) (by omega) (.slice (some ⟨D,0,none⟩) x.sess.length x.sess.length);have RZ:Hid _:=((EZ.out.setOther (X:=w.heap.size+1+1) (o:=1) (by omega) (.slice (some ⟨D,0,none⟩) x.sess.length x.sess.length)).setOther (X:=w.heap.size+1) (o:=0) (by omega) (.slice (some ⟨C,0,none⟩) x.binds.length x.binds.length)).setOther (X:=w.heap.size+1) (o:=1) (by omega) (.slice (some ⟨D,0,none⟩) x.sess.length x.sess.length);have RB:Hid _:=((EB.out.setCell (p:=⟨w.heap.size+1+1,1,none⟩) (by show w.heap.size≤w.heap.size+1+1; omega) (.slice (some ⟨D,0,none⟩) x.sess.length x.sess.length)).setCell (p:=⟨w.heap.size+1,0,none⟩) (by show w.heap.size≤w.heap.size+1; omega) (.slice (some ⟨C,0,none⟩) x.binds.length x.binds.length)).setCell (p:=⟨w.heap.size+1,1,none⟩) (by show w.heap.size≤w.heap.size+1; omega) (.slice (some ⟨D,0,none⟩) x.sess.length x.sess.length);clear E1 E2;go_wp2_with fail
 exact bodyPost_ret (results_mid Tryz.results54 _ _ (w.heap.size+1) [.slice (some ⟨C,0,none⟩) x.binds.length x.binds.length,.slice (some ⟨D,0,none⟩) x.sess.length x.sess.length] _ rfl R1.out Tryz.underlying36 rfl (show (Tryz.prog.info? 36).map (·.size)=some 2 by kernel_rfl)) rfl ⟨⟨some ⟨C,0,none⟩,some ⟨D,0,none⟩,_,_,rfl,.inr ⟨C,rfl,by omega,RY.out⟩,.inr ⟨D,rfl,by omega,RZ.out⟩,fun g h e1 e2 _ _=>by injection e1 with e1; injection e2 with e2; injection e1 with e1 _; injection e2 with e2 _; omega⟩,RB.out⟩
theorem eqBib_same (x:Bb) (a1 b1 a2 b2:Option Addr) (ca1 cb1 ca2 cb2:Nat) (w:World) (hl1:x.binds.length≤1048576) (hl2:x.sess.length≤1048576) (h1:BbIs w a1 b1 x) (h2:BbIs w a2 b2 x) :
  Calls Tryz.prog 58 #[bbC a1 b1 ca1 cb1 x,bbC a2 b2 ca2 cb2 x] w fun e w'=>e=.returned (.bool true)∧Below w.heap.size w w':=by
 have HB:Hid (Below w.heap.size w ((w.alloc (.cells #[.slice a1 x.binds.length ca1,.slice b1 x.sess.length cb1] 36)).alloc (.cells #[.slice a2 x.binds.length ca2,.slice b2 x.sess.length cb2] 36))):=((Below.refl _ _).alloc (Nat.le_refl _) _).alloc (by simp) _;have H0:=(HoldsL.new w [.slice a1 x.binds.length ca1,.slice b1 x.sess.length cb1] 36).alloc (.cells #[.slice a2 x.binds.length ca2,.slice b2 x.sess.length cb2] 36);have H1:=HoldsL.new (w.alloc (.cells #[.slice a1 x.binds.length ca1,.slice b1 x.sess.length cb1] 36)) [.slice a2 x.binds.length ca2,.slice b2 x.sess.length cb2] 36;rw [World.size_alloc] at H1;have HS:Hid (∀ W,Below w.heap.size w W→Calls Tryz.prog 104 #[.slice a1 x.binds.length ca1,.slice a2 x.binds.length ca2] W fun e w'=>e=.returned (.bool true)∧Below W.heap.size W w'):=fun W hW=>eqBindS_same x.binds a1 a2 ca1 ca2 W hl1 (h1.bd.below hW) (h2.bd.below hW)
 have HT:Hid (∀ W,Below w.heap.size w W→Calls Tryz.prog 105 #[.slice b1 x.sess.length cb1,.slice b2 x.sess.length cb2] W fun e w'=>e=.returned (.bool true)∧Below W.heap.size W w'):=fun W hW=>eqSessionS_same x.sess b1 b2 cb1 cb2 W hl2 (h1.ss.below hW) (h2.ss.below hW)
 have G0:Hid _:=H0;have G1:Hid _:=H1;unfold bbC;clear h1 h2 H0 H1;go_enter Tryz.func58,Tryz.ntmps58
 go_upto_region 1 with fail
 generalize (w.alloc (.cells #[.slice a1 x.binds.length ca1,.slice b1 x.sess.length cb1] 36)).alloc (.cells #[.slice a2 x.binds.length ca2,.slice b2 x.sess.length cb2] 36)=W2 at *;have k0:=G0.out.cell (j:=0) rfl;have k1:=G1.out.cell (j:=0) rfl;go_wp2_with fail
 refine (HS.out _ HB.out).mono ?_;rintro e w1 ⟨rfl,q1⟩;have B1:Hid (Below w.heap.size w w1):=HB.out.trans (q1.mono HB.out.size);have c1:w1.cell? ⟨w.heap.size,1,none⟩=some (.slice b1 x.sess.length cb1):=(G0.out.kept (by simp) q1).cell rfl;have d1:w1.cell? ⟨w.heap.size+1,1,none⟩=some (.slice b2 x.sess.length cb2):=(G1.out.kept (by simp) q1).cell rfl;clear q1 k0 k1;go_wp2_with fail
 refine (HT.out _ B1.out).mono ?_;rintro e w2 ⟨rfl,q2⟩;have B2:Hid (Below w.heap.size w w2):=B1.out.trans (q2.mono B1.out.size);clear q2;go_wp2_with fail
 go_ret;exact ⟨rfl,B2.out⟩
end Go.Proofs.YthpopipedamciaaGreat
