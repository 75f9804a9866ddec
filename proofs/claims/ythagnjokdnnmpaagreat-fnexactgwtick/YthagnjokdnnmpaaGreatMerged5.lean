import Derived.Test.YthagnjokdnnmpaaGreatMerged2
import Derived.Test.YthagnjokdnnmpaaGreatMerged3
import Derived.Test.YthagnjokdnnmpaaGreatMerged4
import Derived.Test.YthagnjokdnnmpaaGreatMerged1
import Derived.BigQuiet
import Derived.Deep.DeepCutAuto
set_option linter.unusedVariables false
set_option linter.unusedSimpArgs false
set_option maxRecDepth 100000
set_option maxHeartbeats 8000000
namespace Go.Proofs.YthagnjokdnnmpaaGreat
open Go.RowKit Go.PlainAid Go.ChangeShapes Go.WideShapes
def BbWf (x:Bb):Prop:=BdsWf x.binds∧SssWf x.sess
structure BbIs (w:World) (a b:Option Addr) (x:Bb):Prop where
 bd:SlIs bdL 5 w a x.binds
 ss:SlIs ssL 7 w b x.sess
theorem BbIs.below {w W:World} {a b:Option Addr} {x:Bb} (h:BbIs w a b x) (hB:Below w.heap.size w W):BbIs W a b x:=⟨h.bd.below hB,h.ss.below hB⟩
structure BbOwn (base:Nat) (w:World) (a b:Option Addr) (x:Bb):Prop where
 bd:SlOwn bdL 5 base w a x.binds
 ss:SlOwn ssL 7 base w b x.sess
 ne:∀ g h,a=some ⟨g,0,none⟩→b=some ⟨h,0,none⟩→x.binds≠[]→x.sess≠[]→g≠h
theorem BbOwn.is {base:Nat} {w:World} {a b:Option Addr} {x:Bb} (h:BbOwn base w a b x):BbIs w a b x:=⟨h.bd.is,h.ss.is⟩
theorem BbOwn.kept {base:Nat} {w W:World} {a b:Option Addr} {x:Bb} (h:BbOwn base w a b x) (hB:Below w.heap.size w W):BbOwn base W a b x:=⟨h.bd.kept hB,h.ss.kept hB,h.ne⟩
def BbRet (base:Nat) (x:Bb) (e:Ending) (w:World):Prop:=∃ a b ca cb,e=.returned (bbC a b ca cb x)∧BbOwn base w a b x
def szBb (x:Bb) (left:Int):Int:=if szSl bindN x.binds left < 0 then -1 else szSl sessionN x.sess (szSl bindN x.binds left)
section
variable {H:Type} {enc:TypeId × Value→H} {w:World} {base:Nat} {spare:Nat→Bool} {held:Bool}
end
theorem szBib_at (x:Bb) (a b:Option Addr) (ca cb:Nat) (left:Int) (w:World) (hw:BbWf x) (hr:BbIs w a b x) (h0:0≤left) (h1:left≤1048576) :
  Calls Tryz.prog 64 #[bbC a b ca cb x,.int .i64 left] w fun e w'=>e=.returned (.int .i64 (szBb x left))∧Below w.heap.size w w':=by
 have GA:Hid (Below w.heap.size w (w.alloc (.cells #[.slice a x.binds.length ca,.slice b x.sess.length cb] 66))):=(Below.refl _ _).alloc (Nat.le_refl _) _;have H0:Hid _:=HoldsL.new w [.slice a x.binds.length ca,.slice b x.sess.length cb] 66;have HC:Hid (∀ W,Below w.heap.size w W→Calls Tryz.prog 99 #[.slice a x.binds.length ca,.int .i64 left] W fun e w'=>e=.returned (.int .i64 (szSl bindN x.binds left))∧Below W.heap.size W w'):=fun W hW=>szBindS_at x.binds a ca left W hw.1 (hr.bd.below hW) h0 h1
 have HV:Hid (szBb x left=if szSl bindN x.binds left < 0 then -1 else szSl sessionN x.sess (szSl bindN x.binds left)):=rfl;have hrg:=szSl_range bindN x.binds left h0;generalize szBb x left=ans at *;generalize szSl bindN x.binds left=mid at *;unfold bbC;by_cases hs:mid < 0
 ·have he:mid=-1:=by omega
  subst he;rw [if_pos (by decide)] at HV;clear hr;go_enter Tryz.func64,Tryz.ntmps64
  go_wp2_with fail
  refine (HC.out _ GA.out).mono ?_;rintro e w1 ⟨rfl,q1⟩;have G1:Hid (Below w.heap.size w w1):=GA.out.trans (q1.mono GA.out.size);clear q1;go_wp2_with fail
  go_ret;exact ⟨ret_int HV.out.symm,G1.out⟩
 ·rw [if_neg hs] at HV;have hs1:0≤mid:=by omega
  have hs2:mid≤1048576:=by omega
  have HD:Hid (∀ W,Below w.heap.size w W→Calls Tryz.prog 100 #[.slice b x.sess.length cb,.int .i64 mid] W fun e w'=>e=.returned (.int .i64 (szSl sessionN x.sess mid))∧Below W.heap.size W w'):=fun W hW=>szSessionS_at x.sess b cb mid W hw.2 (hr.ss.below hW) hs1 hs2
  have hrg2:=szSl_range sessionN x.sess mid hs1;rw [← HV.out] at HD hrg2;clear hr HV;by_cases ht:ans < 0
  ·have he:ans=-1:=by omega
   subst he;go_enter Tryz.func64,Tryz.ntmps64
   go_wp2_with fail
   refine (HC.out _ GA.out).mono ?_;rintro e w1 ⟨rfl,q1⟩;have G1:Hid (Below w.heap.size w w1):=GA.out.trans (q1.mono GA.out.size);have k1:w1.cell? ⟨w.heap.size,1,none⟩=some (.slice b x.sess.length cb):=(H0.out.kept (by simp) q1).cell rfl;clear q1;go_wp2_with fail
   refine (HD.out _ G1.out).mono ?_;rintro e w2 ⟨rfl,q2⟩;have G2:Hid (Below w.heap.size w w2):=G1.out.trans (q2.mono G1.out.size);clear q2;go_wp2_with fail
   go_ret;exact ⟨rfl,G2.out⟩
  ·have ht1:0≤ans:=by omega
   have ht2:ans≤1048576:=by omega
   go_enter Tryz.func64,Tryz.ntmps64
   go_wp2_with fail
   refine (HC.out _ GA.out).mono ?_;rintro e w1 ⟨rfl,q1⟩;have G1:Hid (Below w.heap.size w w1):=GA.out.trans (q1.mono GA.out.size);have k1:w1.cell? ⟨w.heap.size,1,none⟩=some (.slice b x.sess.length cb):=(H0.out.kept (by simp) q1).cell rfl;clear q1;go_wp2_with fail
   refine (HD.out _ G1.out).mono ?_;rintro e w2 ⟨rfl,q2⟩;have G2:Hid (Below w.heap.size w w2):=G1.out.trans (q2.mono G1.out.size);clear q2;go_wp2_with fail
   go_ret;exact ⟨rfl,G2.out⟩
theorem toBib_any (x:Bb) (a b:Option Addr) (ca cb:Nat) (w:World) (hl1:x.binds.length≤1048576) (hl2:x.sess.length≤1048576) (hr:BbIs w a b x) :
  Calls Tryz.prog 69 #[bbC a b ca cb x] w fun e w'=>BbRet w.heap.size x e w'∧Below w.heap.size w w':=by
 have HB:Hid (Below w.heap.size w (((w.alloc (.cells #[.slice a x.binds.length ca,.slice b x.sess.length cb] 66)).alloc (.cells #[.slice none 0 0,.slice none 0 0] 36)).alloc (.cells #[.slice none 0 0,.slice none 0 0] 36))):=(((Below.refl _ _).alloc (Nat.le_refl _) _).alloc (by simp) _).alloc (by simp; omega) _;have H0:=((HoldsL.new w [.slice a x.binds.length ca,.slice b x.sess.length cb] 66).alloc (.cells #[.slice none 0 0,.slice none 0 0] 36)).alloc (.cells #[.slice none 0 0,.slice none 0 0] 36);have H1:=(HoldsL.new (w.alloc (.cells #[.slice a x.binds.length ca,.slice b x.sess.length cb] 66)) [.slice none 0 0,.slice none 0 0] 36).alloc (.cells #[.slice none 0 0,.slice none 0 0] 36);have H2:=HoldsL.new ((w.alloc (.cells #[.slice a x.binds.length ca,.slice b x.sess.length cb] 66)).alloc (.cells #[.slice none 0 0,.slice none 0 0] 36)) [.slice none 0 0,.slice none 0 0] 36;have hsz:(((w.alloc (.cells #[.slice a x.binds.length ca,.slice b x.sess.length cb] 66)).alloc (.cells #[.slice none 0 0,.slice none 0 0] 36)).alloc (.cells #[.slice none 0 0,.slice none 0 0] 36)).heap.size=w.heap.size+1+1+1:=by simp
 rw [World.size_alloc] at H1 H2;rw [World.size_alloc] at H2;have HS:Hid (∀ W,Below w.heap.size w W→Calls Tryz.prog 103 #[.slice a x.binds.length ca] W fun e w'=>e=.returned (.slice (some ⟨W.heap.size,0,none⟩) x.binds.length x.binds.length)∧Below W.heap.size W w'∧SlLaid bdL 5 w' W.heap.size x.binds x.binds.length x.binds.length):=fun W hW=>toBindS_any x.binds a ca W hl1 (hr.bd.below hW)
 have HT:Hid (∀ W,Below w.heap.size w W→Calls Tryz.prog 104 #[.slice b x.sess.length cb] W fun e w'=>e=.returned (.slice (some ⟨W.heap.size,0,none⟩) x.sess.length x.sess.length)∧Below W.heap.size W w'∧SlLaid ssL 7 w' W.heap.size x.sess x.sess.length x.sess.length):=fun W hW=>toSessionS_any x.sess b cb W hl2 (hr.ss.below hW)
 have G0:Hid _:=H0;have G1:Hid _:=H1;have G2:Hid _:=H2;unfold bbC;clear hr H0 H1 H2;go_enter Tryz.func69,Tryz.ntmps69
 go_upto_region 2 with fail
 generalize ((w.alloc (.cells #[.slice a x.binds.length ca,.slice b x.sess.length cb] 66)).alloc (.cells #[.slice none 0 0,.slice none 0 0] 36)).alloc (.cells #[.slice none 0 0,.slice none 0 0] 36)=W3 at *;have k0:=G0.out.cell (j:=0) rfl;go_wp2_with fail
 refine (HS.out _ HB.out).mono ?_;rintro e w1 ⟨rfl,q1,y1⟩;have B1:Hid (Below w.heap.size w w1):=HB.out.trans (q1.mono HB.out.size);have K0:=G0.out.kept (by simp) q1;have K1:Hid _:=G1.out.kept (by simp) q1;have K2:=G2.out.kept (by simp) q1;have HY:Hid (SlLaid bdL 5 w1 W3.heap.size x.binds x.binds.length x.binds.length):=y1;rw [hsz] at HY ⊢;obtain ⟨C,hC⟩ : ∃ C,C=w.heap.size+1+1+1:=⟨_,rfl⟩;rw [← hC] at HY ⊢;have hCl:w.heap.size+1+1 < C:=by omega
 have hCw:C < w1.heap.size:=HY.out.blk;clear q1 y1 k0 hC hsz;have b1:=K0.cell (j:=1) rfl;have o0:=K2.cell (j:=0) rfl;have f0:=K2.free (j:=0) (by simp);have D2:Hid _:=K2.set 0 (.slice (some ⟨C,0,none⟩) x.binds.length x.binds.length);have D1:Hid _:=K1.out.setOther (C:=w.heap.size+1+1) (j:=0) (by omega) (.slice (some ⟨C,0,none⟩) x.binds.length x.binds.length);have DY:Hid _:=HY.out.setOther (X:=w.heap.size+1+1) (o:=0) (by omega) (.slice (some ⟨C,0,none⟩) x.binds.length x.binds.length);have DB:Hid _:=B1.out.setCell (p:=⟨w.heap.size+1+1,0,none⟩) (by show w.heap.size≤w.heap.size+1+1; omega) (.slice (some ⟨C,0,none⟩) x.binds.length x.binds.length);have hCw2:C < (w1.setCell ⟨w.heap.size+1+1,0,none⟩ (.slice (some ⟨C,0,none⟩) x.binds.length x.binds.length)).heap.size:=DY.out.blk;clear K0 K1 K2 HY B1 hCw;go_wp2_with fail
 generalize w1.setCell ⟨w.heap.size+1+1,0,none⟩ (.slice (some ⟨C,0,none⟩) x.binds.length x.binds.length)=W5 at *;refine (HT.out _ DB.out).mono ?_;rintro e w6 ⟨rfl,q6,y6⟩;have E2:=D2.out.kept (by simp) q6;have E1:=D1.out.kept (by simp) q6;have EY:Hid _:=DY.out.kept q6;have EZ:Hid (SlLaid ssL 7 w6 W5.heap.size x.sess x.sess.length x.sess.length):=y6;have EB:Hid (Below w.heap.size w w6):=DB.out.trans (q6.mono DB.out.size);clear q6 y6 b1 o0 f0;generalize W5.heap.size=D at *;obtain ⟨o0,o1⟩:=E2.c2;have f1:=E2.free (j:=1) (by simp);obtain ⟨r0,r1⟩:=E1.c2;obtain ⟨s0,s1⟩:=E1.f2;have R1:Hid (HoldsL _ (w.heap.size+1) [.slice (some ⟨C,0,none⟩) x.binds.length x.binds.length,.slice (some ⟨D,0,none⟩) x.sess.length x.sess.length]):=((E1.setOther (C:=w.heap.size+1+1) (j:=1) (by omega) (.slice (some ⟨D,0,none⟩) x.sess.length x.sess.length)).set 0 (.slice (some ⟨C,0,none⟩) x.binds.length x.binds.length)).set 1 (.slice (some ⟨D,0,none⟩) x.sess.length x.sess.length);have RY:Hid _:=((EY.out.setOther (X:=w.heap.size+1+1) (o:=1) (by omega) (.slice (some ⟨D,0,none⟩) x.sess.length x.sess.length)).setOther (X:=w.heap.size+1) (o:=0) (by omega) (.slice (some ⟨C,0,none⟩) x.binds.length x.binds.length)).setOther (X:=w.heap.size+1) (o:=1) (by omega) (.slice (some ⟨D,0,none⟩) x.sess.length x.sess.length);have RZ:Hid _:=((EZ.out.setOther (X:=w.heap.size+1+1) (o:=1) (by omega) (.slice (some ⟨D,0,none⟩) x.sess.length x.sess.length)).setOther (X:=w.heap.size+1) (o:=0) (by omega) (.slice (some ⟨C,0,none⟩) x.binds.length x.binds.length)).setOther (X:=w.heap.size+1) (o:=1) (by omega) (.slice (some ⟨D,0,none⟩) x.sess.length x.sess.length);have RB:Hid _:=((EB.out.setCell (p:=⟨w.heap.size+1+1,1,none⟩) (by show w.heap.size≤w.heap.size+1+1; omega) (.slice (some ⟨D,0,none⟩) x.sess.length x.sess.length)).setCell (p:=⟨w.heap.size+1,0,none⟩) (by show w.heap.size≤w.heap.size+1; omega) (.slice (some ⟨C,0,none⟩) x.binds.length x.binds.length)).setCell (p:=⟨w.heap.size+1,1,none⟩) (by show w.heap.size≤w.heap.size+1; omega) (.slice (some ⟨D,0,none⟩) x.sess.length x.sess.length);clear E1 E2;go_wp2_with fail
 exact bodyPost_ret (results_mid Tryz.results69 _ _ (w.heap.size+1) [.slice (some ⟨C,0,none⟩) x.binds.length x.binds.length,.slice (some ⟨D,0,none⟩) x.sess.length x.sess.length] _ rfl R1.out Tryz.underlying36 rfl (show (Tryz.prog.info? 36).map (·.size)=some 2 by kernel_rfl)) rfl ⟨⟨some ⟨C,0,none⟩,some ⟨D,0,none⟩,_,_,rfl,.inr ⟨C,rfl,by omega,RY.out⟩,.inr ⟨D,rfl,by omega,RZ.out⟩,fun g h e1 e2 _ _=>by injection e1 with e1; injection e2 with e2; injection e1 with e1 _; injection e2 with e2 _; omega⟩,RB.out⟩
theorem eqBib_same (x:Bb) (a1 b1 a2 b2:Option Addr) (ca1 cb1 ca2 cb2:Nat) (w:World) (hl1:x.binds.length≤1048576) (hl2:x.sess.length≤1048576) (h1:BbIs w a1 b1 x) (h2:BbIs w a2 b2 x) :
  Calls Tryz.prog 50 #[bbC a1 b1 ca1 cb1 x,bbC a2 b2 ca2 cb2 x] w fun e w'=>e=.returned (.bool true)∧Below w.heap.size w w':=by
 have HB:Hid (Below w.heap.size w ((w.alloc (.cells #[.slice a1 x.binds.length ca1,.slice b1 x.sess.length cb1] 36)).alloc (.cells #[.slice a2 x.binds.length ca2,.slice b2 x.sess.length cb2] 36))):=((Below.refl _ _).alloc (Nat.le_refl _) _).alloc (by simp) _;have H0:=(HoldsL.new w [.slice a1 x.binds.length ca1,.slice b1 x.sess.length cb1] 36).alloc (.cells #[.slice a2 x.binds.length ca2,.slice b2 x.sess.length cb2] 36);have H1:=HoldsL.new (w.alloc (.cells #[.slice a1 x.binds.length ca1,.slice b1 x.sess.length cb1] 36)) [.slice a2 x.binds.length ca2,.slice b2 x.sess.length cb2] 36;rw [World.size_alloc] at H1;have HS:Hid (∀ W,Below w.heap.size w W→Calls Tryz.prog 91 #[.slice a1 x.binds.length ca1,.slice a2 x.binds.length ca2] W fun e w'=>e=.returned (.bool true)∧Below W.heap.size W w'):=fun W hW=>eqBindS_same x.binds a1 a2 ca1 ca2 W hl1 (h1.bd.below hW) (h2.bd.below hW)
 have HT:Hid (∀ W,Below w.heap.size w W→Calls Tryz.prog 92 #[.slice b1 x.sess.length cb1,.slice b2 x.sess.length cb2] W fun e w'=>e=.returned (.bool true)∧Below W.heap.size W w'):=fun W hW=>eqSessionS_same x.sess b1 b2 cb1 cb2 W hl2 (h1.ss.below hW) (h2.ss.below hW)
 have G0:Hid _:=H0;have G1:Hid _:=H1;unfold bbC;clear h1 h2 H0 H1;go_enter Tryz.func50,Tryz.ntmps50
 go_upto_region 1 with fail
 generalize (w.alloc (.cells #[.slice a1 x.binds.length ca1,.slice b1 x.sess.length cb1] 36)).alloc (.cells #[.slice a2 x.binds.length ca2,.slice b2 x.sess.length cb2] 36)=W2 at *;have k0:=G0.out.cell (j:=0) rfl;have k1:=G1.out.cell (j:=0) rfl;go_wp2_with fail
 refine (HS.out _ HB.out).mono ?_;rintro e w1 ⟨rfl,q1⟩;have B1:Hid (Below w.heap.size w w1):=HB.out.trans (q1.mono HB.out.size);have c1:w1.cell? ⟨w.heap.size,1,none⟩=some (.slice b1 x.sess.length cb1):=(G0.out.kept (by simp) q1).cell rfl;have d1:w1.cell? ⟨w.heap.size+1,1,none⟩=some (.slice b2 x.sess.length cb2):=(G1.out.kept (by simp) q1).cell rfl;clear q1 k0 k1;go_wp2_with fail
 refine (HT.out _ B1.out).mono ?_;rintro e w2 ⟨rfl,q2⟩;have B2:Hid (Below w.heap.size w w2):=B1.out.trans (q2.mono B1.out.size);clear q2;go_wp2_with fail
 go_ret;exact ⟨rfl,B2.out⟩
end Go.Proofs.YthagnjokdnnmpaaGreat
namespace Go.Proofs.YthagnjokdnnmpaaGreat
open Go.RowKit Go.PlainAid
structure Fl where
 proto:Int
 src:ByteArray
 dst:ByteArray
 sp:Int
 dp:Int
def pairOk (s d:ByteArray):Bool:=addrOk s&&decide (s.size=d.size)
structure Pc where
 src:ByteArray
 dst:ByteArray
 proto:Int
 id:Int
 off:Int
 more:Bool
 data:ByteArray
 since:Int
def pcC (p:Pc):Value:=.agg #[.string p.src,.string p.dst,.int .i64 p.proto,.int .i64 p.id,.int .i64 p.off,.bool p.more,.string p.data,.int .i64 p.since]
def pcL (p:Pc):List Value:=[.string p.src,.string p.dst,.int .i64 p.proto,.int .i64 p.id,.int .i64 p.off,.bool p.more,.string p.data,.int .i64 p.since]
theorem pcL_length (p:Pc):(pcL p).length=8:=rfl
instance:Inhabited Pc:=⟨⟨⟨#[]⟩,⟨#[]⟩,0,0,0,false,⟨#[]⟩,0⟩⟩
def isTime (n:Int):Bool:=isIn n 0 1000000000
def pieceOk (p:Pc):Bool:=pairOk p.src p.dst&&isIn p.proto 0 255&&isIn p.id 0 4294967295&&isIn p.off 0 8191&&decide (1≤p.data.size)&&decide (p.data.size≤1400)&&(!p.more||decide (p.data.size % 8=0))&&decide (8*p.off+p.data.size≤65535)&&isTime p.since
def onePk (a b:Pc):Bool:=decide (a.src=b.src)&&decide (a.dst=b.dst)&&decide (a.proto=b.proto)&&decide (a.id=b.id)
def endPc (p:Pc):Int:=8*p.off+p.data.size
def meetPc (a b:Pc):Bool:=(decide (8*a.off < endPc b)&&decide (8*b.off < endPc a))||(!a.more&&(!b.more||decide (endPc a≤8*b.off)))||(!b.more&&decide (endPc b≤8*a.off))
def hitPc (a b:Pc):Bool:=onePk a b&&meetPc a b
def hitN (xs:List Pc) (p:Pc):Nat→Bool
 | 0=>false
 | k+1=>hitN xs p k||(match xs[k]? with | some q=>hitPc p q | none=>false)
def allN (xs:List Pc):Nat→Bool
 | 0=>true
 | k+1=>allN xs k&&(match xs[k]? with | some p=>pieceOk p&&!hitN xs p k | none=>true)
def allPc (xs:List Pc):Bool:=allN xs xs.length
def piecesOk (xs:List Pc):Bool:=decide (xs.length≤40)&&allPc xs
def tickPc (xs:List Pc) (now:Int):List Pc:=if decide (xs.length≤400)&&piecesOk xs&&isTime now then xs.filter (fun q=>decide (now < q.since+30)) else []
structure PcOut where
 pieces:List Pc
 data:ByteArray
 done:Bool
 code:Int
theorem spPair_any (s d:ByteArray) (w:World) (hs:s.size≤maxLen) (hd:d.size≤maxLen) :
  Calls Tryz.prog 164 #[.string s,.string d] w fun e w'=>e=.returned (.bool (pairOk s d))∧w'=w:=by
 have HA:Hid (∀ W,Calls Tryz.prog 137 #[.string s] W fun e w'=>e=.returned (.bool (addrOk s))∧w'=W):=fun W=>specAddrRight_any s W
 unfold maxLen at hs hd;unfold pairOk;generalize addrOk s=b at *;by_cases h:s.size=d.size
 ·have dh:((s.size:Int)==(d.size:Int))=true:=by simp; omega
  rw [decide_eq_true h];clear h
  cases b;all_goals go_enter Tryz.func164,Tryz.ntmps164
  all_goals go_wp2_with fail
  all_goals refine (HA.out _).mono ?_
  all_goals rintro e w2 ⟨rfl,rfl⟩
  all_goals go_wp2_with fail
  all_goals go_ret
  all_goals exact ⟨rfl,rfl⟩
 ·have dh:((s.size:Int)==(d.size:Int))=false:=by simp; omega
  rw [decide_eq_false h]
  cases b;all_goals go_enter Tryz.func164,Tryz.ntmps164
  all_goals go_wp2_with fail
  all_goals refine (HA.out _).mono ?_
  all_goals rintro e w2 ⟨rfl,rfl⟩
  all_goals go_wp2_with fail
  all_goals go_ret
  all_goals exact ⟨rfl,rfl⟩
theorem specIs_any (n lo hi:Int) (w:World) :
  Calls Tryz.prog 66 #[.int .i64 n,.int .i64 lo,.int .i64 hi] w fun e w'=>e=.returned (.bool (isIn n lo hi))∧w'=w:=by
 by_cases h1:lo≤n
 ·by_cases h2:n≤hi
  ·have HV:Hid (isIn n lo hi=true):=by unfold Hid isIn; simp [h1,h2]
   go_enter Tryz.func66,Tryz.ntmps66
   go_wp2_with fail
   go_ret;exact ⟨ret_bool (by rw [HV.out]),rfl⟩
  ·have HV:Hid (isIn n lo hi=false):=by unfold Hid isIn; simp [h2]
   go_enter Tryz.func66,Tryz.ntmps66
   go_wp2_with fail
   go_ret;exact ⟨ret_bool (by rw [HV.out]),rfl⟩
 ·have HV:Hid (isIn n lo hi=false):=by unfold Hid isIn; simp [h1]
  have h1':n < lo:=by omega
  go_enter Tryz.func66,Tryz.ntmps66
  go_wp2_with fail
  go_ret;exact ⟨ret_bool (by rw [HV.out]),rfl⟩
theorem specByte_any (n:Int) (w:World) :
  Calls Tryz.prog 165 #[.int .i64 n] w fun e w'=>e=.returned (.bool (isIn n 0 255))∧w'=w:=by
 have HC:Hid (∀ W,Calls Tryz.prog 66 #[.int .i64 n,.int .i64 0,.int .i64 255] W fun e w'=>e=.returned (.bool (isIn n 0 255))∧w'=W):=fun W=>specIs_any n 0 255 W
 generalize isIn n 0 255=b at *;go_enter Tryz.func165,Tryz.ntmps165
 go_wp2_with fail
 refine (HC.out _).mono ?_;rintro e w2 ⟨rfl,rfl⟩;go_wp2_with fail
 go_ret;exact ⟨rfl,rfl⟩
open Go.ChangeShapes Go.WideShapes
def PcWf (p:Pc):Prop:=p.src.size≤maxLen∧p.dst.size≤maxLen∧In64t p.proto∧In64t p.id∧In64t p.off∧p.data.size≤maxLen∧In64t p.since
def PcSm (p:Pc):Prop:=p.src.size≤1048576∧p.dst.size≤1048576∧p.data.size≤1048576
structure BoxPiece (w:World) (B:Nat) (p:Pc):Prop where
 c0:w.cell? ⟨B,0,none⟩=some (.string p.src)
 c1:w.cell? ⟨B,1,none⟩=some (.string p.dst)
 c2:w.cell? ⟨B,2,none⟩=some (.int .i64 p.proto)
 c3:w.cell? ⟨B,3,none⟩=some (.int .i64 p.id)
 c4:w.cell? ⟨B,4,none⟩=some (.int .i64 p.off)
 c5:w.cell? ⟨B,5,none⟩=some (.bool p.more)
 c6:w.cell? ⟨B,6,none⟩=some (.string p.data)
 c7:w.cell? ⟨B,7,none⟩=some (.int .i64 p.since)
theorem BoxPiece.kept {w W:World} {B:Nat} {p:Pc} (h:BoxPiece w B p) (hB:Below w.heap.size w W):BoxPiece W B p:=by
 have hb:=World.block_lt_of_cell? w _ h.c0;exact ⟨((bcell hB).1 B 0 hb).trans h.c0,((bcell hB).1 B 1 hb).trans h.c1,((bcell hB).1 B 2 hb).trans h.c2,((bcell hB).1 B 3 hb).trans h.c3,((bcell hB).1 B 4 hb).trans h.c4,((bcell hB).1 B 5 hb).trans h.c5,((bcell hB).1 B 6 hb).trans h.c6,((bcell hB).1 B 7 hb).trans h.c7⟩
theorem BoxPiece.new (w:World) (p:Pc) {t:TypeId}:BoxPiece (w.alloc (.cells #[.string p.src,.string p.dst,.int .i64 p.proto,.int .i64 p.id,.int .i64 p.off,.bool p.more,.string p.data,.int .i64 p.since] t)) w.heap.size p:=⟨cell_new rfl,cell_new rfl,cell_new rfl,cell_new rfl,cell_new rfl,cell_new rfl,cell_new rfl,cell_new rfl⟩
section
variable {H:Type} {enc:TypeId × Value→H} {w:World} {base:Nat} {spare:Nat→Bool} {held:Bool}
end
theorem toPiece_any (p:Pc) (w:World) :
  Calls Tryz.prog 105 #[pcC p] w fun e w'=>e=.returned (pcC p)∧Below w.heap.size w w':=by
 obtain ⟨src,dst,proto,id,off,more,data,since⟩:=p;unfold pcC;dsimp only;go_enter Tryz.func105,Tryz.ntmps105
 go_wp2_with fail
 refine bodyPost_ret (v:=.agg #[.string src,.string dst,.int .i64 proto,.int .i64 id,.int .i64 off,.bool more,.string data,.int .i64 since]) (by simp [results,Tryz.results105,go_sem]) rfl ⟨rfl,?_⟩;exact (((Below.refl _ _).alloc (Nat.le_refl _) _).alloc (by simp) _).alloc (by simp; omega) _
theorem eqPiece_same (p:Pc) (w:World) :
  Calls Tryz.prog 93 #[pcC p,pcC p] w fun e w'=>e=.returned (.bool true)∧Below w.heap.size w w':=by
 obtain ⟨src,dst,proto,id,off,more,data,since⟩:=p;unfold pcC;dsimp only;have HZ:Hid (Below w.heap.size w ((w.alloc (.cells #[.string src,.string dst,.int .i64 proto,.int .i64 id,.int .i64 off,.bool more,.string data,.int .i64 since] 128)).alloc (.cells #[.string src,.string dst,.int .i64 proto,.int .i64 id,.int .i64 off,.bool more,.string data,.int .i64 since] 128))):=((Below.refl _ _).alloc (Nat.le_refl _) _).alloc (by simp) _;go_enter Tryz.func93,Tryz.ntmps93
 go_wp2_with fail
 go_ret;exact ⟨rfl,HZ.out⟩
end Go.Proofs.YthagnjokdnnmpaaGreat
namespace Go.Proofs.YthagnjokdnnmpaaGreat
open Go.RowKit Go.PlainAid
theorem spTime_any (n:Int) (w:World) :
  Calls Tryz.prog 86 #[.int .i64 n] w fun e w'=>e=.returned (.bool (isTime n))∧w'=w:=by
 by_cases h1:0≤n
 ·by_cases h2:n≤1000000000
  ·have HV:Hid (isTime n=true):=by unfold Hid isTime isIn; simp [h1,h2]
   go_enter Tryz.func86,Tryz.ntmps86
   go_wp2_with fail
   go_ret;exact ⟨ret_bool (by rw [HV.out]),rfl⟩
  ·have HV:Hid (isTime n=false):=by unfold Hid isTime isIn; simp [h2]
   go_enter Tryz.func86,Tryz.ntmps86
   go_wp2_with fail
   go_ret;exact ⟨ret_bool (by rw [HV.out]),rfl⟩
 ·have HV:Hid (isTime n=false):=by unfold Hid isTime isIn; simp [h1]
  have h1':n < 0:=by omega
  go_enter Tryz.func86,Tryz.ntmps86
  go_wp2_with fail
  go_ret;exact ⟨ret_bool (by rw [HV.out]),rfl⟩
theorem specPieceRight_any (p:Pc) (w:World) (h1:p.src.size≤1048576) (h2:p.dst.size≤1048576) (h3:p.data.size≤1048576) :
  Calls Tryz.prog 144 #[pcC p] w fun e w'=>e=.returned (.bool (pieceOk p))∧Below w.heap.size w w':=by
 have HB1:Hid (∀ W,Calls Tryz.prog 164 #[.string p.src,.string p.dst] W fun e w'=>e=.returned (.bool (pairOk p.src p.dst))∧w'=W):=fun W=>spPair_any _ _ W (by unfold maxLen; omega) (by unfold maxLen; omega)
 have HB2:Hid (∀ W,Calls Tryz.prog 165 #[.int .i64 p.proto] W fun e w'=>e=.returned (.bool (isIn p.proto 0 255))∧w'=W):=fun W=>specByte_any _ W
 have HB3:Hid (∀ W,Calls Tryz.prog 66 #[.int .i64 p.id,.int .i64 0,.int .i64 4294967295] W fun e w'=>e=.returned (.bool (isIn p.id 0 4294967295))∧w'=W):=fun W=>specIs_any _ _ _ W
 have HB4:Hid (∀ W,Calls Tryz.prog 66 #[.int .i64 p.off,.int .i64 0,.int .i64 8191] W fun e w'=>e=.returned (.bool (isIn p.off 0 8191))∧w'=W):=fun W=>specIs_any _ _ _ W
 have HB5:Hid (∀ W,Calls Tryz.prog 86 #[.int .i64 p.since] W fun e w'=>e=.returned (.bool (isTime p.since))∧w'=W):=fun W=>spTime_any _ W
 have HV:Hid (pieceOk p=(pairOk p.src p.dst&&isIn p.proto 0 255&&isIn p.id 0 4294967295&&isIn p.off 0 8191&&decide (1≤p.data.size)&&decide (p.data.size≤1400)&&(!p.more||decide (p.data.size % 8=0))&&decide (8*p.off+p.data.size≤65535)&&isTime p.since)):=rfl;have hoff:isIn p.off 0 8191=true→0≤p.off∧p.off≤8191:=fun h=>isIn_parts h
 generalize pieceOk p=ok at *;generalize pairOk p.src p.dst=a1 at *;generalize isIn p.proto 0 255=a2 at *;generalize isIn p.id 0 4294967295=a3 at *;generalize isIn p.off 0 8191=a4 at *;generalize isTime p.since=a5 at *;obtain ⟨src,dst,proto,id,off,more,data,since⟩:=p;unfold pcC;dsimp only at *;have HZ:Hid (Below w.heap.size w (w.alloc (.cells #[.string src,.string dst,.int .i64 proto,.int .i64 id,.int .i64 off,.bool more,.string data,.int .i64 since] 128))):=(Below.refl _ _).alloc (Nat.le_refl _) _;have hun:undef=Value.tuple #[]:=rfl;go_enter Tryz.func144,Tryz.ntmps144
 go_wp2_with fail
 refine (HB1.out _).mono ?_;rintro e w2 ⟨rfl,rfl⟩
 cases a1 with
 | false =>
  go_wp2_with fail
  go_ret;exact ⟨ret_bool (by rw [HV.out]; simp),HZ.out⟩
 | true =>
 go_wp2_with fail
 refine (HB2.out _).mono ?_;rintro e w2 ⟨rfl,rfl⟩
 cases a2 with
 | false =>
  go_wp2_with fail
  go_ret;exact ⟨ret_bool (by rw [HV.out]; simp),HZ.out⟩
 | true =>
 go_wp2_with fail
 refine (HB3.out _).mono ?_;rintro e w2 ⟨rfl,rfl⟩
 cases a3 with
 | false =>
  go_wp2_with fail
  go_ret;exact ⟨ret_bool (by rw [HV.out]; simp),HZ.out⟩
 | true =>
 go_wp2_with fail
 refine (HB4.out _).mono ?_;rintro e w2 ⟨rfl,rfl⟩
 cases a4 with
 | false =>
  go_wp2_with fail
  go_ret;exact ⟨ret_bool (by rw [HV.out]; simp),HZ.out⟩
 | true =>
 have ho:=hoff rfl;clear hoff;by_cases e1:1≤data.size
 ·rw [decide_eq_true e1] at HV;by_cases e2:data.size≤1400
  ·rw [decide_eq_true e2] at HV;by_cases e4:8*off+data.size≤65535
   ·rw [decide_eq_true e4] at HV
    cases more with
    | false =>
     go_wp2_with fail
     refine (HB5.out _).mono ?_;rintro e w2 ⟨rfl,rfl⟩;go_wp2_with fail
     go_ret;exact ⟨ret_bool (by rw [HV.out]; simp),HZ.out⟩
    | true =>
     by_cases e3:data.size % 8=0
     ·have d3:((data.size:Int) % 8==0)=true:=by simp; omega
      rw [decide_eq_true e3] at HV;clear e3;go_wp2_with fail
      refine (HB5.out _).mono ?_;rintro e w2 ⟨rfl,rfl⟩;go_wp2_with fail
      go_ret;exact ⟨ret_bool (by rw [HV.out]; simp),HZ.out⟩
     ·have d3:((data.size:Int) % 8==0)=false:=by simp; omega
      rw [decide_eq_false e3] at HV;go_wp2_with fail
      go_ret;exact ⟨ret_bool (by rw [HV.out]; simp),HZ.out⟩
   ·rw [decide_eq_false e4] at HV;have e4':decide (8*off+(data.size:Int)≤65535)=false:=by simp; omega
    by_cases e3:data.size % 8=0
    ·have d3:((data.size:Int) % 8==0)=true:=by simp; omega
     clear e3
     cases more;all_goals go_wp2_with fail
     all_goals go_ret
     all_goals exact ⟨ret_bool (by rw [HV.out]; simp),HZ.out⟩
    ·have d3:((data.size:Int) % 8==0)=false:=by simp; omega
     cases more;all_goals go_wp2_with fail
     all_goals go_ret
     all_goals exact ⟨ret_bool (by rw [HV.out]; simp),HZ.out⟩
  ·rw [decide_eq_false e2] at HV;go_wp2_with fail
   go_ret;exact ⟨ret_bool (by rw [HV.out]; simp),HZ.out⟩
 ·rw [decide_eq_false e1] at HV;go_wp2_with fail
  go_ret;exact ⟨ret_bool (by rw [HV.out]; simp),HZ.out⟩
theorem spEnd_any (p:Pc) (w:World) (h1:0≤p.off∧p.off≤8191) (h3:p.data.size≤1048576) :
  Calls Tryz.prog 166 #[pcC p] w fun e w'=>e=.returned (.int .i64 (endPc p))∧Below w.heap.size w w':=by
 have HV:Hid (endPc p=8*p.off+p.data.size):=rfl;generalize endPc p=ans at *;obtain ⟨src,dst,proto,id,off,more,data,since⟩:=p;unfold pcC;dsimp only at *;have HZ:Hid (Below w.heap.size w (w.alloc (.cells #[.string src,.string dst,.int .i64 proto,.int .i64 id,.int .i64 off,.bool more,.string data,.int .i64 since] 128))):=(Below.refl _ _).alloc (Nat.le_refl _) _;go_enter Tryz.func166,Tryz.ntmps166
 go_wp2_with fail
 go_ret;exact ⟨ret_int HV.out.symm,HZ.out⟩
theorem two_pieces (w:World) {o1 o2:Obj}:Below w.heap.size w ((w.alloc o1).alloc o2):=((Below.refl _ _).alloc (Nat.le_refl _) _).alloc (by simp) _
theorem ba_dec (a b:ByteArray):decide (a.toList=b.toList)=decide (a=b):=by
 rw [Bool.eq_iff_iff,decide_eq_true_iff,decide_eq_true_iff];exact ⟨fun h=>by rw [ByteArray.toList_eq,ByteArray.toList_eq] at h; exact ByteArray.ext (Array.toList_inj.1 h),fun h=>by rw [h]⟩
theorem spOne_any (p q:Pc) (w:World) :
  Calls Tryz.prog 145 #[pcC p,pcC q] w fun e w'=>e=.returned (.bool (onePk p q))∧Below w.heap.size w w':=by
 have HV:Hid (onePk p q=(decide (p.src.toList=q.src.toList)&&decide (p.dst.toList=q.dst.toList)&&decide (p.proto=q.proto)&&decide (p.id=q.id))):=by unfold Hid onePk; rw [ba_dec,ba_dec]
 generalize onePk p q=ans at *;obtain ⟨src,dst,proto,id,off,more,data,since⟩:=p;obtain ⟨src',dst',proto',id',off',more',data',since'⟩:=q;unfold pcC;dsimp only at *;have HZ:Hid (∀ o1 o2,Below w.heap.size w ((w.alloc o1).alloc o2)):=fun o1 o2=>two_pieces w
 go_enter Tryz.func145,Tryz.ntmps145
 go_wp2_with fail
 all_goals go_ret
 all_goals exact ⟨ret_bool (by rw [HV.out]; simp_all; try rfl),HZ.out _ _⟩
end Go.Proofs.YthagnjokdnnmpaaGreat
namespace Go.Proofs.YthagnjokdnnmpaaGreat
open Go.RowKit Go.ChangeShapes
section
variable {P:Program} {ops:Array Oper} {Q:Exit→Act→World→Prop} {ds:List Tmp} {R:Nat→Value→World→Prop} {a0:Act} {w0:World}
def GStepG (P:Program) (ops:Array Oper) (Q:Exit→Act→World→Prop) (ds:List Tmp) (R:Nat→Value→World→Prop) (a0:Act) (w0:World) (i:Nat) (o:Oper):Prop :=
 ∀ (K':Act→World→Prop) (a:Act) (w:World),(∀ t,t ∉ ds→slot a t=slot a0 t)→(∀ e∈o.after,Region.binds .any e=true→R e.on (slot a (ds.getD e.on 0)) w) →
  Below w0.heap.size w0 w→(∀ v w',R i v w'→Below w.heap.size w w'→K' (a.put o.dst v) w')→if Region.wanted o (yielded ops a.tmps)=true then Oper.wp P o a w K' Q else K' (a.put o.dst undef) w
structure GFormG (ops:Array Oper) (ds:List Tmp) (n:Nat):Prop where
 len:ds.length=ops.size
 dst:∀ i o,ops[i]?=some o→o.dst=some (ds.getD i 0)
 nodup:ds.Nodup
 fits:∀ d∈ds,d < n
 topo:∀ i o,ops[i]?=some o→∀ e∈o.after,Region.binds .any e=true→e.on < i
def gformG (ops:Array Oper) (ds:List Tmp) (n:Nat):Bool :=
 decide (ds.length=ops.size)&&(List.range ops.size).all (fun i=>match ops[i]? with
  | some o=>(match o.dst with | some d=>d==ds.getD i 0 | none=>false)&&o.after.all (fun e=>!Region.binds .any e||decide (e.on < i))
  | none=>true)&&decide ds.Nodup&&ds.all (fun d=>decide (d < n))
theorem GFormG.of {n:Nat} (h:gformG ops ds n=true):GFormG ops ds n:=by
 unfold gformG at h;simp only [Bool.and_eq_true,decide_eq_true_iff,List.all_eq_true,List.mem_range] at h;obtain ⟨⟨⟨h1,h2⟩,h3⟩,h4⟩:=h;have hb:∀ i o,ops[i]?=some o→i < ops.size:=fun i o ho=>(Array.getElem?_eq_some_iff.1 ho).1
 refine ⟨h1,fun i o ho=>?_,h3,h4,fun i o ho e he hbd=>?_⟩
 ·have:=h2 i (hb i o ho);rw [ho] at this;simp only [Bool.and_eq_true] at this;obtain ⟨t1,_⟩:=this
  cases hd:o.dst with
  | none=>rw [hd] at t1; simp at t1
  | some d=>rw [hd] at t1; simp at t1; rw [t1]; simp
 ·have:=h2 i (hb i o ho);rw [ho] at this;simp only [Bool.and_eq_true] at this;obtain ⟨_,t3⟩:=this;have:=Array.all_eq_true_iff_forall_mem.1 t3 e he;simp [hbd] at this;exact this
theorem wpAny_growG (hF:GFormG ops ds a0.tmps.size) (hst:∀ i v w w',R i v w→Below w.heap.size w w'→R i v w')
  (hstep:∀ i o,ops[i]?=some o→GStepG P ops Q ds R a0 w0 i o)
  (hdone:∀ a w,a.tmps.size=a0.tmps.size→a.defers=a0.defers→(∀ t,t ∉ ds→slot a t=slot a0 t)→(∀ i,i < ops.size→R i (slot a (ds.getD i 0)) w)→Below w0.heap.size w0 w→Q .normal a w) :
  ∀ (fuel:Nat) (listed:Array Bool) (a:Act) (w:World),unl listed ops.size≤fuel→GInv ops ds R a0 w0 listed a w→wpAny P .any ops Q fuel listed a w:=by
 have hall:∀ (listed:Array Bool) (a:Act) (w:World),GInv ops ds R a0 w0 listed a w→Region.ready .any ops listed=[]→Q .normal a w:=by
  intro listed a w hI hr;refine hdone a w hI.tsize hI.defers hI.outer (fun i hi=>hI.inner i ?_) hI.below;have key:∀ i,i < ops.size→listed.getD i false=true:=by
   intro i;induction i using Nat.strongRecOn with
   | ind i ih =>
    intro hi;have hsz:=hI.size;by_cases hh:listed.getD i true=true
    ·have hlt:i < listed.size:=by omega
     simpa [hlt] using hh
    ·exfalso
     have hmem:i∈Region.ready .any ops listed:=by
      rw [mem_ready];refine ⟨by simpa using hh,ops[i],by simp [hi],fun e he hb=>?_⟩;have hlt:=hF.topo i ops[i] (by simp [hi]) e he hb;exact ih _ hlt (by omega)
     rw [hr] at hmem;simp at hmem
  exact key i hi
 intro fuel;induction fuel with
 | zero =>
  intro listed a w hu hI;have hr:Region.ready .any ops listed=[]:=by
   rw [List.eq_nil_iff_forall_not_mem];intro i hi;rw [mem_ready] at hi;obtain ⟨h0,o,ho,_⟩:=hi;have:=unl_zero (listed:=listed) ops.size (by omega) i (Array.getElem?_eq_some_iff.1 ho).1;rw [h0] at this;simp at this
  exact ⟨hr,hall listed a w hI hr⟩
 | succ fuel ih =>
  intro listed a w hu hI;refine ⟨fun hr=>hall listed a w hI hr,fun i hi=>?_⟩;rw [mem_ready] at hi;obtain ⟨h0,o,ho,hdeps⟩:=hi;have hi:i < ops.size:=(Array.getElem?_eq_some_iff.1 ho).1;have hd:=hF.dst i o ho;have hil:i < ds.length:=by rw [hF.len]; exact hi
  have hmem:ds.getD i 0∈ds:=by rw [getD_at hil]; exact List.getElem_mem hil
  refine wpOp_step ho (fun K' hK=>?_);refine hstep i o ho K' a w hI.outer (fun e he hb=>hI.inner _ (hdeps e he hb)) hI.below (fun v w' hR hB=>hK _ _ ?_);refine ih _ _ _ (by have:=unl_set h0 ops.size hi; omega) ⟨by simp [hI.size],?_,?_,fun t ht=>?_,fun j hj=>?_,hI.below.trans (hB.mono hI.below.size)⟩
  ·rw [hd]; simp [Act.put,hI.tsize]
  ·rw [hd]; simp [Act.put,hI.defers]
  ·rw [hd,slot_put_ne (show ds.getD i 0≠t from fun e=>ht (e ▸ hmem))]; exact hI.outer t ht
  ·rw [hd];by_cases e:i=j
   ·subst e;rw [slot_put_eq (by rw [hI.tsize]; exact hF.fits _ hmem)];exact hR
   ·rw [getD_set_ne false e] at hj;have hjl:j < ds.length:=by
     rw [hF.len,← hI.size];rcases Nat.lt_or_ge j listed.size with h' | h'
     ·exact h'
     ·simp [Array.getElem?_eq_none h'] at hj
    rw [slot_put_ne (nodup_ne hF.nodup hil hjl e)];exact hst _ _ _ _ (hI.inner j hj) hB
theorem wp_region_growG0 {id:Nat} (hm:P.follows .mixedOrders=true) (hF:GFormG ops ds a0.tmps.size) (hst:∀ i v w w',R i v w→Below w.heap.size w w'→R i v w')
  (hstep:∀ i o,ops[i]?=some o→GStepG P ops Q ds R a0 w0.drew i o)
  (hdone:∀ a w,a.tmps.size=a0.tmps.size→a.defers=a0.defers→(∀ t,t ∉ ds→slot a t=slot a0 t)→(∀ i,i < ops.size→R i (slot a (ds.getD i 0)) w)→Below w0.drew.heap.size w0.drew w→Q .normal a w) :
  (Code.region id ops true).wp P Q a0 w0:=by
 refine wp_region_any hm (wpAny_growG (w0:=w0.drew) hF hst hstep hdone ops.size _ a0 w0.drew (unl_le _ _) ⟨by simp,rfl,rfl,fun _ _=>rfl,fun i hi=>?_,Below.refl _ _⟩);exfalso
 by_cases h:i < ops.size
 ·simp [h] at hi
 ·simp [h] at hi
def GStepsG (P:Program) (ops:Array Oper) (Q:Exit→Act→World→Prop) (ds:List Tmp) (R:Nat→Value→World→Prop) (a0:Act) (w0:World):Nat→List Oper→Prop
 | _,[]=>True
 | n,o::l=>GStepG P ops Q ds R a0 w0 n o∧GStepsG P ops Q ds R a0 w0 (n+1) l
theorem GStepsG.at':∀ (l:List Oper) (n:Nat),GStepsG P ops Q ds R a0 w0 n l→∀ i o,l[i]?=some o→GStepG P ops Q ds R a0 w0 (n+i) o
 | [],_,_,i,o,h=>by simp at h
 | p::l,n,hs,0,o,h=>by simp at h; subst h; exact hs.1
 | p::l,n,hs,i+1,o,h=>by
  have:=GStepsG.at' l (n+1) hs.2 i o (by simpa using h);rwa [show n+1+i=n+(i+1) by omega] at this
end
theorem yielded_of {ops:Array Oper} {a:Act} {j d:Nat} {o:Oper} {b:Bool} (ho:ops[j]?=some o) (hd:o.dst=some d) (hs:slot a d=.bool b):yielded ops a.tmps j=some b:=by
 unfold yielded;rw [ho];simp only [Option.bind_some,hd];unfold slot at hs;by_cases h:d < a.tmps.size
 ·simp [h] at hs ⊢; rw [hs]
 ·simp [h,undef] at hs
theorem wanted_of {ops:Array Oper} {a:Act} {o:Oper} {j d:Nat} {oj:Oper} {b want:Bool} (hg:o.guard=some (j,want)) (ho:ops[j]?=some oj) (hd:oj.dst=some d) (hs:slot a d=.bool b):Region.wanted o (yielded ops a.tmps)=(b==want):=by
 unfold Region.wanted;rw [hg];show (yielded ops a.tmps j==some want)=_;rw [yielded_of ho hd hs]
 cases b<;>cases want<;>rfl
theorem wanted_undef {ops:Array Oper} {a:Act} {o:Oper} {j d:Nat} {oj:Oper} {want:Bool} (hg:o.guard=some (j,want)) (ho:ops[j]?=some oj) (hd:oj.dst=some d) (hs:slot a d=undef):Region.wanted o (yielded ops a.tmps)=false:=by
 unfold Region.wanted;rw [hg];show (yielded ops a.tmps j==some want)=_;unfold yielded;rw [ho];simp only [Option.bind_some,hd];unfold slot at hs;by_cases h:d < a.tmps.size
 ·simp [h,undef] at hs ⊢; rw [hs]; simp
 ·simp [h]
theorem wants {ops:Array Oper} {a:Act} {o:Oper} (j d:Nat) {oj:Oper} (b want:Bool) {A B:Prop} (hg:o.guard=some (j,want)) (ho:ops[j]?=some oj) (hd:oj.dst=some d) (hs:slot a d=.bool b) (hb:(b==want)=true) (h:A):if Region.wanted o (yielded ops a.tmps)=true then A else B:=by
 rw [wanted_of hg ho hd hs,if_pos hb]; exact h
theorem wantsN {ops:Array Oper} {a:Act} {o:Oper} (j d:Nat) {oj:Oper} (b want:Bool) {A B:Prop} (hg:o.guard=some (j,want)) (ho:ops[j]?=some oj) (hd:oj.dst=some d) (hs:slot a d=.bool b) (hb:(b==want)=false) (h:B):if Region.wanted o (yielded ops a.tmps)=true then A else B:=by
 rw [wanted_of hg ho hd hs,if_neg (by rw [hb]; decide)]; exact h
theorem wanted_none {ops:Array Oper} {a:Act} {o:Oper} (hg:o.guard=none):Region.wanted o (yielded ops a.tmps)=true:=by unfold Region.wanted; rw [hg]
section
variable {P:Program} {ops:Array Oper} {Q:Exit→Act→World→Prop} {ds:List Tmp} {a0:Act} {w0:World}
theorem rAt_left {Rs Ss:List (Value→World→Prop)} {i:Nat} (h:i < Rs.length):rAt (Rs++Ss) i=rAt Rs i:=by
 unfold rAt;simp [List.getElem?_append_left h]
theorem GStepG.congr {R R':Nat→Value→World→Prop} {i:Nat} {o:Oper} (ht:∀ e∈o.after,Region.binds .any e=true→e.on < i) (h:∀ j,j≤i→R j=R' j) (hs:GStepG P ops Q ds R a0 w0 i o):GStepG P ops Q ds R' a0 w0 i o:=by
 intro K' a w ho hd hb hK;refine hs K' a w ho (fun e he hbd=>?_) hb (fun v w' hr=>?_)
 ·rw [h e.on (Nat.le_of_lt (ht e he hbd))]; exact hd e he hbd
 ·rw [h i (Nat.le_refl _)] at hr; exact hK v w' hr
def GCh (P:Program) (ops:Array Oper) (Q:Exit→Act→World→Prop) (ds:List Tmp) (a0:Act) (w0:World):List (Value→World→Prop)→List Oper→Prop
 | Rs,[]=>∀ (X:Nat→Value) w,RAll X w 0 Rs→Below w0.heap.size w0 w→Q .normal (putsFrom X a0 0 ds) w
 | Rs,o::l=>∃ r,Stable r∧GStepG P ops Q ds (rAt (Rs++[r])) a0 w0 Rs.length o∧GCh P ops Q ds a0 w0 (Rs++[r]) l
theorem GCh.all:∀ (l:List Oper) (Rs:List (Value→World→Prop)),(∀ i o,l[i]?=some o→∀ e∈o.after,Region.binds .any e=true→e.on < Rs.length+i)→(∀ r∈Rs,Stable r)→GCh P ops Q ds a0 w0 Rs l →
  ∃ Ss,(Rs++Ss).length=Rs.length+l.length∧(∀ r∈Rs++Ss,Stable r)∧(∀ i o,l[i]?=some o→GStepG P ops Q ds (rAt (Rs++Ss)) a0 w0 (Rs.length+i) o)∧(∀ (X:Nat→Value) w,RAll X w 0 (Rs++Ss)→Below w0.heap.size w0 w→Q .normal (putsFrom X a0 0 ds) w)
 | [],Rs,_,hst,h=>⟨[],by simp,by simpa using hst,fun i o ho=>by simp at ho,by rw [List.append_nil]; exact h⟩
 | o::l,Rs,ht,hst,⟨r,hr,hs,hc⟩=>by
  obtain ⟨Ss,h1,h2,h3,h4⟩:=GCh.all l (Rs++[r]) (fun i o' ho e he hb=>by
   have:=ht (i+1) o' (by simpa using ho) e he hb;simp; omega) (fun x hx=>by
   rcases List.mem_append.1 hx with hx | hx
   ·exact hst x hx
   ·simp at hx; subst hx; exact hr) hc
  refine ⟨r::Ss,by simp at h1 ⊢; omega,by simpa using h2,fun i o' ho=>?_,by simpa using h4⟩;have e:Rs++r::Ss=Rs++[r]++Ss:=by simp
  rw [e]
  cases i with
  | zero =>
   simp at ho;subst ho;refine GStepG.congr (ht 0 o rfl) (fun j hj=>?_) hs;exact (rAt_left (by simp; omega)).symm
  | succ i =>
   have:=h3 i o' (by simpa using ho);rwa [show (Rs++[r]).length+i=Rs.length+(i+1) by simp; omega] at this
theorem wp_region_growH {id:Nat} (ds:List Tmp) (hm:P.follows .mixedOrders=true) (hF:gformG ops ds a0.tmps.size=true) (h:GCh P ops Q ds a0 w0.drew [] ops.toList) :
  (Code.region id ops true).wp P Q a0 w0:=by
 have hG:=GFormG.of hF;obtain ⟨Ss,h1,h2,h3,h4⟩:=GCh.all ops.toList [] (fun i o ho e he hb=>by
  have:=hG.topo i o (by simpa using ho) e he hb;simpa using this) (fun r hr=>by simp at hr) h
 simp only [List.nil_append,List.length_nil,Nat.zero_add] at h1 h2 h3 h4;refine wp_region_growG0 (ds:=ds) (R:=rAt Ss) hm hG (fun i v w w' h hb=>?_) (fun i o ho=>?_) (fun a w g1 g2 g3 g4 g5=>?_)
 ·unfold rAt at *;by_cases hi:i < Ss.length
  ·have e:Ss.getD i (fun _ _=>True)=Ss[i]:=by simp [hi]
   rw [e] at h ⊢;exact h2 _ (List.getElem_mem hi) v w w' h hb
  ·have e:Ss.getD i (fun _ _=>True)=fun _ _=>True:=by simp [Nat.le_of_not_lt hi]
   rw [e]; trivial
 ·exact h3 i o (by simpa using ho)
 ·have hp:putsFrom (fun i=>slot a (ds.getD i 0)) a0 0 ds=a:=puts_eq ds a0 0 g1.symm g2.symm (fun i _=>by rw [Nat.zero_add]) (fun t ht=>(g3 t ht).symm) (fun d hd=>by rw [g1]; exact hG.fits d hd);rw [← hp];exact h4 (fun i=>slot a (ds.getD i 0)) w (RAll.mk Ss 0 (fun i hi=>by rw [Nat.zero_add]; exact g4 i (by rw [← Array.length_toList,← h1]; exact hi))) g5
theorem GCh.val {Rs:List (Value→World→Prop)} {n:Nat} {o:Oper} {l:List Oper} (Rs':Value→List (Value→World→Prop)) (hR:∀ v,Rs' v=Rs++[IsV v]) (hn:Rs.length=n) (h:∃ v,GStepG P ops Q ds (rAt (Rs' v)) a0 w0 n o∧GCh P ops Q ds a0 w0 (Rs' v) l):GCh P ops Q ds a0 w0 Rs (o::l):=by
 obtain ⟨v,h1,h2⟩:=h;rw [hR] at h1 h2;subst hn;exact ⟨IsV v,stable_isV v,h1,h2⟩
theorem GCh.rel {Rs:List (Value→World→Prop)} {n:Nat} {o:Oper} {l:List Oper} (r:Value→World→Prop) (hr:Stable r) (Rs':List (Value→World→Prop)) (hR:Rs'=Rs++[r]) (hn:Rs.length=n) (h1:GStepG P ops Q ds (rAt Rs') a0 w0 n o) (h2:GCh P ops Q ds a0 w0 Rs' l):GCh P ops Q ds a0 w0 Rs (o::l):=by
 subst hR hn;exact ⟨r,hr,h1,h2⟩
def GW (P:Program) (Q:Exit→Act→World→Prop) (ds:List Tmp) (Rs:List (Value→World→Prop)) (a0:Act) (w0:World) (i:Nat) (o:Oper):Prop :=
 ∀ (K':Act→World→Prop) (a:Act) (w:World),(∀ t,t ∉ ds→slot a t=slot a0 t)→(∀ e∈o.after,Region.binds .any e=true→rAt Rs e.on (slot a (ds.getD e.on 0)) w) →
  Below w0.heap.size w0 w→(∀ v w',rAt Rs i v w'→Below w.heap.size w w'→K' (a.put o.dst v) w')→(∀ v,rAt Rs i v w→K' (a.put o.dst v) w)→Oper.wp P o a w K' Q
theorem GW.step {Rs:List (Value→World→Prop)} {i:Nat} {o:Oper} (hg:o.guard=none) (h:GW P Q ds Rs a0 w0 i o):GStepG P ops Q ds (rAt Rs) a0 w0 i o:=fun K' a w ho hd hb hK=>by
 rw [if_pos (wanted_none hg)];exact h K' a w ho hd hb hK (fun v hv=>hK v w hv (Below.refl _ _))
theorem GCh.vv {Rs Rs':List (Value→World→Prop)} {n:Nat} {o:Oper} {l:List Oper} {v:Value} (hR:Rs'=Rs++[IsV v]) (hn:Rs.length=n) (hg:o.guard=none) (h1:GW P Q ds Rs' a0 w0 n o) (h2:GCh P ops Q ds a0 w0 Rs' l):GCh P ops Q ds a0 w0 Rs (o::l):=by
 subst hR hn;exact ⟨IsV v,stable_isV v,h1.step hg,h2⟩
variable {R0 R1 R2 R3 R4 R5 R6 R7 R8 R9 R10 R11 R12 R13 R14 R15 R16 R17 R18 R19 R20 R21 R22 R23 R24 R25 R26 R27 R28 R29 R30 R31 R32 R33 R34 R35 R36 R37 R38 R39 R40 R41 R42 R43 R44 R45:Value→World→Prop} {o:Oper} {l:List Oper} {v:Value}
theorem GCh.v0 (hg:o.guard=none) (h1:GW P Q ds [IsV v] a0 w0 0 o) (h2:GCh P ops Q ds a0 w0 [IsV v] l):GCh P ops Q ds a0 w0 [] (o::l):=.vv rfl rfl hg h1 h2
theorem GCh.v1 (hg:o.guard=none) (h1:GW P Q ds [R0,IsV v] a0 w0 1 o) (h2:GCh P ops Q ds a0 w0 [R0,IsV v] l):GCh P ops Q ds a0 w0 [R0] (o::l):=.vv rfl rfl hg h1 h2
theorem GCh.v2 (hg:o.guard=none) (h1:GW P Q ds [R0,R1,IsV v] a0 w0 2 o) (h2:GCh P ops Q ds a0 w0 [R0,R1,IsV v] l):GCh P ops Q ds a0 w0 [R0,R1] (o::l):=.vv rfl rfl hg h1 h2
theorem GCh.v3 (hg:o.guard=none) (h1:GW P Q ds [R0,R1,R2,IsV v] a0 w0 3 o) (h2:GCh P ops Q ds a0 w0 [R0,R1,R2,IsV v] l):GCh P ops Q ds a0 w0 [R0,R1,R2] (o::l):=.vv rfl rfl hg h1 h2
theorem GCh.v4 (hg:o.guard=none) (h1:GW P Q ds [R0,R1,R2,R3,IsV v] a0 w0 4 o) (h2:GCh P ops Q ds a0 w0 [R0,R1,R2,R3,IsV v] l):GCh P ops Q ds a0 w0 [R0,R1,R2,R3] (o::l):=.vv rfl rfl hg h1 h2
theorem GCh.v5 (hg:o.guard=none) (h1:GW P Q ds [R0,R1,R2,R3,R4,IsV v] a0 w0 5 o) (h2:GCh P ops Q ds a0 w0 [R0,R1,R2,R3,R4,IsV v] l):GCh P ops Q ds a0 w0 [R0,R1,R2,R3,R4] (o::l):=.vv rfl rfl hg h1 h2
theorem GCh.v6 (hg:o.guard=none) (h1:GW P Q ds [R0,R1,R2,R3,R4,R5,IsV v] a0 w0 6 o) (h2:GCh P ops Q ds a0 w0 [R0,R1,R2,R3,R4,R5,IsV v] l):GCh P ops Q ds a0 w0 [R0,R1,R2,R3,R4,R5] (o::l):=.vv rfl rfl hg h1 h2
theorem GCh.v7 (hg:o.guard=none) (h1:GW P Q ds [R0,R1,R2,R3,R4,R5,R6,IsV v] a0 w0 7 o) (h2:GCh P ops Q ds a0 w0 [R0,R1,R2,R3,R4,R5,R6,IsV v] l):GCh P ops Q ds a0 w0 [R0,R1,R2,R3,R4,R5,R6] (o::l):=.vv rfl rfl hg h1 h2
theorem GCh.v18 (hg:o.guard=none) (h1:GW P Q ds [R0,R1,R2,R3,R4,R5,R6,R7,R8,R9,R10,R11,R12,R13,R14,R15,R16,R17,IsV v] a0 w0 18 o) (h2:GCh P ops Q ds a0 w0 [R0,R1,R2,R3,R4,R5,R6,R7,R8,R9,R10,R11,R12,R13,R14,R15,R16,R17,IsV v] l):GCh P ops Q ds a0 w0 [R0,R1,R2,R3,R4,R5,R6,R7,R8,R9,R10,R11,R12,R13,R14,R15,R16,R17] (o::l):=.vv rfl rfl hg h1 h2
end
end Go.Proofs.YthagnjokdnnmpaaGreat
