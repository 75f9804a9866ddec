import Derived.Test.YthagnjokdnnmpaaGreatMerged3
import Derived.Test.YthagnjokdnnmpaaGreatMerged8
import Derived.Test.YthagnjokdnnmpaaGreatMerged5
import Derived.Test.YthagnjokdnnmpaaGreatMerged2
import Derived.Test.YthagnjokdnnmpaaGreatMerged1
import Derived.Deep.DeepCutAuto
set_option linter.unusedVariables false
set_option linter.unusedSimpArgs false
set_option maxRecDepth 100000
set_option maxHeartbeats 8000000
namespace Go.Proofs.YthagnjokdnnmpaaGreat
open Go.RowKit Go.PlainAid Go.ChangeShapes Go.WideShapes
def PlWf (p:Pl):Prop:=StrsWf p.addrs∧In64t p.low∧In64t p.high∧In64t p.most∧In64t p.filter∧LvWf p.lv
def PlRet (base:Nat) (p:Pl) (e:Ending) (w:World):Prop:=∃ B,e=.returned (plC (some ⟨B,0,none⟩) p.addrs.length p)∧base≤B∧SlLaid strL1 1 w B p.addrs p.addrs.length p.addrs.length
section
variable {H:Type} {enc:TypeId × Value→H} {w:World} {base:Nat} {spare:Nat→Bool} {held:Bool}
theorem arr10 {α:Type} {cs:Array α} (h:cs.size=10):∃ c0 c1 c2 c3 c4 c5 c6 c7 c8 c9,cs=#[c0,c1,c2,c3,c4,c5,c6,c7,c8,c9]:=by
 obtain ⟨l⟩:=cs;match l,h with
 | [c0,c1,c2,c3,c4,c5,c6,c7,c8,c9],_=>exact ⟨c0,c1,c2,c3,c4,c5,c6,c7,c8,c9,rfl⟩
theorem open_Pool {r:Reach} {b0:Nat} {v:Value} {d:DataW H} {p:List MemPlace} (hv:Value.okWide Tryz.prog w r b0 48 v) (h:DataW.Trod enc Tryz.prog w base spare held 48 v d p) :
  ∃ (a:Option Addr) (cap:Nat) (q:Pl),v=plC a cap q∧PlWf q∧SlIs strL1 1 w a q.addrs:=by
 obtain ⟨cs,rfl,hsz⟩:=okWide_struct Tryz.underlying48 hv;obtain ⟨c0,c1,c2,c3,c4,c5,c6,c7,c8,c9,rfl⟩:=arr10 (hsz.trans (show Tryz.prog.cellsOf 48=10 by kernel_rfl));obtain ⟨fuel,hf⟩:=h;obtain ⟨m0,y0,h0⟩:=flat_field Tryz.underlying48 hf 0 _ rfl rfl (show Tryz.prog.cellsOf 24=1 by kernel_rfl) c0 rfl;obtain ⟨m1,y1,h1⟩:=flat_field Tryz.underlying48 hf 1 _ rfl rfl (show Tryz.prog.cellsOf 2=1 by kernel_rfl) c1 rfl;obtain ⟨x1,e1,_,g1⟩:=DataW.trod_int Tryz.underlying2 h1;obtain ⟨m2,y2,h2⟩:=flat_field Tryz.underlying48 hf 2 _ rfl rfl (show Tryz.prog.cellsOf 2=1 by kernel_rfl) c2 rfl;obtain ⟨x2,e2,_,g2⟩:=DataW.trod_int Tryz.underlying2 h2;obtain ⟨m3,y3,h3⟩:=flat_field Tryz.underlying48 hf 3 _ rfl rfl (show Tryz.prog.cellsOf 2=1 by kernel_rfl) c3 rfl;obtain ⟨x3,e3,_,g3⟩:=DataW.trod_int Tryz.underlying2 h3;obtain ⟨m4,y4,h4⟩:=flat_field Tryz.underlying48 hf 4 _ rfl rfl (show Tryz.prog.cellsOf 2=1 by kernel_rfl) c4 rfl;obtain ⟨x4,e4,_,g4⟩:=DataW.trod_int Tryz.underlying2 h4;obtain ⟨xs,m5,_,_,hl,hx,hg⟩:=DataW.trod_struct Tryz.underlying48 hf;have h5:DataW.trod enc Tryz.prog w base spare held m5 46 (([c0,c1,c2,c3,c4,c5,c6,c7,c8,c9].drop 5).take (Tryz.prog.cellsOf 46))=xs[5]?:=hg 5 _ rfl;have hl5:5 < xs.length:=by rw [hx]; decide
 rw [List.getElem?_eq_getElem hl5,show Tryz.prog.cellsOf 46=5 by kernel_rfl] at h5;have h5:DataW.trod enc Tryz.prog w base spare held m5 46 [c5,c6,c7,c8,c9]=some xs[5]:=h5;obtain ⟨n0,z0,k0⟩:=flat_field Tryz.underlying46 h5 0 _ rfl rfl (show Tryz.prog.cellsOf 2=1 by kernel_rfl) c5 rfl;obtain ⟨x5,e5,_,g5⟩:=DataW.trod_int Tryz.underlying2 k0;obtain ⟨n1,z1,k1⟩:=flat_field Tryz.underlying46 h5 1 _ rfl rfl (show Tryz.prog.cellsOf 2=1 by kernel_rfl) c6 rfl;obtain ⟨x6,e6,_,g6⟩:=DataW.trod_int Tryz.underlying2 k1;obtain ⟨n2,z2,k2⟩:=flat_field Tryz.underlying46 h5 2 _ rfl rfl (show Tryz.prog.cellsOf 2=1 by kernel_rfl) c7 rfl;obtain ⟨x7,e7,_,g7⟩:=DataW.trod_int Tryz.underlying2 k2;obtain ⟨n3,z3,k3⟩:=flat_field Tryz.underlying46 h5 3 _ rfl rfl (show Tryz.prog.cellsOf 2=1 by kernel_rfl) c8 rfl;obtain ⟨x8,e8,_,g8⟩:=DataW.trod_int Tryz.underlying2 k3;obtain ⟨n4,z4,k4⟩:=flat_field Tryz.underlying46 h5 4 _ rfl rfl (show Tryz.prog.cellsOf 2=1 by kernel_rfl) c9 rfl;obtain ⟨x9,e9,_,g9⟩:=DataW.trod_int Tryz.underlying2 k4;simp only [List.cons.injEq,and_true] at e1 e2 e3 e4 e5 e6 e7 e8 e9;subst e1 e2 e3 e4 e5 e6 e7 e8 e9;obtain ⟨a,len,cap,rfl⟩ : ∃ a len cap,c0=.slice a len cap:=by
  rcases DataW.trod_slice Tryz.underlying24 h0 with ⟨e,_⟩ | ⟨b,l,c,_,_,_,_,e,_⟩
  ·simp at e; exact ⟨_,_,_,e⟩
  ·simp at e; exact ⟨_,_,_,e⟩
 obtain ⟨ys,rfl,hw,hs⟩:=open_StringS h0;exact ⟨a,cap,⟨ys,x1,x2,x3,x4,⟨x5,x6,x7,x8,x9⟩⟩,rfl,⟨hw,wf64s g1,wf64s g2,wf64s g3,wf64s g4,wf64s g5,wf64s g6,wf64s g7,wf64s g8,wf64s g9⟩,hs⟩
end
theorem szPool_at (p:Pl) (a:Option Addr) (cap:Nat) (left:Int) (w:World) (hw:PlWf p) (hr:SlIs strL1 1 w a p.addrs) (h0:0≤left) (h1:left≤1048576) :
  Calls Tryz.prog 11 #[plC a cap p,.int .i64 left] w fun e w'=>e=.returned (.int .i64 (szSl strN p.addrs left))∧Below w.heap.size w w':=by
 have GA:Hid (Below w.heap.size w (w.alloc (.cells #[.slice a p.addrs.length cap,.int .i64 p.low,.int .i64 p.high,.int .i64 p.most,.int .i64 p.filter,.int .i64 p.lv.udp,.int .i64 p.lv.echo,.int .i64 p.lv.opening,.int .i64 p.lv.opn,.int .i64 p.lv.closing] 48))):=(Below.refl _ _).alloc (Nat.le_refl _) _;have HC:Hid (∀ W,Below w.heap.size w W→Calls Tryz.prog 45 #[.slice a p.addrs.length cap,.int .i64 left] W fun e w'=>e=.returned (.int .i64 (szSl strN p.addrs left))∧Below W.heap.size W w'):=fun W hW=>szStringS_at p.addrs a cap left W hw.1 (hr.below hW) h0 h1
 have hrg:=szSl_range strN p.addrs left h0;clear hr;generalize szSl strN p.addrs left=ans at *;unfold plC;by_cases hs:ans < 0
 ·have he:ans=-1:=by omega
  subst he;go_enter Tryz.func11,Tryz.ntmps11
  go_wp2_with fail
  refine (HC.out _ GA.out).mono ?_;rintro e w1 ⟨rfl,q1⟩;have G1:Hid (Below w.heap.size w w1):=GA.out.trans (q1.mono GA.out.size);clear q1;go_wp2_with fail
  go_ret;exact ⟨rfl,G1.out⟩
 ·have hs1:0≤ans:=by omega
  have hs2:ans≤1048576:=by omega
  go_enter Tryz.func11,Tryz.ntmps11
  go_wp2_with fail
  refine (HC.out _ GA.out).mono ?_;rintro e w1 ⟨rfl,q1⟩;have G1:Hid (Below w.heap.size w w1):=GA.out.trans (q1.mono GA.out.size);clear q1;go_wp2_with fail
  go_ret;exact ⟨rfl,G1.out⟩
theorem toPool_any (p:Pl) (a:Option Addr) (cap:Nat) (w:World) (hl:p.addrs.length≤1048576) (hr:SlIs strL1 1 w a p.addrs) :
  Calls Tryz.prog 14 #[plC a cap p] w fun e w'=>PlRet w.heap.size p e w'∧Below w.heap.size w w':=by
 have HB:Hid (Below w.heap.size w (((w.alloc (.cells #[.slice a p.addrs.length cap,.int .i64 p.low,.int .i64 p.high,.int .i64 p.most,.int .i64 p.filter,.int .i64 p.lv.udp,.int .i64 p.lv.echo,.int .i64 p.lv.opening,.int .i64 p.lv.opn,.int .i64 p.lv.closing] 48)).alloc (.cells #[.slice none 0 0,.int .i64 0,.int .i64 0,.int .i64 0,.int .i64 0,.int .i64 0,.int .i64 0,.int .i64 0,.int .i64 0,.int .i64 0] 28)).alloc (.cells #[.slice none 0 0,.int .i64 0,.int .i64 0,.int .i64 0,.int .i64 0,.int .i64 0,.int .i64 0,.int .i64 0,.int .i64 0,.int .i64 0] 28))):=(((Below.refl _ _).alloc (Nat.le_refl _) _).alloc (by simp) _).alloc (by simp; omega) _;have H0:=((HoldsL.new w [.slice a p.addrs.length cap,.int .i64 p.low,.int .i64 p.high,.int .i64 p.most,.int .i64 p.filter,.int .i64 p.lv.udp,.int .i64 p.lv.echo,.int .i64 p.lv.opening,.int .i64 p.lv.opn,.int .i64 p.lv.closing] 48).alloc (.cells #[.slice none 0 0,.int .i64 0,.int .i64 0,.int .i64 0,.int .i64 0,.int .i64 0,.int .i64 0,.int .i64 0,.int .i64 0,.int .i64 0] 28)).alloc (.cells #[.slice none 0 0,.int .i64 0,.int .i64 0,.int .i64 0,.int .i64 0,.int .i64 0,.int .i64 0,.int .i64 0,.int .i64 0,.int .i64 0] 28);have H1:=(HoldsL.new (w.alloc (.cells #[.slice a p.addrs.length cap,.int .i64 p.low,.int .i64 p.high,.int .i64 p.most,.int .i64 p.filter,.int .i64 p.lv.udp,.int .i64 p.lv.echo,.int .i64 p.lv.opening,.int .i64 p.lv.opn,.int .i64 p.lv.closing] 48)) [.slice none 0 0,.int .i64 0,.int .i64 0,.int .i64 0,.int .i64 0,.int .i64 0,.int .i64 0,.int .i64 0,.int .i64 0,.int .i64 0] 28).alloc (.cells #[.slice none 0 0,.int .i64 0,.int .i64 0,.int .i64 0,.int .i64 0,.int .i64 0,.int .i64 0,.int .i64 0,.int .i64 0,.int .i64 0] 28);have H2:=HoldsL.new ((w.alloc (.cells #[.slice a p.addrs.length cap,.int .i64 p.low,.int .i64 p.high,.int .i64 p.most,.int .i64 p.filter,.int .i64 p.lv.udp,.int .i64 p.lv.echo,.int .i64 p.lv.opening,.int .i64 p.lv.opn,.int .i64 p.lv.closing] 48)).alloc (.cells #[.slice none 0 0,.int .i64 0,.int .i64 0,.int .i64 0,.int .i64 0,.int .i64 0,.int .i64 0,.int .i64 0,.int .i64 0,.int .i64 0] 28)) [.slice none 0 0,.int .i64 0,.int .i64 0,.int .i64 0,.int .i64 0,.int .i64 0,.int .i64 0,.int .i64 0,.int .i64 0,.int .i64 0] 28;have hsz:(((w.alloc (.cells #[.slice a p.addrs.length cap,.int .i64 p.low,.int .i64 p.high,.int .i64 p.most,.int .i64 p.filter,.int .i64 p.lv.udp,.int .i64 p.lv.echo,.int .i64 p.lv.opening,.int .i64 p.lv.opn,.int .i64 p.lv.closing] 48)).alloc (.cells #[.slice none 0 0,.int .i64 0,.int .i64 0,.int .i64 0,.int .i64 0,.int .i64 0,.int .i64 0,.int .i64 0,.int .i64 0,.int .i64 0] 28)).alloc (.cells #[.slice none 0 0,.int .i64 0,.int .i64 0,.int .i64 0,.int .i64 0,.int .i64 0,.int .i64 0,.int .i64 0,.int .i64 0,.int .i64 0] 28)).heap.size=w.heap.size+1+1+1:=by simp
 rw [World.size_alloc] at H1 H2;rw [World.size_alloc] at H2;have HS:Hid (∀ W,Below w.heap.size w W→Calls Tryz.prog 47 #[.slice a p.addrs.length cap] W fun e w'=>e=.returned (.slice (some ⟨W.heap.size,0,none⟩) p.addrs.length p.addrs.length)∧Below W.heap.size W w'∧SlLaid strL1 1 w' W.heap.size p.addrs p.addrs.length p.addrs.length):=fun W hW=>toStringS_any p.addrs a cap W hl (hr.below hW)
 have HT:Hid (∀ W,Calls Tryz.prog 48 #[lvC p.lv] W fun e w'=>e=.returned (lvC p.lv)∧Below W.heap.size W w'):=fun W=>toLives_any p.lv W
 have G0:Hid _:=H0;have G1:Hid _:=H1;have G2:Hid _:=H2;unfold plC;unfold lvC at HT;clear hr H0 H1 H2;go_enter Tryz.func14,Tryz.ntmps14
 go_upto_region 2 with fail
 generalize ((w.alloc (.cells #[.slice a p.addrs.length cap,.int .i64 p.low,.int .i64 p.high,.int .i64 p.most,.int .i64 p.filter,.int .i64 p.lv.udp,.int .i64 p.lv.echo,.int .i64 p.lv.opening,.int .i64 p.lv.opn,.int .i64 p.lv.closing] 48)).alloc (.cells #[.slice none 0 0,.int .i64 0,.int .i64 0,.int .i64 0,.int .i64 0,.int .i64 0,.int .i64 0,.int .i64 0,.int .i64 0,.int .i64 0] 28)).alloc (.cells #[.slice none 0 0,.int .i64 0,.int .i64 0,.int .i64 0,.int .i64 0,.int .i64 0,.int .i64 0,.int .i64 0,.int .i64 0,.int .i64 0] 28)=W3 at *;have k0:=G0.out.cell (j:=0) rfl;go_wp2_with fail
 refine (HS.out _ HB.out).mono ?_;rintro e w1 ⟨rfl,q1,y1⟩;have B1:Hid (Below w.heap.size w w1):=HB.out.trans (q1.mono HB.out.size);have K0:=G0.out.kept (by simp) q1;have K1:Hid _:=G1.out.kept (by simp) q1;have K2:=G2.out.kept (by simp) q1;have HY:Hid (SlLaid strL1 1 w1 W3.heap.size p.addrs p.addrs.length p.addrs.length):=y1;rw [hsz] at HY ⊢;obtain ⟨C,hC⟩ : ∃ C,C=w.heap.size+1+1+1:=⟨_,rfl⟩;rw [← hC] at HY ⊢;have hCl:w.heap.size+1+1 < C:=by omega
 clear q1 y1 k0 hC hsz;obtain ⟨-,b1,b2,b3,b4,b5,b6,b7,b8,b9⟩:=K0.c10;obtain ⟨o0,o1,o2,o3,o4⟩:=K2.c5;obtain ⟨f0,f1,f2,f3,f4⟩:=K2.f5;have D2:Hid _:=((((K2.set 0 (.slice (some ⟨C,0,none⟩) p.addrs.length p.addrs.length)).set 1 (.int .i64 p.low)).set 2 (.int .i64 p.high)).set 3 (.int .i64 p.most)).set 4 (.int .i64 p.filter);have D1:Hid _:=((((K1.out.setOther (C:=w.heap.size+1+1) (j:=0) (by omega) (.slice (some ⟨C,0,none⟩) p.addrs.length p.addrs.length)).setOther (C:=w.heap.size+1+1) (j:=1) (by omega) (.int .i64 p.low)).setOther (C:=w.heap.size+1+1) (j:=2) (by omega) (.int .i64 p.high)).setOther (C:=w.heap.size+1+1) (j:=3) (by omega) (.int .i64 p.most)).setOther (C:=w.heap.size+1+1) (j:=4) (by omega) (.int .i64 p.filter);have DY:Hid _:=((((HY.out.setOther (X:=w.heap.size+1+1) (o:=0) (by omega) (.slice (some ⟨C,0,none⟩) p.addrs.length p.addrs.length)).setOther (X:=w.heap.size+1+1) (o:=1) (by omega) (.int .i64 p.low)).setOther (X:=w.heap.size+1+1) (o:=2) (by omega) (.int .i64 p.high)).setOther (X:=w.heap.size+1+1) (o:=3) (by omega) (.int .i64 p.most)).setOther (X:=w.heap.size+1+1) (o:=4) (by omega) (.int .i64 p.filter);have DB:Hid _:=((((B1.out.setCell (p:=⟨w.heap.size+1+1,0,none⟩) (by show w.heap.size≤w.heap.size+1+1; omega) (.slice (some ⟨C,0,none⟩) p.addrs.length p.addrs.length)).setCell (p:=⟨w.heap.size+1+1,1,none⟩) (by show w.heap.size≤w.heap.size+1+1; omega) (.int .i64 p.low)).setCell (p:=⟨w.heap.size+1+1,2,none⟩) (by show w.heap.size≤w.heap.size+1+1; omega) (.int .i64 p.high)).setCell (p:=⟨w.heap.size+1+1,3,none⟩) (by show w.heap.size≤w.heap.size+1+1; omega) (.int .i64 p.most)).setCell (p:=⟨w.heap.size+1+1,4,none⟩) (by show w.heap.size≤w.heap.size+1+1; omega) (.int .i64 p.filter);clear K0 K1 K2 HY B1;go_wp2_with fail
 generalize ((((w1.setCell ⟨w.heap.size+1+1,0,none⟩ (.slice (some ⟨C,0,none⟩) p.addrs.length p.addrs.length)).setCell ⟨w.heap.size+1+1,1,none⟩ (.int .i64 p.low)).setCell ⟨w.heap.size+1+1,2,none⟩ (.int .i64 p.high)).setCell ⟨w.heap.size+1+1,3,none⟩ (.int .i64 p.most)).setCell ⟨w.heap.size+1+1,4,none⟩ (.int .i64 p.filter)=W5 at *;refine (HT.out _).mono ?_;rintro e w6 ⟨rfl,q6⟩;have E2:=D2.out.kept (by simp) q6;have E1:=D1.out.kept (by simp) q6;have EY:Hid _:=DY.out.kept q6;have EB:Hid (Below w.heap.size w w6):=DB.out.trans (q6.mono DB.out.size);clear q6;clear b1 b2 b3 b4 b5 b6 b7 b8 b9 o0 o1 o2 o3 o4 f0 f1 f2 f3 f4;obtain ⟨o0,o1,o2,o3,o4,o5,o6,o7,o8,o9⟩:=E2.c10;obtain ⟨-,-,-,-,-,f5,f6,f7,f8,f9⟩:=E2.f10;obtain ⟨r0,r1,r2,r3,r4,r5,r6,r7,r8,r9⟩:=E1.c10;obtain ⟨s0,s1,s2,s3,s4,s5,s6,s7,s8,s9⟩:=E1.f10;have R1:Hid (HoldsL _ (w.heap.size+1) (plL (some ⟨C,0,none⟩) p.addrs.length p)):=(((((((((((((((E1.setOther (C:=w.heap.size+1+1) (j:=5) (by omega) (.int .i64 p.lv.udp)).setOther (C:=w.heap.size+1+1) (j:=6) (by omega) (.int .i64 p.lv.echo)).setOther (C:=w.heap.size+1+1) (j:=7) (by omega) (.int .i64 p.lv.opening)).setOther (C:=w.heap.size+1+1) (j:=8) (by omega) (.int .i64 p.lv.opn)).setOther (C:=w.heap.size+1+1) (j:=9) (by omega) (.int .i64 p.lv.closing)).set 0 (.slice (some ⟨C,0,none⟩) p.addrs.length p.addrs.length)).set 1 (.int .i64 p.low)).set 2 (.int .i64 p.high)).set 3 (.int .i64 p.most)).set 4 (.int .i64 p.filter)).set 5 (.int .i64 p.lv.udp)).set 6 (.int .i64 p.lv.echo)).set 7 (.int .i64 p.lv.opening)).set 8 (.int .i64 p.lv.opn)).set 9 (.int .i64 p.lv.closing));have RY:Hid _:=(((((((((((((((EY.out.setOther (X:=w.heap.size+1+1) (o:=5) (by omega) (.int .i64 p.lv.udp)).setOther (X:=w.heap.size+1+1) (o:=6) (by omega) (.int .i64 p.lv.echo)).setOther (X:=w.heap.size+1+1) (o:=7) (by omega) (.int .i64 p.lv.opening)).setOther (X:=w.heap.size+1+1) (o:=8) (by omega) (.int .i64 p.lv.opn)).setOther (X:=w.heap.size+1+1) (o:=9) (by omega) (.int .i64 p.lv.closing)).setOther (X:=w.heap.size+1) (o:=0) (by omega) (.slice (some ⟨C,0,none⟩) p.addrs.length p.addrs.length)).setOther (X:=w.heap.size+1) (o:=1) (by omega) (.int .i64 p.low)).setOther (X:=w.heap.size+1) (o:=2) (by omega) (.int .i64 p.high)).setOther (X:=w.heap.size+1) (o:=3) (by omega) (.int .i64 p.most)).setOther (X:=w.heap.size+1) (o:=4) (by omega) (.int .i64 p.filter)).setOther (X:=w.heap.size+1) (o:=5) (by omega) (.int .i64 p.lv.udp)).setOther (X:=w.heap.size+1) (o:=6) (by omega) (.int .i64 p.lv.echo)).setOther (X:=w.heap.size+1) (o:=7) (by omega) (.int .i64 p.lv.opening)).setOther (X:=w.heap.size+1) (o:=8) (by omega) (.int .i64 p.lv.opn)).setOther (X:=w.heap.size+1) (o:=9) (by omega) (.int .i64 p.lv.closing));have RB:Hid _:=(((((((((((((((EB.out.setCell (p:=⟨w.heap.size+1+1,5,none⟩) (by show w.heap.size≤w.heap.size+1+1; omega) (.int .i64 p.lv.udp)).setCell (p:=⟨w.heap.size+1+1,6,none⟩) (by show w.heap.size≤w.heap.size+1+1; omega) (.int .i64 p.lv.echo)).setCell (p:=⟨w.heap.size+1+1,7,none⟩) (by show w.heap.size≤w.heap.size+1+1; omega) (.int .i64 p.lv.opening)).setCell (p:=⟨w.heap.size+1+1,8,none⟩) (by show w.heap.size≤w.heap.size+1+1; omega) (.int .i64 p.lv.opn)).setCell (p:=⟨w.heap.size+1+1,9,none⟩) (by show w.heap.size≤w.heap.size+1+1; omega) (.int .i64 p.lv.closing)).setCell (p:=⟨w.heap.size+1,0,none⟩) (by show w.heap.size≤w.heap.size+1; omega) (.slice (some ⟨C,0,none⟩) p.addrs.length p.addrs.length)).setCell (p:=⟨w.heap.size+1,1,none⟩) (by show w.heap.size≤w.heap.size+1; omega) (.int .i64 p.low)).setCell (p:=⟨w.heap.size+1,2,none⟩) (by show w.heap.size≤w.heap.size+1; omega) (.int .i64 p.high)).setCell (p:=⟨w.heap.size+1,3,none⟩) (by show w.heap.size≤w.heap.size+1; omega) (.int .i64 p.most)).setCell (p:=⟨w.heap.size+1,4,none⟩) (by show w.heap.size≤w.heap.size+1; omega) (.int .i64 p.filter)).setCell (p:=⟨w.heap.size+1,5,none⟩) (by show w.heap.size≤w.heap.size+1; omega) (.int .i64 p.lv.udp)).setCell (p:=⟨w.heap.size+1,6,none⟩) (by show w.heap.size≤w.heap.size+1; omega) (.int .i64 p.lv.echo)).setCell (p:=⟨w.heap.size+1,7,none⟩) (by show w.heap.size≤w.heap.size+1; omega) (.int .i64 p.lv.opening)).setCell (p:=⟨w.heap.size+1,8,none⟩) (by show w.heap.size≤w.heap.size+1; omega) (.int .i64 p.lv.opn)).setCell (p:=⟨w.heap.size+1,9,none⟩) (by show w.heap.size≤w.heap.size+1; omega) (.int .i64 p.lv.closing))
 clear E1 E2;go_wp2_with fail
 exact bodyPost_ret (results_mid Tryz.results14 _ _ (w.heap.size+1) (plL (some ⟨C,0,none⟩) p.addrs.length p) _ rfl R1.out Tryz.underlying28 rfl (show (Tryz.prog.info? 28).map (·.size)=some 10 by kernel_rfl)) rfl ⟨⟨C,rfl,by omega,RY.out⟩,RB.out⟩
theorem eqPool_same (p:Pl) (a1 a2:Option Addr) (cap1 cap2:Nat) (w:World) (hl:p.addrs.length≤1048576) (h1:SlIs strL1 1 w a1 p.addrs) (h2:SlIs strL1 1 w a2 p.addrs) :
  Calls Tryz.prog 18 #[plC a1 cap1 p,plC a2 cap2 p] w fun e w'=>e=.returned (.bool true)∧Below w.heap.size w w':=by
 have HB:Hid (Below w.heap.size w ((w.alloc (.cells #[.slice a1 p.addrs.length cap1,.int .i64 p.low,.int .i64 p.high,.int .i64 p.most,.int .i64 p.filter,.int .i64 p.lv.udp,.int .i64 p.lv.echo,.int .i64 p.lv.opening,.int .i64 p.lv.opn,.int .i64 p.lv.closing] 28)).alloc (.cells #[.slice a2 p.addrs.length cap2,.int .i64 p.low,.int .i64 p.high,.int .i64 p.most,.int .i64 p.filter,.int .i64 p.lv.udp,.int .i64 p.lv.echo,.int .i64 p.lv.opening,.int .i64 p.lv.opn,.int .i64 p.lv.closing] 28))):=((Below.refl _ _).alloc (Nat.le_refl _) _).alloc (by simp) _;have H0:=(HoldsL.new w [.slice a1 p.addrs.length cap1,.int .i64 p.low,.int .i64 p.high,.int .i64 p.most,.int .i64 p.filter,.int .i64 p.lv.udp,.int .i64 p.lv.echo,.int .i64 p.lv.opening,.int .i64 p.lv.opn,.int .i64 p.lv.closing] 28).alloc (.cells #[.slice a2 p.addrs.length cap2,.int .i64 p.low,.int .i64 p.high,.int .i64 p.most,.int .i64 p.filter,.int .i64 p.lv.udp,.int .i64 p.lv.echo,.int .i64 p.lv.opening,.int .i64 p.lv.opn,.int .i64 p.lv.closing] 28);have H1:=HoldsL.new (w.alloc (.cells #[.slice a1 p.addrs.length cap1,.int .i64 p.low,.int .i64 p.high,.int .i64 p.most,.int .i64 p.filter,.int .i64 p.lv.udp,.int .i64 p.lv.echo,.int .i64 p.lv.opening,.int .i64 p.lv.opn,.int .i64 p.lv.closing] 28)) [.slice a2 p.addrs.length cap2,.int .i64 p.low,.int .i64 p.high,.int .i64 p.most,.int .i64 p.filter,.int .i64 p.lv.udp,.int .i64 p.lv.echo,.int .i64 p.lv.opening,.int .i64 p.lv.opn,.int .i64 p.lv.closing] 28;rw [World.size_alloc] at H1;have HS:Hid (∀ W,Below w.heap.size w W→Calls Tryz.prog 54 #[.slice a1 p.addrs.length cap1,.slice a2 p.addrs.length cap2] W fun e w'=>e=.returned (.bool true)∧Below W.heap.size W w'):=fun W hW=>eqStringS_same p.addrs a1 a2 cap1 cap2 W hl (h1.below hW) (h2.below hW)
 have HT:Hid (∀ W,Calls Tryz.prog 55 #[lvC p.lv,lvC p.lv] W fun e w'=>e=.returned (.bool true)∧Below W.heap.size W w'):=fun W=>eqLives_same p.lv W
 have G0:Hid _:=H0;have G1:Hid _:=H1;unfold plC;unfold lvC at HT;clear h1 h2 H0 H1;go_enter Tryz.func18,Tryz.ntmps18
 go_upto_region 1 with fail
 generalize (w.alloc (.cells #[.slice a1 p.addrs.length cap1,.int .i64 p.low,.int .i64 p.high,.int .i64 p.most,.int .i64 p.filter,.int .i64 p.lv.udp,.int .i64 p.lv.echo,.int .i64 p.lv.opening,.int .i64 p.lv.opn,.int .i64 p.lv.closing] 28)).alloc (.cells #[.slice a2 p.addrs.length cap2,.int .i64 p.low,.int .i64 p.high,.int .i64 p.most,.int .i64 p.filter,.int .i64 p.lv.udp,.int .i64 p.lv.echo,.int .i64 p.lv.opening,.int .i64 p.lv.opn,.int .i64 p.lv.closing] 28)=W2 at *;have k0:=G0.out.cell (j:=0) rfl;have k1:=G1.out.cell (j:=0) rfl;go_wp2_with fail
 refine (HS.out _ HB.out).mono ?_;rintro e w1 ⟨rfl,q1⟩;have B1:Hid (Below w.heap.size w w1):=HB.out.trans (q1.mono HB.out.size);have K0:=G0.out.kept (by simp) q1;have K1:=G1.out.kept (by simp) q1;clear q1 k0 k1;obtain ⟨-,b1,b2,b3,b4,b5,b6,b7,b8,b9⟩:=K0.c10;obtain ⟨-,d1,d2,d3,d4,d5,d6,d7,d8,d9⟩:=K1.c10;clear K0 K1;go_wp2_with fail
 refine (HT.out _).mono ?_;rintro e w2 ⟨rfl,q2⟩;have B2:Hid (Below w.heap.size w w2):=B1.out.trans (q2.mono B1.out.size);clear q2;go_wp2_with fail
 go_ret;exact ⟨rfl,B2.out⟩
end Go.Proofs.YthagnjokdnnmpaaGreat
namespace Go.Proofs.YthagnjokdnnmpaaGreat
open Go.RowKit Go.PlainAid
theorem any_take {α:Type} (f:α→Bool) (xs:List α) (i:Nat) (h:i < xs.length):(xs.take (i+1)).any f=((xs.take i).any f||f xs[i]):=by
 rw [List.take_succ_eq_append_getElem h,List.any_append]; simp
theorem any_at {α:Type} (f:α→Bool) (xs:List α) (i:Nat) (h:i < xs.length) (hf:f xs[i]=true):xs.any f=true:=List.any_eq_true.2 ⟨_,List.getElem_mem h,hf⟩
theorem findI_at {α:Type} (f:α→Bool) (xs:List α) (i:Nat) (h:i < xs.length) (hn:(xs.take i).any f=false) (hf:f xs[i]=true):findI f xs=i:=by
 have:xs.findIdx? f=some i:=by
  rw [List.findIdx?_eq_some_iff_getElem];refine ⟨h,hf,fun j hj=>?_⟩;have hjl:j < xs.length:=Nat.lt_trans hj h;have:=List.any_eq_false.1 hn (xs[j]) (by rw [List.mem_take_iff_getElem]; exact ⟨j,by omega,rfl⟩);simpa using this
 unfold findI; rw [this]
theorem findI_no {α:Type} (f:α→Bool) (xs:List α) (hn:xs.any f=false):findI f xs=-1:=by
 have:xs.findIdx? f=none:=by
  rw [List.findIdx?_eq_none_iff];intro x hx;have:=List.any_eq_false.1 hn x hx;simpa using this
 unfold findI; rw [this]
theorem spBProto_any (proto:Int) (w:World) :
  Calls Tryz.prog 141 #[.int .i64 proto] w fun e w'=>e=.returned (.bool (protoB proto))∧w'=w:=by
 have hun:undef=Value.tuple #[]:=rfl;by_cases h0:proto=6
 ·subst h0;go_enter Tryz.func141,Tryz.ntmps141
  go_wp2_with fail
  go_ret;exact ⟨rfl,rfl⟩
 ·by_cases h1:proto=17
  ·subst h1;go_enter Tryz.func141,Tryz.ntmps141
   go_wp2_with fail
   go_ret;exact ⟨rfl,rfl⟩
  ·by_cases h2:proto=1
   ·subst h2;go_enter Tryz.func141,Tryz.ntmps141
    go_wp2_with fail
    go_ret;exact ⟨rfl,rfl⟩
   ·have HV:Hid (protoB proto=false):=by unfold Hid protoB; simp [h0,h1,h2]
    go_enter Tryz.func141,Tryz.ntmps141
    go_wp2_with fail
    go_ret;exact ⟨ret_bool (by rw [HV.out]; simp [h0,h1,h2]),rfl⟩
theorem spIn_any (xs:List ByteArray) (s:ByteArray) (a:Option Addr) (cap:Nat) (w:World) (hlen:xs.length≤1048576) (hr:SlIs strL1 1 w a xs) :
  Calls Tryz.prog 140 #[.slice a xs.length cap,.string s] w fun e w'=>e=.returned (.bool (inL xs s))∧Below w.heap.size w w':=by
 have HR:Hid (SlIs strL1 1 w a xs):=hr;have HV:Hid (inL xs s=xs.any fun t=>decide (t.toList=s.toList)):=rfl;generalize inL xs s=ans at *;clear hr;go_enter Tryz.func140,Tryz.ntmps140
 go_wp2_with fail
 go_loopw [5] (fun iv wr=>∃ i:Nat,i≤xs.length∧iv=.int .i64 i∧(xs.take i).any (fun t=>decide (t.toList=s.toList))=false∧Below w.heap.size w wr) (fun iv _=>xs.length-(intOf iv).toNat)
 case atStart=>exact ⟨0,Nat.zero_le _,rfl,rfl,Below.refl _ _⟩
 case round =>
  obtain ⟨i,hi,rfl,hn,hbel⟩:=hrel;have HN:Hid ((xs.take i).any (fun t=>decide (t.toList=s.toList))=false):=hn;have HL:Hid (Below w.heap.size w wr):=hbel;clear hn hbel;by_cases hlt:i < xs.length
  ·obtain ⟨b,off,rfl,hb,hat⟩:=HR.out.at hlt;have hA:=(hat.below hb HL.out) i hlt;have HST:Hid _:=any_take (fun t:ByteArray=>decide (t.toList=s.toList)) xs i hlt;have HAT:Hid _:=any_at (fun t:ByteArray=>decide (t.toList=s.toList)) xs i hlt;obtain ⟨t,ht⟩ : ∃ t,xs[i]=t:=⟨_,rfl⟩;rw [ht] at hA HST HAT;have c0:wr.cell? ⟨b,off+i,none⟩=some (.string t):=by have:=hA 0 _ rfl; simpa using this
   have c0':wr.cell? ⟨b,off+i*1,none⟩=some (.string t):=by simpa using c0
   clear hA hat ht;by_cases he:t.toList=s.toList
   ·have HX:Hid (ans=true):=by unfold Hid; rw [HV.out]; exact HAT.out (decide_eq_true he)
    have hbq:(t.toList==s.toList)=true:=by simp [he]
    clear he;go_wp2_with fail
    go_ret;exact ⟨ret_bool HX.out.symm,HL.out⟩
   ·have HN2:Hid ((xs.take (i+1)).any (fun t=>decide (t.toList=s.toList))=false):=by unfold Hid; rw [HST.out,HN.out,decide_eq_false he]; rfl
    have hbq:(t.toList==s.toList)=false:=by simp [he]
    clear he;go_wp2_with fail
    go_roundw
    case rel=>exact ⟨i+1,by omega,by go_num,HN2.out,HL.out⟩
    case measure=>simp [intOf]; omega
  ·have hie:i=xs.length:=by omega
   have HX:Hid (ans=false):=by unfold Hid; have:=HN.out; rw [hie,List.take_length] at this; rw [HV.out]; exact this
   go_wp2_with fail
   go_ret;exact ⟨ret_bool HX.out.symm,HL.out⟩
theorem spBind_any (xs:List Bd) (proto:Int) (s:ByteArray) (port:Int) (a:Option Addr) (cap:Nat) (sv:Value) (w:World) (hlen:xs.length≤1048576) (hr:SlIs bdL 5 w a xs) :
  Calls Tryz.prog 143 #[.agg #[.slice a xs.length cap,sv],.int .i64 proto,.string s,.int .i64 port] w fun e w'=>e=.returned (.int .i64 (findI (ofIn proto s port) xs))∧Below w.heap.size w w':=by
 have HB0:Hid (HoldsL (w.alloc (.cells [.slice a xs.length cap,sv].toArray 36)) w.heap.size [.slice a xs.length cap,sv]):=HoldsL.new w _ _;have HZ:Hid (Below w.heap.size w (w.alloc (.cells [.slice a xs.length cap,sv].toArray 36))):=(Below.refl _ _).alloc (Nat.le_refl _) _;have HR:Hid (SlIs bdL 5 (w.alloc (.cells [.slice a xs.length cap,sv].toArray 36)) a xs):=hr.below HZ.out;rw [show [.slice a xs.length cap,sv].toArray=#[.slice a xs.length cap,sv] from rfl] at HB0 HZ HR;obtain ⟨f,hf⟩ : ∃ f,f=ofIn proto s port:=⟨_,rfl⟩;rw [← hf];have HF:Hid (∀ q,f q=(decide (q.proto=proto)&&decide (q.inn.toList=s.toList)&&decide (q.inPort=port))):=fun q=>by rw [hf]; rfl
 clear hr hf;go_enter Tryz.func143,Tryz.ntmps143
 go_wp2_with fail
 generalize w.alloc (.cells #[.slice a xs.length cap,sv] 36)=W0 at *;have hX0:w.heap.size < W0.heap.size:=HB0.out.lt (by simp);generalize hX:w.heap.size=X at *;go_loopw [9] (fun iv wr=>∃ i:Nat,i≤xs.length∧iv=.int .i64 i∧(xs.take i).any f=false∧Below W0.heap.size W0 wr) (fun iv _=>xs.length-(intOf iv).toNat)
 case atStart=>exact ⟨0,Nat.zero_le _,rfl,rfl,Below.refl _ _⟩
 case round =>
  obtain ⟨i,hi,rfl,hn,hbel⟩:=hrel;have HN:Hid ((xs.take i).any f=false):=hn;have HL:Hid (Below W0.heap.size W0 wr):=hbel;have HW:Hid (Below X w wr):=HZ.out.trans (hbel.mono (by omega));have x0:wr.cell? ⟨X,0,none⟩=some (.slice a xs.length cap):=(HB0.out.kept (by simp) hbel).cell rfl;clear hn hbel;by_cases hlt:i < xs.length
  ·obtain ⟨b,off,rfl,hb,hat⟩:=HR.out.at hlt;have hA:=(hat.below hb HL.out) i hlt;have HST:Hid _:=any_take f xs i hlt;have HAT:Hid _:=findI_at f xs i hlt HN.out;obtain ⟨q,hq⟩ : ∃ q,xs[i]=q:=⟨_,rfl⟩;rw [hq] at hA HST HAT;have hfq:=HF.out q;have c0:wr.cell? ⟨b,off+i*5,none⟩=some (.int .i64 q.proto):=hA 0 _ rfl;have c1:wr.cell? ⟨b,off+i*5+1,none⟩=some (.string q.inn):=hA 1 _ rfl;have c2:wr.cell? ⟨b,off+i*5+2,none⟩=some (.int .i64 q.inPort):=hA 2 _ rfl;have c3:wr.cell? ⟨b,off+i*5+3,none⟩=some (.string q.out):=hA 3 _ rfl;have c4:wr.cell? ⟨b,off+i*5+4,none⟩=some (.int .i64 q.outPort):=hA 4 _ rfl;have HFQ:Hid _:=hfq;have L8:Hid (Below W0.heap.size W0 (wr.alloc (.cells #[.int .i64 q.proto,.string q.inn,.int .i64 q.inPort,.string q.out,.int .i64 q.outPort] 153))):=HL.out.alloc HL.out.size _;have W8:Hid (Below X w (wr.alloc (.cells #[.int .i64 q.proto,.string q.inn,.int .i64 q.inPort,.string q.out,.int .i64 q.outPort] 153))):=HW.out.alloc (by have:=HL.out.size; omega) _;have K8:Hid (BoxBind (wr.alloc (.cells #[.int .i64 q.proto,.string q.inn,.int .i64 q.inPort,.string q.out,.int .i64 q.outPort] 153)) wr.heap.size q):=BoxBind.new wr q;clear hA hat hq hfq;go_upto_region 5 with fail
   clear c0 c1 c2 c3 c4 x0 HL HW;generalize wr.alloc (.cells #[.int .i64 q.proto,.string q.inn,.int .i64 q.inPort,.string q.out,.int .i64 q.outPort] 153)=V8 at *;generalize wr.heap.size=Y at *;obtain ⟨k0,k1,k2,k3,k4⟩:=K8.out;go_cut [38] (fun v wx=>v=.bool (f q)∧wx=V8)
   case first =>
    by_cases d0:q.proto=proto
    ·by_cases d1:q.inn.toList=s.toList
     ·by_cases d2:q.inPort=port
      ·have HG:Hid (f q=true):=by unfold Hid; rw [HFQ.out,decide_eq_true d0,decide_eq_true d1,decide_eq_true d2]; rfl
       go_wp2_with fail
       go_meet;rw [HG.out];first | exact ⟨rfl,rfl⟩ | simp [d2]
      ·have HG:Hid (f q=false):=by unfold Hid; rw [HFQ.out,decide_eq_true d0,decide_eq_true d1,decide_eq_false d2]; rfl
       go_wp2_with fail
       go_meet;rw [HG.out];first | exact ⟨rfl,rfl⟩ | simp [d2]
     ·have HG:Hid (f q=false):=by unfold Hid; rw [HFQ.out,decide_eq_false d1]; simp
      go_wp2_with fail
      go_meet;rw [HG.out];first | exact ⟨rfl,rfl⟩ | simp [d1]
    ·have HG:Hid (f q=false):=by unfold Hid; rw [HFQ.out,decide_eq_false d0]; simp
     go_wp2_with fail
     go_meet;rw [HG.out];first | exact ⟨rfl,rfl⟩ | simp [d0]
   case rest =>
   obtain ⟨rfl,rfl⟩:=hcut;clear k0 k1 k2 k3 k4
   cases hfq:f q with
   | true =>
    have HX:Hid (findI f xs=(i:Int)):=HAT.out hfq;go_wp2_with fail
    go_ret;exact ⟨ret_int HX.out.symm,by rw [hX]; exact W8.out⟩
   | false =>
    have HN2:Hid ((xs.take (i+1)).any f=false):=by unfold Hid; rw [HST.out,HN.out,hfq]; rfl
    go_wp2_with fail
    go_roundw
    case rel=>exact ⟨i+1,by omega,by go_num,HN2.out,L8.out⟩
    case measure=>simp [intOf]; omega
  ·have hie:i=xs.length:=by omega
   have HX:Hid (findI f xs=-1):=by unfold Hid; have:=HN.out; rw [hie,List.take_length] at this; exact findI_no f xs this
   go_wp2_with fail
   go_ret;exact ⟨ret_int HX.out.symm,by rw [hX]; exact HW.out⟩
theorem specLives_any (l:Lv) (w:World) :
  Calls Tryz.prog 139 #[lvC l] w fun e w'=>e=.returned (.bool (livesOk l))∧Below w.heap.size w w':=by
 have HC0:Hid (∀ W,Calls Tryz.prog 66 #[.int .i64 l.udp,.int .i64 1,.int .i64 10000] W fun e w'=>e=.returned (.bool (isIn l.udp 1 10000))∧w'=W):=fun W=>specIs_any _ _ _ W
 have HC1:Hid (∀ W,Calls Tryz.prog 66 #[.int .i64 l.echo,.int .i64 1,.int .i64 10000] W fun e w'=>e=.returned (.bool (isIn l.echo 1 10000))∧w'=W):=fun W=>specIs_any _ _ _ W
 have HC2:Hid (∀ W,Calls Tryz.prog 66 #[.int .i64 l.opening,.int .i64 1,.int .i64 10000] W fun e w'=>e=.returned (.bool (isIn l.opening 1 10000))∧w'=W):=fun W=>specIs_any _ _ _ W
 have HC3:Hid (∀ W,Calls Tryz.prog 66 #[.int .i64 l.opn,.int .i64 1,.int .i64 10000] W fun e w'=>e=.returned (.bool (isIn l.opn 1 10000))∧w'=W):=fun W=>specIs_any _ _ _ W
 have HC4:Hid (∀ W,Calls Tryz.prog 66 #[.int .i64 l.closing,.int .i64 1,.int .i64 10000] W fun e w'=>e=.returned (.bool (isIn l.closing 1 10000))∧w'=W):=fun W=>specIs_any _ _ _ W
 have HV:Hid (livesOk l=(isIn l.udp 1 10000&&isIn l.echo 1 10000&&isIn l.opening 1 10000&&isIn l.opn 1 10000&&isIn l.closing 1 10000)):=rfl;generalize livesOk l=ans at *;generalize isIn l.udp 1 10000=b0 at *;generalize isIn l.echo 1 10000=b1 at *;generalize isIn l.opening 1 10000=b2 at *;generalize isIn l.opn 1 10000=b3 at *;generalize isIn l.closing 1 10000=b4 at *;have HZ:Hid (Below w.heap.size w (w.alloc (.cells #[.int .i64 l.udp,.int .i64 l.echo,.int .i64 l.opening,.int .i64 l.opn,.int .i64 l.closing] 26))):=(Below.refl _ _).alloc (Nat.le_refl _) _;unfold lvC;go_enter Tryz.func139,Tryz.ntmps139
 go_wp2_with fail
 cases b0 with
 | false =>
  refine (HC0.out _).mono ?_;rintro e w0 ⟨rfl,rfl⟩;go_wp2_with fail
  go_ret;exact ⟨ret_bool (by rw [HV.out]; rfl),HZ.out⟩
 | true =>
  refine (HC0.out _).mono ?_;rintro e w0 ⟨rfl,rfl⟩;go_wp2_with fail
  cases b1 with
  | false =>
   refine (HC1.out _).mono ?_;rintro e w1 ⟨rfl,rfl⟩;go_wp2_with fail
   go_ret;exact ⟨ret_bool (by rw [HV.out]; rfl),HZ.out⟩
  | true =>
   refine (HC1.out _).mono ?_;rintro e w1 ⟨rfl,rfl⟩;go_wp2_with fail
   cases b2 with
   | false =>
    refine (HC2.out _).mono ?_;rintro e w2 ⟨rfl,rfl⟩;go_wp2_with fail
    go_ret;exact ⟨ret_bool (by rw [HV.out]; rfl),HZ.out⟩
   | true =>
    refine (HC2.out _).mono ?_;rintro e w2 ⟨rfl,rfl⟩;go_wp2_with fail
    cases b3 with
    | false =>
     refine (HC3.out _).mono ?_;rintro e w3 ⟨rfl,rfl⟩;go_wp2_with fail
     go_ret;exact ⟨ret_bool (by rw [HV.out]; rfl),HZ.out⟩
    | true =>
     refine (HC3.out _).mono ?_;rintro e w3 ⟨rfl,rfl⟩;go_wp2_with fail
     cases b4 with
     | false =>
      refine (HC4.out _).mono ?_;rintro e w4 ⟨rfl,rfl⟩;go_wp2_with fail
      go_ret;exact ⟨ret_bool (by rw [HV.out]; rfl),HZ.out⟩
     | true =>
      refine (HC4.out _).mono ?_;rintro e w4 ⟨rfl,rfl⟩;go_wp2_with fail
      go_ret;exact ⟨ret_bool (by rw [HV.out]; rfl),HZ.out⟩
end Go.Proofs.YthagnjokdnnmpaaGreat
