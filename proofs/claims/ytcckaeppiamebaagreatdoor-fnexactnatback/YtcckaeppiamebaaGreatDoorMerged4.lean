import Derived.Test.YtcckaeppiamebaaGreatDoorAb
import Derived.Test.YtcckaeppiamebaaGreatDoorMerged3
import Derived.Test.YtcckaeppiamebaaGreatDoorHoldL
import Derived.Test.YtcckaeppiamebaaGreatDoorMerged1
import Derived.Test.YtcckaeppiamebaaGreatDoorMerged2
set_option linter.unusedVariables false
set_option linter.unusedSimpArgs false
set_option maxRecDepth 100000
set_option maxHeartbeats 8000000
namespace Go.Proofs.YtcckaeppiamebaaGreatDoor
open Go.RowKit Go.PlainAid Go.ChangeShapes Go.WideShapes
def PlWf (p:Pl):Prop:=StrsWf p.addrs∧In64t p.low∧In64t p.high∧In64t p.most∧In64t p.filter∧LvWf p.lv
def PlRet (base:Nat) (p:Pl) (e:Ending) (w:World):Prop:=∃ B,e=.returned (plC (some ⟨B,0,none⟩) p.addrs.length p)∧base≤B∧SlLaid strL1 1 w B p.addrs p.addrs.length p.addrs.length
section
variable {H:Type} {enc:TypeId × Value→H} {w:World} {base:Nat} {spare:Nat→Bool} {held:Bool}
theorem arr10 {α:Type} {cs:Array α} (h:cs.size=10):∃ c0 c1 c2 c3 c4 c5 c6 c7 c8 c9,cs=#[c0,c1,c2,c3,c4,c5,c6,c7,c8,c9]:=by
 obtain ⟨l⟩:=cs;match l,h with
 | [c0,c1,c2,c3,c4,c5,c6,c7,c8,c9],_=>exact ⟨c0,c1,c2,c3,c4,c5,c6,c7,c8,c9,rfl⟩
theorem open_Pool {r:Reach} {b0:Nat} {v:Value} {d:DataW H} {p:List MemPlace} (hv:Value.okWide Tryz.prog w r b0 26 v) (h:DataW.Trod enc Tryz.prog w base spare held 26 v d p) :
  ∃ (a:Option Addr) (cap:Nat) (q:Pl),v=plC a cap q∧PlWf q∧SlIs strL1 1 w a q.addrs:=by
 obtain ⟨cs,rfl,hsz⟩:=okWide_struct Tryz.underlying26 hv;obtain ⟨c0,c1,c2,c3,c4,c5,c6,c7,c8,c9,rfl⟩:=arr10 (hsz.trans (show Tryz.prog.cellsOf 26=10 by kernel_rfl));obtain ⟨fuel,hf⟩:=h;obtain ⟨m0,y0,h0⟩:=flat_field Tryz.underlying26 hf 0 _ rfl rfl (show Tryz.prog.cellsOf 22=1 by kernel_rfl) c0 rfl;obtain ⟨m1,y1,h1⟩:=flat_field Tryz.underlying26 hf 1 _ rfl rfl (show Tryz.prog.cellsOf 2=1 by kernel_rfl) c1 rfl;obtain ⟨x1,e1,_,g1⟩:=DataW.trod_int Tryz.underlying2 h1;obtain ⟨m2,y2,h2⟩:=flat_field Tryz.underlying26 hf 2 _ rfl rfl (show Tryz.prog.cellsOf 2=1 by kernel_rfl) c2 rfl;obtain ⟨x2,e2,_,g2⟩:=DataW.trod_int Tryz.underlying2 h2;obtain ⟨m3,y3,h3⟩:=flat_field Tryz.underlying26 hf 3 _ rfl rfl (show Tryz.prog.cellsOf 2=1 by kernel_rfl) c3 rfl;obtain ⟨x3,e3,_,g3⟩:=DataW.trod_int Tryz.underlying2 h3;obtain ⟨m4,y4,h4⟩:=flat_field Tryz.underlying26 hf 4 _ rfl rfl (show Tryz.prog.cellsOf 2=1 by kernel_rfl) c4 rfl;obtain ⟨x4,e4,_,g4⟩:=DataW.trod_int Tryz.underlying2 h4;obtain ⟨xs,m5,_,_,hl,hx,hg⟩:=DataW.trod_struct Tryz.underlying26 hf;have h5:DataW.trod enc Tryz.prog w base spare held m5 24 (([c0,c1,c2,c3,c4,c5,c6,c7,c8,c9].drop 5).take (Tryz.prog.cellsOf 24))=xs[5]?:=hg 5 _ rfl;have hl5:5 < xs.length:=by rw [hx]; decide
 rw [List.getElem?_eq_getElem hl5,show Tryz.prog.cellsOf 24=5 by kernel_rfl] at h5;have h5:DataW.trod enc Tryz.prog w base spare held m5 24 [c5,c6,c7,c8,c9]=some xs[5]:=h5;obtain ⟨n0,z0,k0⟩:=flat_field Tryz.underlying24 h5 0 _ rfl rfl (show Tryz.prog.cellsOf 2=1 by kernel_rfl) c5 rfl;obtain ⟨x5,e5,_,g5⟩:=DataW.trod_int Tryz.underlying2 k0;obtain ⟨n1,z1,k1⟩:=flat_field Tryz.underlying24 h5 1 _ rfl rfl (show Tryz.prog.cellsOf 2=1 by kernel_rfl) c6 rfl;obtain ⟨x6,e6,_,g6⟩:=DataW.trod_int Tryz.underlying2 k1;obtain ⟨n2,z2,k2⟩:=flat_field Tryz.underlying24 h5 2 _ rfl rfl (show Tryz.prog.cellsOf 2=1 by kernel_rfl) c7 rfl;obtain ⟨x7,e7,_,g7⟩:=DataW.trod_int Tryz.underlying2 k2;obtain ⟨n3,z3,k3⟩:=flat_field Tryz.underlying24 h5 3 _ rfl rfl (show Tryz.prog.cellsOf 2=1 by kernel_rfl) c8 rfl;obtain ⟨x8,e8,_,g8⟩:=DataW.trod_int Tryz.underlying2 k3;obtain ⟨n4,z4,k4⟩:=flat_field Tryz.underlying24 h5 4 _ rfl rfl (show Tryz.prog.cellsOf 2=1 by kernel_rfl) c9 rfl;obtain ⟨x9,e9,_,g9⟩:=DataW.trod_int Tryz.underlying2 k4;simp only [List.cons.injEq,and_true] at e1 e2 e3 e4 e5 e6 e7 e8 e9;subst e1 e2 e3 e4 e5 e6 e7 e8 e9;obtain ⟨a,len,cap,rfl⟩ : ∃ a len cap,c0=.slice a len cap:=by
  rcases DataW.trod_slice Tryz.underlying22 h0 with ⟨e,_⟩ | ⟨b,l,c,_,_,_,_,e,_⟩
  ·simp at e; exact ⟨_,_,_,e⟩
  ·simp at e; exact ⟨_,_,_,e⟩
 obtain ⟨ys,rfl,hw,hs⟩:=open_StringS h0;exact ⟨a,cap,⟨ys,x1,x2,x3,x4,⟨x5,x6,x7,x8,x9⟩⟩,rfl,⟨hw,wf64s g1,wf64s g2,wf64s g3,wf64s g4,wf64s g5,wf64s g6,wf64s g7,wf64s g8,wf64s g9⟩,hs⟩
end
theorem szPool_at (p:Pl) (a:Option Addr) (cap:Nat) (left:Int) (w:World) (hw:PlWf p) (hr:SlIs strL1 1 w a p.addrs) (h0:0≤left) (h1:left≤1048576) :
  Cb 6 #[plC a cap p,iV left] w (iV (szSl strN p.addrs left)):=by
 have GA:Hid (Below w.heap.size w (w.alloc (.cells (PlV a cap p).toArray 26))):=(Below.refl _ _).alloc (Nat.le_refl _) _;have HC:Hid (∀ W,Below w.heap.size w W→Cb 25 #[.slice a p.addrs.length cap,iV left] W (iV (szSl strN p.addrs left))):=fun W hW=>szStringS_at p.addrs a cap left W hw.1 (hr.below hW) h0 h1
 have hrg:=szSl_range strN p.addrs left h0;clear hr;generalize szSl strN p.addrs left=ans at *;unfold plC;by_cases hs:ans < 0
 ·have he:ans=-1:=by omega
  subst he;go_enter Tryz.func6,Tryz.ntmps6
  go_wp2_with fail
  refine (HC.out _ GA.out).mono ?_;rintro e w1 ⟨rfl,q1⟩;have G1:Hid _:=GA.out.trans (q1.mono GA.out.size);clear q1;go_wp2_with fail
  go_ret;exact ⟨rfl,G1.out⟩
 ·have hs1:0≤ans:=by omega
  have hs2:ans≤1048576:=by omega
  go_enter Tryz.func6,Tryz.ntmps6
  go_wp2_with fail
  refine (HC.out _ GA.out).mono ?_;rintro e w1 ⟨rfl,q1⟩;have G1:Hid _:=GA.out.trans (q1.mono GA.out.size);clear q1;go_wp2_with fail
  go_ret;exact ⟨rfl,G1.out⟩
theorem toPool_any (p:Pl) (a:Option Addr) (cap:Nat) (w:World) (hl:p.addrs.length≤1048576) (hr:SlIs strL1 1 w a p.addrs) :
  Calls Tryz.prog 10 #[plC a cap p] w fun e w'=>PlRet w.heap.size p e w'∧Below w.heap.size w w':=by
 have HB:Hid (Below w.heap.size w (((w.alloc (.cells (PlV a cap p).toArray 26)).alloc (.cells #[.slice none 0 0,iV 0,iV 0,iV 0,iV 0,iV 0,iV 0,iV 0,iV 0,iV 0] 48)).alloc (.cells #[.slice none 0 0,iV 0,iV 0,iV 0,iV 0,iV 0,iV 0,iV 0,iV 0,iV 0] 48))):=(((Below.refl _ _).alloc (Nat.le_refl _) _).alloc (by simp) _).alloc (by simp; omega) _;have H0:=((HoldsL.new w (PlV a cap p) 26).alloc (.cells #[.slice none 0 0,iV 0,iV 0,iV 0,iV 0,iV 0,iV 0,iV 0,iV 0,iV 0] 48)).alloc (.cells #[.slice none 0 0,iV 0,iV 0,iV 0,iV 0,iV 0,iV 0,iV 0,iV 0,iV 0] 48);have H1:=(HoldsL.new (w.alloc (.cells (PlV a cap p).toArray 26)) [.slice none 0 0,iV 0,iV 0,iV 0,iV 0,iV 0,iV 0,iV 0,iV 0,iV 0] 48).alloc (.cells #[.slice none 0 0,iV 0,iV 0,iV 0,iV 0,iV 0,iV 0,iV 0,iV 0,iV 0] 48);have H2:=HoldsL.new ((w.alloc (.cells (PlV a cap p).toArray 26)).alloc (.cells #[.slice none 0 0,iV 0,iV 0,iV 0,iV 0,iV 0,iV 0,iV 0,iV 0,iV 0] 48)) [.slice none 0 0,iV 0,iV 0,iV 0,iV 0,iV 0,iV 0,iV 0,iV 0,iV 0] 48;have hsz:(((w.alloc (.cells (PlV a cap p).toArray 26)).alloc (.cells #[.slice none 0 0,iV 0,iV 0,iV 0,iV 0,iV 0,iV 0,iV 0,iV 0,iV 0] 48)).alloc (.cells #[.slice none 0 0,iV 0,iV 0,iV 0,iV 0,iV 0,iV 0,iV 0,iV 0,iV 0] 48)).heap.size=w.heap.size+1+1+1:=by simp
 rw [World.size_alloc] at H1 H2;rw [World.size_alloc] at H2;have HS:Hid (∀ W,Below w.heap.size w W→Calls Tryz.prog 31 #[.slice a p.addrs.length cap] W fun e w'=>e=.returned (.slice (some ⟨W.heap.size,0,none⟩) p.addrs.length p.addrs.length)∧Below W.heap.size W w'∧SlLaid strL1 1 w' W.heap.size p.addrs p.addrs.length p.addrs.length):=fun W hW=>toStringS_any p.addrs a cap W hl (hr.below hW)
 have HT:Hid (∀ W,Cb 32 #[lvC p.lv] W (lvC p.lv)):=fun W=>toLives_any p.lv W
 have G0:Hid _:=H0;have G1:Hid _:=H1;have G2:Hid _:=H2;unfold plC;unfold lvC at HT;clear hr H0 H1 H2;go_enter Tryz.func10,Tryz.ntmps10
 go_upto_region 2 with fail
 generalize ((w.alloc (.cells (PlV a cap p).toArray 26)).alloc (.cells #[.slice none 0 0,iV 0,iV 0,iV 0,iV 0,iV 0,iV 0,iV 0,iV 0,iV 0] 48)).alloc (.cells #[.slice none 0 0,iV 0,iV 0,iV 0,iV 0,iV 0,iV 0,iV 0,iV 0,iV 0] 48)=W3 at *;have k0:=G0.out.cell (j:=0) rfl;go_wp2_with fail
 refine (HS.out _ HB.out).mono ?_;rintro e w1 ⟨rfl,q1,y1⟩;have B1:Hid _:=HB.out.trans (q1.mono HB.out.size);have K0:=G0.out.kept (by simp) q1;have K1:Hid _:=G1.out.kept (by simp) q1;have K2:=G2.out.kept (by simp) q1;have HY:Hid (SlLaid strL1 1 w1 W3.heap.size p.addrs p.addrs.length p.addrs.length):=y1;rw [hsz] at HY ⊢;obtain ⟨C,hC⟩ : ∃ C,C=w.heap.size+1+1+1:=⟨_,rfl⟩;rw [← hC] at HY ⊢;have hCl:w.heap.size+1+1 < C:=by omega
 clear q1 y1 k0 hC hsz;obtain ⟨-,b1,b2,b3,b4,b5,b6,b7,b8,b9⟩:=K0.c10;obtain ⟨o0,o1,o2,o3,o4⟩:=K2.c5;obtain ⟨f0,f1,f2,f3,f4⟩:=K2.f5;have D2:Hid _:=((((K2.set 0 (.slice (some ⟨C,0,none⟩) p.addrs.length p.addrs.length)).set 1 (iV p.low)).set 2 (iV p.high)).set 3 (iV p.most)).set 4 (iV p.filter);have D1:Hid _:=((((K1.out.setOther (C:=w.heap.size+1+1) (j:=0) (by omega) (.slice (some ⟨C,0,none⟩) p.addrs.length p.addrs.length)).setOther (C:=w.heap.size+1+1) (j:=1) (by omega) (iV p.low)).setOther (C:=w.heap.size+1+1) (j:=2) (by omega) (iV p.high)).setOther (C:=w.heap.size+1+1) (j:=3) (by omega) (iV p.most)).setOther (C:=w.heap.size+1+1) (j:=4) (by omega) (iV p.filter);have DY:Hid _:=((((HY.out.setOther (X:=w.heap.size+1+1) (o:=0) (by omega) (.slice (some ⟨C,0,none⟩) p.addrs.length p.addrs.length)).setOther (X:=w.heap.size+1+1) (o:=1) (by omega) (iV p.low)).setOther (X:=w.heap.size+1+1) (o:=2) (by omega) (iV p.high)).setOther (X:=w.heap.size+1+1) (o:=3) (by omega) (iV p.most)).setOther (X:=w.heap.size+1+1) (o:=4) (by omega) (iV p.filter);have DB:Hid _:=((((B1.out.setCell (p:=⟨w.heap.size+1+1,0,none⟩) (by show w.heap.size≤w.heap.size+1+1; omega) (.slice (some ⟨C,0,none⟩) p.addrs.length p.addrs.length)).setCell (p:=⟨w.heap.size+1+1,1,none⟩) (by show w.heap.size≤w.heap.size+1+1; omega) (iV p.low)).setCell (p:=⟨w.heap.size+1+1,2,none⟩) (by show w.heap.size≤w.heap.size+1+1; omega) (iV p.high)).setCell (p:=⟨w.heap.size+1+1,3,none⟩) (by show w.heap.size≤w.heap.size+1+1; omega) (iV p.most)).setCell (p:=⟨w.heap.size+1+1,4,none⟩) (by show w.heap.size≤w.heap.size+1+1; omega) (iV p.filter);clear K0 K1 K2 HY B1;go_wp2_with fail
 generalize ((((w1.setCell ⟨w.heap.size+1+1,0,none⟩ (.slice (some ⟨C,0,none⟩) p.addrs.length p.addrs.length)).setCell ⟨w.heap.size+1+1,1,none⟩ (iV p.low)).setCell ⟨w.heap.size+1+1,2,none⟩ (iV p.high)).setCell ⟨w.heap.size+1+1,3,none⟩ (iV p.most)).setCell ⟨w.heap.size+1+1,4,none⟩ (iV p.filter)=W5 at *;refine (HT.out _).mono ?_;rintro e w6 ⟨rfl,q6⟩;have E2:=D2.out.kept (by simp) q6;have E1:=D1.out.kept (by simp) q6;have EY:Hid _:=DY.out.kept q6;have EB:Hid _:=DB.out.trans (q6.mono DB.out.size);clear q6;clear b1 b2 b3 b4 b5 b6 b7 b8 b9 o0 o1 o2 o3 o4 f0 f1 f2 f3 f4;obtain ⟨o0,o1,o2,o3,o4,o5,o6,o7,o8,o9⟩:=E2.c10;obtain ⟨-,-,-,-,-,f5,f6,f7,f8,f9⟩:=E2.f10;obtain ⟨r0,r1,r2,r3,r4,r5,r6,r7,r8,r9⟩:=E1.c10;obtain ⟨s0,s1,s2,s3,s4,s5,s6,s7,s8,s9⟩:=E1.f10;have R1:Hid (HoldsL _ (w.heap.size+1) (plL (some ⟨C,0,none⟩) p.addrs.length p)):=(((((((((((((((E1.setOther (C:=w.heap.size+1+1) (j:=5) (by omega) (iV p.lv.udp)).setOther (C:=w.heap.size+1+1) (j:=6) (by omega) (iV p.lv.echo)).setOther (C:=w.heap.size+1+1) (j:=7) (by omega) (iV p.lv.opening)).setOther (C:=w.heap.size+1+1) (j:=8) (by omega) (iV p.lv.opn)).setOther (C:=w.heap.size+1+1) (j:=9) (by omega) (iV p.lv.closing)).set 0 (.slice (some ⟨C,0,none⟩) p.addrs.length p.addrs.length)).set 1 (iV p.low)).set 2 (iV p.high)).set 3 (iV p.most)).set 4 (iV p.filter)).set 5 (iV p.lv.udp)).set 6 (iV p.lv.echo)).set 7 (iV p.lv.opening)).set 8 (iV p.lv.opn)).set 9 (iV p.lv.closing));have RY:Hid _:=(((((((((((((((EY.out.setOther (X:=w.heap.size+1+1) (o:=5) (by omega) (iV p.lv.udp)).setOther (X:=w.heap.size+1+1) (o:=6) (by omega) (iV p.lv.echo)).setOther (X:=w.heap.size+1+1) (o:=7) (by omega) (iV p.lv.opening)).setOther (X:=w.heap.size+1+1) (o:=8) (by omega) (iV p.lv.opn)).setOther (X:=w.heap.size+1+1) (o:=9) (by omega) (iV p.lv.closing)).setOther (X:=w.heap.size+1) (o:=0) (by omega) (.slice (some ⟨C,0,none⟩) p.addrs.length p.addrs.length)).setOther (X:=w.heap.size+1) (o:=1) (by omega) (iV p.low)).setOther (X:=w.heap.size+1) (o:=2) (by omega) (iV p.high)).setOther (X:=w.heap.size+1) (o:=3) (by omega) (iV p.most)).setOther (X:=w.heap.size+1) (o:=4) (by omega) (iV p.filter)).setOther (X:=w.heap.size+1) (o:=5) (by omega) (iV p.lv.udp)).setOther (X:=w.heap.size+1) (o:=6) (by omega) (iV p.lv.echo)).setOther (X:=w.heap.size+1) (o:=7) (by omega) (iV p.lv.opening)).setOther (X:=w.heap.size+1) (o:=8) (by omega) (iV p.lv.opn)).setOther (X:=w.heap.size+1) (o:=9) (by omega) (iV p.lv.closing));have RB:Hid _:=(((((((((((((((EB.out.setCell (p:=⟨w.heap.size+1+1,5,none⟩) (by show w.heap.size≤w.heap.size+1+1; omega) (iV p.lv.udp)).setCell (p:=⟨w.heap.size+1+1,6,none⟩) (by show w.heap.size≤w.heap.size+1+1; omega) (iV p.lv.echo)).setCell (p:=⟨w.heap.size+1+1,7,none⟩) (by show w.heap.size≤w.heap.size+1+1; omega) (iV p.lv.opening)).setCell (p:=⟨w.heap.size+1+1,8,none⟩) (by show w.heap.size≤w.heap.size+1+1; omega) (iV p.lv.opn)).setCell (p:=⟨w.heap.size+1+1,9,none⟩) (by show w.heap.size≤w.heap.size+1+1; omega) (iV p.lv.closing)).setCell (p:=⟨w.heap.size+1,0,none⟩) (by show w.heap.size≤w.heap.size+1; omega) (.slice (some ⟨C,0,none⟩) p.addrs.length p.addrs.length)).setCell (p:=⟨w.heap.size+1,1,none⟩) (by show w.heap.size≤w.heap.size+1; omega) (iV p.low)).setCell (p:=⟨w.heap.size+1,2,none⟩) (by show w.heap.size≤w.heap.size+1; omega) (iV p.high)).setCell (p:=⟨w.heap.size+1,3,none⟩) (by show w.heap.size≤w.heap.size+1; omega) (iV p.most)).setCell (p:=⟨w.heap.size+1,4,none⟩) (by show w.heap.size≤w.heap.size+1; omega) (iV p.filter)).setCell (p:=⟨w.heap.size+1,5,none⟩) (by show w.heap.size≤w.heap.size+1; omega) (iV p.lv.udp)).setCell (p:=⟨w.heap.size+1,6,none⟩) (by show w.heap.size≤w.heap.size+1; omega) (iV p.lv.echo)).setCell (p:=⟨w.heap.size+1,7,none⟩) (by show w.heap.size≤w.heap.size+1; omega) (iV p.lv.opening)).setCell (p:=⟨w.heap.size+1,8,none⟩) (by show w.heap.size≤w.heap.size+1; omega) (iV p.lv.opn)).setCell (p:=⟨w.heap.size+1,9,none⟩) (by show w.heap.size≤w.heap.size+1; omega) (iV p.lv.closing))
 clear E1 E2;go_wp2_with fail
 exact bodyPost_ret (results_mid Tryz.results10 _ _ (w.heap.size+1) (plL (some ⟨C,0,none⟩) p.addrs.length p) _ rfl R1.out Tryz.underlying48 rfl (show (Tryz.prog.info? 48).map (·.size)=some 10 by kernel_rfl)) rfl ⟨⟨C,rfl,by omega,RY.out⟩,RB.out⟩
theorem eqPool_same (p:Pl) (a1 a2:Option Addr) (cap1 cap2:Nat) (w:World) (hl:p.addrs.length≤1048576) (h1:SlIs strL1 1 w a1 p.addrs) (h2:SlIs strL1 1 w a2 p.addrs) :
  Cb 15 #[plC a1 cap1 p,plC a2 cap2 p] w (.bool true):=by
 have HB:Hid (Below w.heap.size w ((w.alloc (.cells (PlV a1 cap1 p).toArray 48)).alloc (.cells (PlV a2 cap2 p).toArray 48))):=((Below.refl _ _).alloc (Nat.le_refl _) _).alloc (by simp) _;have H0:=(HoldsL.new w (PlV a1 cap1 p) 48).alloc (.cells (PlV a2 cap2 p).toArray 48);have H1:=HoldsL.new (w.alloc (.cells (PlV a1 cap1 p).toArray 48)) (PlV a2 cap2 p) 48;rw [World.size_alloc] at H1;have HS:Hid (∀ W,Below w.heap.size w W→Cb 38 #[.slice a1 p.addrs.length cap1,.slice a2 p.addrs.length cap2] W (.bool true)):=fun W hW=>eqStringS_same p.addrs a1 a2 cap1 cap2 W hl (h1.below hW) (h2.below hW)
 have HT:Hid (∀ W,Cb 39 #[lvC p.lv,lvC p.lv] W (.bool true)):=fun W=>eqLives_same p.lv W
 have G0:Hid _:=H0;have G1:Hid _:=H1;unfold plC;unfold lvC at HT;clear h1 h2 H0 H1;go_enter Tryz.func15,Tryz.ntmps15
 go_upto_region 1 with fail
 generalize (w.alloc (.cells (PlV a1 cap1 p).toArray 48)).alloc (.cells (PlV a2 cap2 p).toArray 48)=W2 at *;have k0:=G0.out.cell (j:=0) rfl;have k1:=G1.out.cell (j:=0) rfl;go_wp2_with fail
 refine (HS.out _ HB.out).mono ?_;rintro e w1 ⟨rfl,q1⟩;have B1:Hid _:=HB.out.trans (q1.mono HB.out.size);have K0:=G0.out.kept (by simp) q1;have K1:=G1.out.kept (by simp) q1;clear q1 k0 k1;obtain ⟨-,b1,b2,b3,b4,b5,b6,b7,b8,b9⟩:=K0.c10;obtain ⟨-,d1,d2,d3,d4,d5,d6,d7,d8,d9⟩:=K1.c10;clear K0 K1;go_wp2_with fail
 refine (HT.out _).mono ?_;rintro e w2 ⟨rfl,q2⟩;have B2:Hid _:=B1.out.trans (q2.mono B1.out.size);clear q2;go_wp2_with fail
 go_ret;exact ⟨rfl,B2.out⟩
def BdWf (p:Bd):Prop:=In64t p.proto∧p.inn.size≤maxLen∧In64t p.inPort∧p.out.size≤maxLen∧In64t p.outPort
structure BoxBind (w:World) (B:Nat) (p:Bd):Prop where
 c0:w.cell? ⟨B,0,none⟩=some (iV p.proto)
 c1:w.cell? ⟨B,1,none⟩=some (.string p.inn)
 c2:w.cell? ⟨B,2,none⟩=some (iV p.inPort)
 c3:w.cell? ⟨B,3,none⟩=some (.string p.out)
 c4:w.cell? ⟨B,4,none⟩=some (iV p.outPort)
theorem BoxBind.kept {w W:World} {B:Nat} {p:Bd} (h:BoxBind w B p) (hB:Below w.heap.size w W):BoxBind W B p:=by
 have hb:=World.block_lt_of_cell? w _ h.c0;exact ⟨((bcell hB).1 B 0 hb).trans h.c0,((bcell hB).1 B 1 hb).trans h.c1,((bcell hB).1 B 2 hb).trans h.c2,((bcell hB).1 B 3 hb).trans h.c3,((bcell hB).1 B 4 hb).trans h.c4⟩
theorem BoxBind.new (w:World) (p:Bd) {t:TypeId}:BoxBind (w.alloc (.cells (BdV p).toArray t)) w.heap.size p:=⟨cell_new rfl,cell_new rfl,cell_new rfl,cell_new rfl,cell_new rfl⟩
section
variable {H:Type} {enc:TypeId × Value→H} {w:World} {base:Nat} {spare:Nat→Bool} {held:Bool}
end
theorem toBind_any (p:Bd) (w:World) :
  Cb 57 #[bdC p] w (bdC p):=by
 obtain ⟨proto,inn,inPort,out,outPort⟩:=p;unfold bdC;dsimp only;go_enter Tryz.func57,Tryz.ntmps57
 go_wp2_with fail
 refine bodyPost_ret (v:=.agg (BdR proto inn inPort out outPort).toArray) (by simp [results,Tryz.results57,go_sem]) rfl ⟨rfl,?_⟩;exact (((Below.refl _ _).alloc (Nat.le_refl _) _).alloc (by simp) _).alloc (by simp; omega) _
theorem eqBind_same (p:Bd) (w:World) :
  Cb 64 #[bdC p,bdC p] w (.bool true):=by
 obtain ⟨proto,inn,inPort,out,outPort⟩:=p;unfold bdC;dsimp only;have HZ:Hid (Below w.heap.size w ((aW w (BdR proto inn inPort out outPort) 94).alloc (.cells (BdR proto inn inPort out outPort).toArray 94))):=((Below.refl _ _).alloc (Nat.le_refl _) _).alloc (by simp) _;go_enter Tryz.func64,Tryz.ntmps64
 go_wp2_with fail
 go_ret;exact ⟨rfl,HZ.out⟩
end Go.Proofs.YtcckaeppiamebaaGreatDoor
namespace Go.Proofs.YtcckaeppiamebaaGreatDoor
open Go.RowKit Go.ChangeShapes
section
variable {P:Program} {ops:Array Oper} {Q:Exit→Act→World→Prop} {ds:List Tmp} {R:Nat→Value→World→Prop} {a0:Act} {w0:World}
def GStepG (P:Program) (ops:Array Oper) (Q:Exit→Act→World→Prop) (ds:List Tmp) (R:Nat→Value→World→Prop) (a0:Act) (w0:World) (i:Nat) (o:Oper):Prop :=
 ∀ (K':Act→World→Prop) (a:Act) (w:World),(∀ t,t ∉ ds→slot a t=slot a0 t)→(∀ e∈o.after,Region.binds .any e=true→R e.on (slot a (ds.getD e.on 0)) w) →
  Below w0.heap.size w0 w→(∀ v w',R i v w'→Below w.heap.size w w'→K' (a.put o.dst v) w')→if Region.wanted o (yielded ops a.tmps)=true then Oper.wp P o a w K' Q else K' (a.put o.dst undef) w
structure GFormG (ops:Array Oper) (ds:List Tmp) (n:Nat):Prop where
 len:ds.length=ops.size
 dst:∀ i o,ops[i]?=some o→o.dst=some (ds.getD i 0)
 nodup:ds.Nodup
 fits:∀ d∈ds,d < n
 topo:∀ i o,ops[i]?=some o→∀ e∈o.after,Region.binds .any e=true→e.on < i
def gformG (ops:Array Oper) (ds:List Tmp) (n:Nat):Bool :=
 decide (ds.length=ops.size)&&(List.range ops.size).all (fun i=>match ops[i]? with
  | some o=>(match o.dst with | some d=>d==ds.getD i 0 | none=>false)&&o.after.all (fun e=>!Region.binds .any e||decide (e.on < i))
  | none=>true)&&decide ds.Nodup&&ds.all (fun d=>decide (d < n))
theorem GFormG.of {n:Nat} (h:gformG ops ds n=true):GFormG ops ds n:=by
 unfold gformG at h;simp only [Bool.and_eq_true,decide_eq_true_iff,List.all_eq_true,List.mem_range] at h;obtain ⟨⟨⟨h1,h2⟩,h3⟩,h4⟩:=h;have hb:∀ i o,ops[i]?=some o→i < ops.size:=fun i o ho=>(Array.getElem?_eq_some_iff.1 ho).1
 refine ⟨h1,fun i o ho=>?_,h3,h4,fun i o ho e he hbd=>?_⟩
 ·have:=h2 i (hb i o ho);rw [ho] at this;simp only [Bool.and_eq_true] at this;obtain ⟨t1,_⟩:=this
  cases hd:o.dst with
  | none=>rw [hd] at t1; simp at t1
  | some d=>rw [hd] at t1; simp at t1; rw [t1]; simp
 ·have:=h2 i (hb i o ho);rw [ho] at this;simp only [Bool.and_eq_true] at this;obtain ⟨_,t3⟩:=this;have:=Array.all_eq_true_iff_forall_mem.1 t3 e he;simp [hbd] at this;exact this
theorem wpAny_growG (hF:GFormG ops ds a0.tmps.size) (hst:∀ i v w w',R i v w→Below w.heap.size w w'→R i v w')
  (hstep:∀ i o,ops[i]?=some o→GStepG P ops Q ds R a0 w0 i o)
  (hdone:∀ a w,a.tmps.size=a0.tmps.size→a.defers=a0.defers→(∀ t,t ∉ ds→slot a t=slot a0 t)→(∀ i,i < ops.size→R i (slot a (ds.getD i 0)) w)→Below w0.heap.size w0 w→Q .normal a w) :
  ∀ (fuel:Nat) (listed:Array Bool) (a:Act) (w:World),unl listed ops.size≤fuel→GInv ops ds R a0 w0 listed a w→wpAny P .any ops Q fuel listed a w:=by
 have hall:∀ (listed:Array Bool) (a:Act) (w:World),GInv ops ds R a0 w0 listed a w→Region.ready .any ops listed=[]→Q .normal a w:=by
  intro listed a w hI hr;refine hdone a w hI.tsize hI.defers hI.outer (fun i hi=>hI.inner i ?_) hI.below;have key:∀ i,i < ops.size→listed.getD i false=true:=by
   intro i;induction i using Nat.strongRecOn with
   | ind i ih =>
    intro hi;have hsz:=hI.size;by_cases hh:listed.getD i true=true
    ·have hlt:i < listed.size:=by omega
     simpa [hlt] using hh
    ·exfalso
     have hmem:i∈Region.ready .any ops listed:=by
      rw [mem_ready];refine ⟨by simpa using hh,ops[i],by simp [hi],fun e he hb=>?_⟩;have hlt:=hF.topo i ops[i] (by simp [hi]) e he hb;exact ih _ hlt (by omega)
     rw [hr] at hmem;simp at hmem
  exact key i hi
 intro fuel;induction fuel with
 | zero =>
  intro listed a w hu hI;have hr:Region.ready .any ops listed=[]:=by
   rw [List.eq_nil_iff_forall_not_mem];intro i hi;rw [mem_ready] at hi;obtain ⟨h0,o,ho,_⟩:=hi;have:=unl_zero (listed:=listed) ops.size (by omega) i (Array.getElem?_eq_some_iff.1 ho).1;rw [h0] at this;simp at this
  exact ⟨hr,hall listed a w hI hr⟩
 | succ fuel ih =>
  intro listed a w hu hI;refine ⟨fun hr=>hall listed a w hI hr,fun i hi=>?_⟩;rw [mem_ready] at hi;obtain ⟨h0,o,ho,hdeps⟩:=hi;have hi:i < ops.size:=(Array.getElem?_eq_some_iff.1 ho).1;have hd:=hF.dst i o ho;have hil:i < ds.length:=by rw [hF.len]; exact hi
  have hmem:ds.getD i 0∈ds:=by rw [getD_at hil]; exact List.getElem_mem hil
  refine wpOp_step ho (fun K' hK=>?_);refine hstep i o ho K' a w hI.outer (fun e he hb=>hI.inner _ (hdeps e he hb)) hI.below (fun v w' hR hB=>hK _ _ ?_);refine ih _ _ _ (by have:=unl_set h0 ops.size hi; omega) ⟨by simp [hI.size],?_,?_,fun t ht=>?_,fun j hj=>?_,hI.below.trans (hB.mono hI.below.size)⟩
  ·rw [hd]; simp [Act.put,hI.tsize]
  ·rw [hd]; simp [Act.put,hI.defers]
  ·rw [hd,slot_put_ne (show ds.getD i 0≠t from fun e=>ht (e ▸ hmem))]; exact hI.outer t ht
  ·rw [hd];by_cases e:i=j
   ·subst e;rw [slot_put_eq (by rw [hI.tsize]; exact hF.fits _ hmem)];exact hR
   ·rw [getD_set_ne false e] at hj;have hjl:j < ds.length:=by
     rw [hF.len,← hI.size];rcases Nat.lt_or_ge j listed.size with h' | h'
     ·exact h'
     ·simp [Array.getElem?_eq_none h'] at hj
    rw [slot_put_ne (nodup_ne hF.nodup hil hjl e)];exact hst _ _ _ _ (hI.inner j hj) hB
theorem wp_region_growG0 {id:Nat} (hm:P.follows .mixedOrders=true) (hF:GFormG ops ds a0.tmps.size) (hst:∀ i v w w',R i v w→Below w.heap.size w w'→R i v w')
  (hstep:∀ i o,ops[i]?=some o→GStepG P ops Q ds R a0 w0.drew i o)
  (hdone:∀ a w,a.tmps.size=a0.tmps.size→a.defers=a0.defers→(∀ t,t ∉ ds→slot a t=slot a0 t)→(∀ i,i < ops.size→R i (slot a (ds.getD i 0)) w)→Below w0.drew.heap.size w0.drew w→Q .normal a w) :
  (Code.region id ops true).wp P Q a0 w0:=by
 refine wp_region_any hm (wpAny_growG (w0:=w0.drew) hF hst hstep hdone ops.size _ a0 w0.drew (unl_le _ _) ⟨by simp,rfl,rfl,fun _ _=>rfl,fun i hi=>?_,Below.refl _ _⟩);exfalso
 by_cases h:i < ops.size
 ·simp [h] at hi
 ·simp [h] at hi
def GStepsG (P:Program) (ops:Array Oper) (Q:Exit→Act→World→Prop) (ds:List Tmp) (R:Nat→Value→World→Prop) (a0:Act) (w0:World):Nat→List Oper→Prop
 | _,[]=>True
 | n,o::l=>GStepG P ops Q ds R a0 w0 n o∧GStepsG P ops Q ds R a0 w0 (n+1) l
theorem GStepsG.at':∀ (l:List Oper) (n:Nat),GStepsG P ops Q ds R a0 w0 n l→∀ i o,l[i]?=some o→GStepG P ops Q ds R a0 w0 (n+i) o
 | [],_,_,i,o,h=>by simp at h
 | p::l,n,hs,0,o,h=>by simp at h; subst h; exact hs.1
 | p::l,n,hs,i+1,o,h=>by
  have:=GStepsG.at' l (n+1) hs.2 i o (by simpa using h);rwa [show n+1+i=n+(i+1) by omega] at this
end
theorem yielded_of {ops:Array Oper} {a:Act} {j d:Nat} {o:Oper} {b:Bool} (ho:ops[j]?=some o) (hd:o.dst=some d) (hs:slot a d=.bool b):yielded ops a.tmps j=some b:=by
 unfold yielded;rw [ho];simp only [Option.bind_some,hd];unfold slot at hs;by_cases h:d < a.tmps.size
 ·simp [h] at hs ⊢; rw [hs]
 ·simp [h,undef] at hs
theorem wanted_of {ops:Array Oper} {a:Act} {o:Oper} {j d:Nat} {oj:Oper} {b want:Bool} (hg:o.guard=some (j,want)) (ho:ops[j]?=some oj) (hd:oj.dst=some d) (hs:slot a d=.bool b):Region.wanted o (yielded ops a.tmps)=(b==want):=by
 unfold Region.wanted;rw [hg];show (yielded ops a.tmps j==some want)=_;rw [yielded_of ho hd hs]
 cases b<;>cases want<;>rfl
theorem wanted_undef {ops:Array Oper} {a:Act} {o:Oper} {j d:Nat} {oj:Oper} {want:Bool} (hg:o.guard=some (j,want)) (ho:ops[j]?=some oj) (hd:oj.dst=some d) (hs:slot a d=undef):Region.wanted o (yielded ops a.tmps)=false:=by
 unfold Region.wanted;rw [hg];show (yielded ops a.tmps j==some want)=_;unfold yielded;rw [ho];simp only [Option.bind_some,hd];unfold slot at hs;by_cases h:d < a.tmps.size
 ·simp [h,undef] at hs ⊢; rw [hs]; simp
 ·simp [h]
theorem wants {ops:Array Oper} {a:Act} {o:Oper} (j d:Nat) {oj:Oper} (b want:Bool) {A B:Prop} (hg:o.guard=some (j,want)) (ho:ops[j]?=some oj) (hd:oj.dst=some d) (hs:slot a d=.bool b) (hb:(b==want)=true) (h:A):if Region.wanted o (yielded ops a.tmps)=true then A else B:=by
 rw [wanted_of hg ho hd hs,if_pos hb]; exact h
theorem wantsN {ops:Array Oper} {a:Act} {o:Oper} (j d:Nat) {oj:Oper} (b want:Bool) {A B:Prop} (hg:o.guard=some (j,want)) (ho:ops[j]?=some oj) (hd:oj.dst=some d) (hs:slot a d=.bool b) (hb:(b==want)=false) (h:B):if Region.wanted o (yielded ops a.tmps)=true then A else B:=by
 rw [wanted_of hg ho hd hs,if_neg (by rw [hb]; decide)]; exact h
theorem wantsU {ops:Array Oper} {a:Act} {o:Oper} (j d:Nat) {oj:Oper} {want:Bool} {A B:Prop} (hg:o.guard=some (j,want)) (ho:ops[j]?=some oj) (hd:oj.dst=some d) (hs:slot a d=undef) (h:B):if Region.wanted o (yielded ops a.tmps)=true then A else B:=by
 rw [wanted_undef hg ho hd hs,if_neg (by decide)]; exact h
theorem wanted_none {ops:Array Oper} {a:Act} {o:Oper} (hg:o.guard=none):Region.wanted o (yielded ops a.tmps)=true:=by unfold Region.wanted; rw [hg]
section
variable {P:Program} {ops:Array Oper} {Q:Exit→Act→World→Prop} {ds:List Tmp} {a0:Act} {w0:World}
theorem rAt_left {Rs Ss:List (Value→World→Prop)} {i:Nat} (h:i < Rs.length):rAt (Rs++Ss) i=rAt Rs i:=by
 unfold rAt;simp [List.getElem?_append_left h]
theorem GStepG.congr {R R':Nat→Value→World→Prop} {i:Nat} {o:Oper} (ht:∀ e∈o.after,Region.binds .any e=true→e.on < i) (h:∀ j,j≤i→R j=R' j) (hs:GStepG P ops Q ds R a0 w0 i o):GStepG P ops Q ds R' a0 w0 i o:=by
 intro K' a w ho hd hb hK;refine hs K' a w ho (fun e he hbd=>?_) hb (fun v w' hr=>?_)
 ·rw [h e.on (Nat.le_of_lt (ht e he hbd))]; exact hd e he hbd
 ·rw [h i (Nat.le_refl _)] at hr; exact hK v w' hr
def GCh (P:Program) (ops:Array Oper) (Q:Exit→Act→World→Prop) (ds:List Tmp) (a0:Act) (w0:World):List (Value→World→Prop)→List Oper→Prop
 | Rs,[]=>∀ (X:Nat→Value) w,RAll X w 0 Rs→Below w0.heap.size w0 w→Q .normal (putsFrom X a0 0 ds) w
 | Rs,o::l=>∃ r,Stable r∧GStepG P ops Q ds (rAt (Rs++[r])) a0 w0 Rs.length o∧GCh P ops Q ds a0 w0 (Rs++[r]) l
theorem GCh.all:∀ (l:List Oper) (Rs:List (Value→World→Prop)),(∀ i o,l[i]?=some o→∀ e∈o.after,Region.binds .any e=true→e.on < Rs.length+i)→(∀ r∈Rs,Stable r)→GCh P ops Q ds a0 w0 Rs l →
  ∃ Ss,(Rs++Ss).length=Rs.length+l.length∧(∀ r∈Rs++Ss,Stable r)∧(∀ i o,l[i]?=some o→GStepG P ops Q ds (rAt (Rs++Ss)) a0 w0 (Rs.length+i) o)∧(∀ (X:Nat→Value) w,RAll X w 0 (Rs++Ss)→Below w0.heap.size w0 w→Q .normal (putsFrom X a0 0 ds) w)
 | [],Rs,_,hst,h=>⟨[],by simp,by simpa using hst,fun i o ho=>by simp at ho,by rw [List.append_nil]; exact h⟩
 | o::l,Rs,ht,hst,⟨r,hr,hs,hc⟩=>by
  obtain ⟨Ss,h1,h2,h3,h4⟩:=GCh.all l (Rs++[r]) (fun i o' ho e he hb=>by
   have:=ht (i+1) o' (by simpa using ho) e he hb;simp; omega) (fun x hx=>by
   rcases List.mem_append.1 hx with hx | hx
   ·exact hst x hx
   ·simp at hx; subst hx; exact hr) hc
  refine ⟨r::Ss,by simp at h1 ⊢; omega,by simpa using h2,fun i o' ho=>?_,by simpa using h4⟩;have e:Rs++r::Ss=Rs++[r]++Ss:=by simp
  rw [e]
  cases i with
  | zero =>
   simp at ho;subst ho;refine GStepG.congr (ht 0 o rfl) (fun j hj=>?_) hs;exact (rAt_left (by simp; omega)).symm
  | succ i =>
   have:=h3 i o' (by simpa using ho);rwa [show (Rs++[r]).length+i=Rs.length+(i+1) by simp; omega] at this
theorem wp_region_growH {id:Nat} (ds:List Tmp) (hm:P.follows .mixedOrders=true) (hF:gformG ops ds a0.tmps.size=true) (h:GCh P ops Q ds a0 w0.drew [] ops.toList) :
  (Code.region id ops true).wp P Q a0 w0:=by
 have hG:=GFormG.of hF;obtain ⟨Ss,h1,h2,h3,h4⟩:=GCh.all ops.toList [] (fun i o ho e he hb=>by
  have:=hG.topo i o (by simpa using ho) e he hb;simpa using this) (fun r hr=>by simp at hr) h
 simp only [List.nil_append,List.length_nil,Nat.zero_add] at h1 h2 h3 h4;refine wp_region_growG0 (ds:=ds) (R:=rAt Ss) hm hG (fun i v w w' h hb=>?_) (fun i o ho=>?_) (fun a w g1 g2 g3 g4 g5=>?_)
 ·unfold rAt at *;by_cases hi:i < Ss.length
  ·have e:Ss.getD i (fun _ _=>True)=Ss[i]:=by simp [hi]
   rw [e] at h ⊢;exact h2 _ (List.getElem_mem hi) v w w' h hb
  ·have e:Ss.getD i (fun _ _=>True)=fun _ _=>True:=by simp [Nat.le_of_not_lt hi]
   rw [e]; trivial
 ·exact h3 i o (by simpa using ho)
 ·have hp:putsFrom (fun i=>slot a (ds.getD i 0)) a0 0 ds=a:=puts_eq ds a0 0 g1.symm g2.symm (fun i _=>by rw [Nat.zero_add]) (fun t ht=>(g3 t ht).symm) (fun d hd=>by rw [g1]; exact hG.fits d hd);rw [← hp];exact h4 (fun i=>slot a (ds.getD i 0)) w (RAll.mk Ss 0 (fun i hi=>by rw [Nat.zero_add]; exact g4 i (by rw [← Array.length_toList,← h1]; exact hi))) g5
theorem GCh.val {Rs:List (Value→World→Prop)} {n:Nat} {o:Oper} {l:List Oper} (Rs':Value→List (Value→World→Prop)) (hR:∀ v,Rs' v=Rs++[IsV v]) (hn:Rs.length=n) (h:∃ v,GStepG P ops Q ds (rAt (Rs' v)) a0 w0 n o∧GCh P ops Q ds a0 w0 (Rs' v) l):GCh P ops Q ds a0 w0 Rs (o::l):=by
 obtain ⟨v,h1,h2⟩:=h;rw [hR] at h1 h2;subst hn;exact ⟨IsV v,stable_isV v,h1,h2⟩
theorem GCh.rel {Rs:List (Value→World→Prop)} {n:Nat} {o:Oper} {l:List Oper} (r:Value→World→Prop) (hr:Stable r) (Rs':List (Value→World→Prop)) (hR:Rs'=Rs++[r]) (hn:Rs.length=n) (h1:GStepG P ops Q ds (rAt Rs') a0 w0 n o) (h2:GCh P ops Q ds a0 w0 Rs' l):GCh P ops Q ds a0 w0 Rs (o::l):=by
 subst hR hn;exact ⟨r,hr,h1,h2⟩
def GW (P:Program) (Q:Exit→Act→World→Prop) (ds:List Tmp) (Rs:List (Value→World→Prop)) (a0:Act) (w0:World) (i:Nat) (o:Oper):Prop :=
 ∀ (K':Act→World→Prop) (a:Act) (w:World),(∀ t,t ∉ ds→slot a t=slot a0 t)→(∀ e∈o.after,Region.binds .any e=true→rAt Rs e.on (slot a (ds.getD e.on 0)) w) →
  Below w0.heap.size w0 w→(∀ v w',rAt Rs i v w'→Below w.heap.size w w'→K' (a.put o.dst v) w')→(∀ v,rAt Rs i v w→K' (a.put o.dst v) w)→Oper.wp P o a w K' Q
theorem GW.step {Rs:List (Value→World→Prop)} {i:Nat} {o:Oper} (hg:o.guard=none) (h:GW P Q ds Rs a0 w0 i o):GStepG P ops Q ds (rAt Rs) a0 w0 i o:=fun K' a w ho hd hb hK=>by
 rw [if_pos (wanted_none hg)];exact h K' a w ho hd hb hK (fun v hv=>hK v w hv (Below.refl _ _))
theorem GCh.vv {Rs Rs':List (Value→World→Prop)} {n:Nat} {o:Oper} {l:List Oper} {v:Value} (hR:Rs'=Rs++[IsV v]) (hn:Rs.length=n) (hg:o.guard=none) (h1:GW P Q ds Rs' a0 w0 n o) (h2:GCh P ops Q ds a0 w0 Rs' l):GCh P ops Q ds a0 w0 Rs (o::l):=by
 subst hR hn;exact ⟨IsV v,stable_isV v,h1.step hg,h2⟩
variable {R0 R1 R2 R3 R4 R5 R6 R7 R8 R9 R10 R11 R12 R13 R14 R15 R16 R17 R18 R19 R20 R21 R22 R23 R24 R25 R26 R27 R28 R29 R30 R31 R32 R33 R34 R35 R36 R37 R38 R39 R40 R41 R42 R43 R44 R45:Value→World→Prop} {o:Oper} {l:List Oper} {v:Value}
theorem GCh.v2 (hg:o.guard=none) (h1:GW P Q ds [R0,R1,IsV v] a0 w0 2 o) (h2:GCh P ops Q ds a0 w0 [R0,R1,IsV v] l):GCh P ops Q ds a0 w0 [R0,R1] (o::l):=.vv rfl rfl hg h1 h2
theorem GCh.v3 (hg:o.guard=none) (h1:GW P Q ds [R0,R1,R2,IsV v] a0 w0 3 o) (h2:GCh P ops Q ds a0 w0 [R0,R1,R2,IsV v] l):GCh P ops Q ds a0 w0 [R0,R1,R2] (o::l):=.vv rfl rfl hg h1 h2
theorem GCh.v4 (hg:o.guard=none) (h1:GW P Q ds [R0,R1,R2,R3,IsV v] a0 w0 4 o) (h2:GCh P ops Q ds a0 w0 [R0,R1,R2,R3,IsV v] l):GCh P ops Q ds a0 w0 [R0,R1,R2,R3] (o::l):=.vv rfl rfl hg h1 h2
theorem GCh.v8 (hg:o.guard=none) (h1:GW P Q ds [R0,R1,R2,R3,R4,R5,R6,R7,IsV v] a0 w0 8 o) (h2:GCh P ops Q ds a0 w0 [R0,R1,R2,R3,R4,R5,R6,R7,IsV v] l):GCh P ops Q ds a0 w0 [R0,R1,R2,R3,R4,R5,R6,R7] (o::l):=.vv rfl rfl hg h1 h2
theorem GCh.v10 (hg:o.guard=none) (h1:GW P Q ds [R0,R1,R2,R3,R4,R5,R6,R7,R8,R9,IsV v] a0 w0 10 o) (h2:GCh P ops Q ds a0 w0 [R0,R1,R2,R3,R4,R5,R6,R7,R8,R9,IsV v] l):GCh P ops Q ds a0 w0 [R0,R1,R2,R3,R4,R5,R6,R7,R8,R9] (o::l):=.vv rfl rfl hg h1 h2
theorem GCh.v12 (hg:o.guard=none) (h1:GW P Q ds [R0,R1,R2,R3,R4,R5,R6,R7,R8,R9,R10,R11,IsV v] a0 w0 12 o) (h2:GCh P ops Q ds a0 w0 [R0,R1,R2,R3,R4,R5,R6,R7,R8,R9,R10,R11,IsV v] l):GCh P ops Q ds a0 w0 [R0,R1,R2,R3,R4,R5,R6,R7,R8,R9,R10,R11] (o::l):=.vv rfl rfl hg h1 h2
end
end Go.Proofs.YtcckaeppiamebaaGreatDoor
