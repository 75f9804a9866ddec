import Derived.Test.YtdkepkaflielhaaGreatDoorMerged22
set_option linter.unusedVariables false
set_option linter.unusedSimpArgs false
set_option maxRecDepth 100000
set_option maxHeartbeats 8000000
namespace Go.Proofs.YtdkepkaflielhaaGreatDoor
open Go.RowKit Go.PlainAid
def Off (n:Nat) (ks:List (Nat × List Value)) {α:Type} (xs:List α) (a:Option Addr):Prop:=xs=[]∨∀ g o,a=some ⟨g,o,none⟩→n≤g∧∀ e∈ks,e.1≠g
theorem slis_lt {α:Type} {en:α→List Value} {n:Nat} {w:World} {a:Option Addr} {xs:List α} (h:SlIs en n w a xs):xs=[]∨∀ g o,a=some ⟨g,o,none⟩→g < w.heap.size:=by
 rcases h with h | ⟨b,off,rfl,hb,-⟩
 ·exact .inl h
 ·exact .inr fun g o e=>by injection e with e; injection e with e1 _; omega
theorem Off.push {n N:Nat} {ks:List (Nat × List Value)} {α:Type} {xs:List α} {a:Option Addr} (h:Off n ks xs a) (hl:xs=[]∨∀ g o,a=some ⟨g,o,none⟩→g < N) (l:List Value):Off n ((N,l)::ks) xs a:=by
 rcases h with h | h
 ·exact .inl h
 ·rcases hl with hl | hl
  ·exact .inl hl
  ·exact .inr fun g o e=>⟨(h g o e).1,fun e' he=>(List.mem_cons.1 he).elim (fun x=>by rw [x]; have:=hl g o e; show N≠g; omega) (fun x=>(h g o e).2 e' x)⟩
theorem Off.re {n:Nat} {k k':Nat × List Value} {ks:List (Nat × List Value)} {α:Type} {xs:List α} {a:Option Addr} (h:Off n (k::ks) xs a) (e:k'.1=k.1):Off n (k'::ks) xs a :=
 h.imp id fun f g o x=>⟨(f g o x).1,fun e' he=>(List.mem_cons.1 he).elim (fun y=>by rw [y,e]; exact (f g o x).2 k mE0) (fun y=>(f g o x).2 e' (.tail _ y))⟩
theorem Off.tail {n:Nat} {k:Nat × List Value} {ks:List (Nat × List Value)} {α:Type} {xs:List α} {a:Option Addr} (h:Off n (k::ks) xs a):Off n ks xs a:=h.imp id fun f g o x=>⟨(f g o x).1,fun e' he=>(f g o x).2 e' (.tail _ he)⟩
theorem Off.ne {n:Nat} {ks:List (Nat × List Value)} {α:Type} {xs:List α} {a:Option Addr} (h:Off n ks xs a) {k:Nat × List Value} (hk:k∈ks):xs=[]∨∀ g o,a=some ⟨g,o,none⟩→g≠k.1:=h.imp id fun f g o x=>((f g o x).2 k hk).symm
structure AS (w:World) (B:Nat) (sa:Option Addr) (len cap:Nat) (size:Int) (ks:List (Nat × List Value)) (pa:Option Addr) (p:Pl) (a b:Option Addr) (x:Bb) (wx:World):Prop where
 db:DB w B sa len cap size ks wx
 pl:SlIs strL1 1 wx pa p.addrs
 bb:BbIs wx a b x
 fp:Off w.heap.size ks p.addrs pa
 fa:Off w.heap.size ks x.binds a
 fb:Off w.heap.size ks x.sess b
section
variable {w wx wy:World} {B:Nat} {sa:Option Addr} {len cap:Nat} {size:Int} {ks:List (Nat × List Value)} {pa:Option Addr} {p:Pl} {a b:Option Addr} {x:Bb}
theorem AS.src (h:AS w B sa len cap size ks pa p a b x wx) {α:Type} {xs:List α} {c:Option Addr} (hc:Off w.heap.size ks xs c):xs=[]∨∀ g o,c=some ⟨g,o,none⟩→g≠B:=hc.imp id fun f g o e=>by have:=(f g o e).1; have:=h.db.dr.hB; omega
theorem AS.draw (h:AS w B sa len cap size ks pa p a b x wx) (hs:Src wy B sa len cap size) (hg:wx.grownBy wy (some B)):AS w B sa len cap size ks pa p a b x wy :=
 ⟨h.db.draw hs hg,h.pl.grown hg (h.src h.fp),⟨h.bb.bd.grown hg (h.src h.fa),h.bb.ss.grown hg (h.src h.fb)⟩,h.fp,h.fa,h.fb⟩
theorem AS.below (h:AS w B sa len cap size ks pa p a b x wx) (hb:Below wx.heap.size wx wy):AS w B sa len cap size ks pa p a b x wy:=⟨h.db.below hb,h.pl.below hb,h.bb.below hb,h.fp,h.fa,h.fb⟩
theorem AS.push (h:AS w B sa len cap size ks pa p a b x wx) (vs:List Value) (hv:0 < vs.length) (T:TypeId):AS w B sa len cap size ((wx.heap.size,vs)::ks) pa p a b x (wx.alloc (.cells vs.toArray T)) :=
 have hb:Below wx.heap.size wx (wx.alloc (.cells vs.toArray T)):=bR.alloc lR _;⟨h.db.push vs hv T,h.pl.below hb,h.bb.below hb,h.fp.push (slis_lt h.pl) _,h.fa.push (slis_lt h.bb.bd) _,h.fb.push (slis_lt h.bb.ss) _⟩
theorem AS.set {X:Nat} {vs vs':List Value} (h:AS w B sa len cap size ((X,vs)::ks) pa p a b x wx) (j:Nat) (v:Value) (hv:vs.set j v=vs') (hne:∀ e∈ks,e.1≠X):AS w B sa len cap size ((X,vs')::ks) pa p a b x (wx.setCell ⟨X,j,none⟩ v) :=
 ⟨h.db.set j v hv hne,slis_setT h.pl (h.fp.ne mE0) j v,⟨slis_setT h.bb.bd (h.fa.ne mE0) j v,slis_setT h.bb.ss (h.fb.ne mE0) j v⟩,h.fp.re rfl,h.fa.re rfl,h.fb.re rfl⟩
theorem AS.tail {k:Nat × List Value} (h:AS w B sa len cap size (k::ks) pa p a b x wx):AS w B sa len cap size ks pa p a b x wx:=⟨h.db.tail,h.pl,h.bb,h.fp.tail,h.fa.tail,h.fb.tail⟩
theorem AS.perm {ks':List (Nat × List Value)} (h:AS w B sa len cap size ks pa p a b x wx) (hs:∀ e∈ks',e∈ks):AS w B sa len cap size ks' pa p a b x wx :=
 ⟨h.db.sub hs,h.pl,h.bb,h.fp.imp id fun f g o e=>⟨(f g o e).1,fun y hy=>(f g o e).2 y (hs y hy)⟩,h.fa.imp id fun f g o e=>⟨(f g o e).1,fun y hy=>(f g o e).2 y (hs y hy)⟩,h.fb.imp id fun f g o e=>⟨(f g o e).1,fun y hy=>(f g o e).2 y (hs y hy)⟩⟩
theorem AS.rot {e f g:Nat × List Value} (h:AS w B sa len cap size (e::f::g::ks) pa p a b x wx):AS w B sa len cap size (g::e::f::ks) pa p a b x wx:=h.perm fun y hy=>by simp at hy ⊢; rcases hy with h | h | h | h<;>simp [h]
end
abbrev plR (pa:Option Addr) (pc:Nat) (p:Pl):List Value:=(PlV pa pc p)
abbrev bbR (ba bo:Option Addr) (ca cb:Nat) (x:Bb):List Value:=(BbV ba ca bo cb x)
abbrev pzR:List Value:=Z10V
abbrev bzR:List Value:=[.slice none 0 0,.slice none 0 0]
abbrev K3 (w:World):List (Nat × List Value):=[(w.heap.size,pzR),(w.heap.size+1,bzR),(w.heap.size+1+1,p4R p4Zero)]
def AskRet (w:World) (B:Nat) (sa:Option Addr) (len cap:Nat) (size:Int) (e:Ending) (w':World):Prop:=∃ pa pc p ba bo ca cb x q now,e=.returned (.tuple #[plC pa pc p,bbC ba bo ca cb x,p4C q,iV now])∧PlDr p∧p.addrs.length≤pc∧BbDr x∧PkDr q∧In64t now∧AS w B sa len cap size [] pa p ba bo x w'
theorem drawAsk_any (ins:Bool) (B:Nat) (sa:Option Addr) (len cap:Nat) (size:Int) (w:World) (hl:len≤1048576) (hs:Src w B sa len cap size) :
  Calls Tryz.prog 26 #[.pointer (some ⟨B,0,none⟩),.bool ins] w (AskRet w B sa len cap size):=by
 have hBW:B < w.heap.size:=(Dr.start hs).hB;have e0:HoldsL ((aW (aW w Z10V 27) [.slice none 0 0,.slice none 0 0] 31).alloc (.cells (P4R 0 0 false false 0 0 0 ⟨#[]⟩ ⟨#[]⟩ ⟨#[]⟩ ⟨#[]⟩).toArray 33)) (w.heap.size) Z10V:=by
  have h:=HoldsL.new w Z10V 27;try simp only [World.size_alloc] at h
  exact ((h.alloc _).alloc _)
 have e1:HoldsL ((aW (aW w Z10V 27) [.slice none 0 0,.slice none 0 0] 31).alloc (.cells (P4R 0 0 false false 0 0 0 ⟨#[]⟩ ⟨#[]⟩ ⟨#[]⟩ ⟨#[]⟩).toArray 33)) (w.heap.size+1) [.slice none 0 0,.slice none 0 0]:=by
  have h:=HoldsL.new (w.alloc (.cells Z10V.toArray 27)) [.slice none 0 0,.slice none 0 0] 31;try simp only [World.size_alloc] at h
  exact (h.alloc _)
 have e2:HoldsL ((aW (aW w Z10V 27) [.slice none 0 0,.slice none 0 0] 31).alloc (.cells (P4R 0 0 false false 0 0 0 ⟨#[]⟩ ⟨#[]⟩ ⟨#[]⟩ ⟨#[]⟩).toArray 33)) (w.heap.size+1+1) (P4R 0 0 false false 0 0 0 ⟨#[]⟩ ⟨#[]⟩ ⟨#[]⟩ ⟨#[]⟩):=by
  have h:=HoldsL.new ((aW w Z10V 27).alloc (.cells #[.slice none 0 0,.slice none 0 0] 31)) (P4R 0 0 false false 0 0 0 ⟨#[]⟩ ⟨#[]⟩ ⟨#[]⟩ ⟨#[]⟩) 33;try simp only [World.size_alloc] at h
  exact h
 have S0:Hid (DB w B sa len cap size (K3 w) ((aW (aW w Z10V 27) [.slice none 0 0,.slice none 0 0] 31).alloc (.cells (P4R 0 0 false false 0 0 0 ⟨#[]⟩ ⟨#[]⟩ ⟨#[]⟩ ⟨#[]⟩).toArray 33))):=by
  refine ⟨((((Dr.start hs).alloc _).alloc _).alloc _),fun e he=>?_,fun e he=>?_,fun e he=>?_⟩
  ·simp only [List.mem_cons,List.not_mem_nil,or_false] at he;rcases he with rfl | rfl | rfl
   ·exact e0
   ·exact e1
   ·exact e2
  ·simp only [List.mem_cons,List.not_mem_nil,or_false] at he;rcases he with rfl | rfl | rfl<;>simp
  ·simp only [List.mem_cons,List.not_mem_nil,or_false] at he;rcases he with rfl | rfl | rfl<;>simp<;>omega
 have hun:undef=Value.tuple #[]:=rfl;clear e0 e1 e2 hs;go_enter Tryz.func26,Tryz.ntmps26
 go_upto_region 1 with fail
 generalize World.alloc _ _=W0 at *;go_wp2_with fail
 refine (drawBib_any B sa len cap size W0 hl S0.out.dr.src).mono ?_;rintro e w2 ⟨pa,pc,p,ba,bo,ca,cb,x,now,rfl,hpd,hpc,hbd,hn0,hn1,hpl,hbb,fp,fa,fb,hs,hg⟩;have HPD:Hid (PlDr p):=hpd;have HBD:Hid (BbDr x):=hbd;have hlt0:∀ e∈K3 w,e.1 < W0.heap.size:=S0.out.lts;have hle0:w.heap.size≤W0.heap.size:=S0.out.dr.le;have A0:Hid (AS w B sa len cap size (K3 w) pa p ba bo x w2):=⟨S0.out.draw hs hg,hpl,hbb,.inr fun g o e=>⟨by have:=fp g o e; omega,fun y hy=>by have:=fp g o e; have:=hlt0 y hy; omega⟩,fa.imp id fun f g o e=>⟨by have:=f g o e; omega,fun y hy=>by have:=f g o e; have:=hlt0 y hy; omega⟩,fb.imp id fun f g o e=>⟨by have:=f g o e; omega,fun y hy=>by have:=f g o e; have:=hlt0 y hy; omega⟩⟩;clear hpd hbd hpl hbb fp fa fb hs hg hlt0 hle0 S0;unfold plC bbC;go_upto_region 2 with fail
 have A1:Hid (AS w B sa len cap size ((w2.heap.size+1,bbR ba bo ca cb x)::(w2.heap.size,plR pa pc p)::K3 w) pa p ba bo x ((aW w2 (PlV pa pc p) 27).alloc (.cells (BbV ba ca bo cb x).toArray 31))):=by
  have h:=(A0.out.push (PlV pa pc p) (by simp) 27).push (BbV ba ca bo cb x) (by simp) 31;rw [World.size_alloc] at h;exact h
 have hb2:∀ e∈K3 w,e.1 < w2.heap.size:=A0.out.db.lts;generalize World.alloc _ _=W3 at *;generalize w2.heap.size=Pb at *;obtain ⟨Xb,hXb⟩ : ∃ y,y=Pb+1:=⟨_,rfl⟩;rw [← hXb] at A1;try rw [← hXb]
 have hPX:Pb < Xb:=by omega
 have A3:Hid (AS w B sa len cap size ((Xb,bbR ba bo ca cb x)::(Pb,plR pa pc p)::K3 w) pa p ba bo x W3):=A1.out;have HLT:Hid (∀ e∈K3 w,e.1 < Pb):=hb2;clear A0 A1 hb2 hXb;have HHb:HoldsL W3 (Xb) (bbR ba bo ca cb x):=A3.out.db.at mE0;obtain ⟨b0,b1⟩:=HHb.c2;clear HHb;have HHp:HoldsL W3 (Pb) (plR pa pc p):=A3.out.db.at mE1;obtain ⟨p0,p1,p2,p3,p4,p5,p6,p7,p8,p9⟩:=HHp.c10;clear HHp;go_wp2_with fail
 refine (drawTouching_any B sa len cap size pa pc p ba bo ca cb x _ hl HPD.out HBD.out A3.out.pl A3.out.bb (fun g o e=>((A3.out.src A3.out.fp).resolve_left (fun h=>by have:=HPD.out.1; rw [h] at this; simp at this)) g o e) (A3.out.src A3.out.fa) (A3.out.src A3.out.fb) A3.out.db.dr.src).mono ?_;rintro e w4 ⟨t0,rfl,ht,hs,hg⟩;have HTt0:Hid (TcDr t0):=ht;have A4:Hid (AS w B sa len cap size ((Xb,bbR ba bo ca cb x)::(Pb,plR pa pc p)::K3 w) pa p ba bo x w4):=A3.out.draw hs hg;clear hs hg ht;clear A3 b0 b1 p0 p1 p2 p3 p4 p5 p6 p7 p8 p9;unfold tcC;go_upto_region 3 with fail
 have hX4:Xb < w4.heap.size:=A4.out.db.lts (_,_) mE0;have A5:Hid _:=A4.out.push (TcV t0) (by simp) 89;generalize (w4.alloc (.cells (TcV t0).toArray 89))=W5 at *;generalize w4.heap.size=Tb at *;have A6:Hid (AS w B sa len cap size ((Tb,tcR t0)::(Xb,bbR ba bo ca cb x)::(Pb,plR pa pc p)::K3 w) pa p ba bo x W5):=A5.out;clear A4 A5;have HNT:Hid (∀ e∈((Xb,bbR ba bo ca cb x)::(Pb,plR pa pc p)::K3 w),e.1≠Tb):=fun e he=>by
  rcases List.mem_cons.1 he with h | he
  ·rw [h]; show Xb≠Tb; omega
  rcases List.mem_cons.1 he with h | he
  ·rw [h]; show Pb≠Tb; omega
  ·have:=HLT.out e he; omega
 go_wp2_with fail
 go_loopw [12] (fun iv wr=>∃ k:Nat,k≤4∧iv=iV k∧∃ t,TcDr t∧AS w B sa len cap size ((Tb,tcR t)::(Xb,bbR ba bo ca cb x)::(Pb,plR pa pc p)::K3 w) pa p ba bo x wr) (fun iv _=>4-(intOf iv).toNat)
 case atStart=>exact ⟨0,by omega,rfl,t0,HTt0.out,A6.out⟩
 case round =>
  obtain ⟨k,hk,rfl,t,ht,hA⟩:=hrel;have HT:Hid (TcDr t):=ht;have A7:Hid (AS w B sa len cap size ((Tb,tcR t)::(Xb,bbR ba bo ca cb x)::(Pb,plR pa pc p)::K3 w) pa p ba bo x wr):=hA;clear ht hA A6 HTt0;generalize wr=W7 at *;have HHy:HoldsL W7 (Tb) (tcR t):=A7.out.db.at mE0;have y1:=HHy.cell (j:=1) rfl;clear HHy;obtain ⟨ti,hti⟩ : ∃ b,b=t.inside:=⟨_,rfl⟩;rw [← hti] at y1;clear hti;go_upto_region 4 with fail
  go_cut [31] (fun v wx=>(∃ cc,v=.bool cc∧(cc=true→k < 4))∧AS w B sa len cap size ((Tb,tcR t)::(Xb,bbR ba bo ca cb x)::(Pb,plR pa pc p)::K3 w) pa p ba bo x wx)
  case first =>
   by_cases hk4:k < 4
   case pos =>
    have hkI:(k:Int) < 4:=by omega
    by_cases hin:ti=ins
    case neg =>
     have hb:(ti != ins)=true:=by simp [hin]
     clear hin;go_wp2_with fail
     go_meet;exact ⟨⟨true,by first | rfl | exact congrArg Value.bool hb,fun _=>hk4⟩,A7.out⟩
    have hb:(ti != ins)=false:=by simp [hin]
    clear hin;go_wp2_with fail
    go_meet;exact ⟨⟨false,by first | rfl | exact congrArg Value.bool hb,fun h=>by cases h⟩,A7.out⟩
   have hkI:¬ (k:Int) < 4:=by omega
   go_wp2_with fail
   go_meet;exact ⟨⟨false,rfl,fun h=>by cases h⟩,A7.out⟩
  case rest =>
  obtain ⟨⟨cc,rfl,hcc⟩,hA⟩:=hcut;have A7:Hid (AS w B sa len cap size ((Tb,tcR t)::(Xb,bbR ba bo ca cb x)::(Pb,plR pa pc p)::K3 w) pa p ba bo x wc):=hA;clear hA y1;generalize wc=W7 at *
  cases cc with
  | true =>
   have hk4:k < 4:=hcc rfl;have HHb:HoldsL W7 (Xb) (bbR ba bo ca cb x):=A7.out.db.at mE1;obtain ⟨b0,b1⟩:=HHb.c2;clear HHb;have HHp:HoldsL W7 (Pb) (plR pa pc p):=A7.out.db.at mE2;obtain ⟨p0,p1,p2,p3,p4,p5,p6,p7,p8,p9⟩:=HHp.c10;clear HHp;go_wp2_with fail
   refine (drawTouching_any B sa len cap size pa pc p ba bo ca cb x _ hl HPD.out HBD.out A7.out.pl A7.out.bb (fun g o e=>((A7.out.src A7.out.fp).resolve_left (fun h=>by have:=HPD.out.1; rw [h] at this; simp at this)) g o e) (A7.out.src A7.out.fa) (A7.out.src A7.out.fb) A7.out.db.dr.src).mono ?_;rintro e w8 ⟨t1,rfl,ht,hs,hg⟩;have HTt1:Hid (TcDr t1):=ht;have A8:Hid (AS w B sa len cap size ((Tb,tcR t)::(Xb,bbR ba bo ca cb x)::(Pb,plR pa pc p)::K3 w) pa p ba bo x w8):=A7.out.draw hs hg;clear hs hg ht;clear A7 b0 b1 p0 p1 p2 p3 p4 p5 p6 p7 p8 p9;unfold tcC;have HHy:HoldsL w8 (Tb) (tcR t):=A8.out.db.at mE0;obtain ⟨y0,y1,y2,y3,y4,y5,y6⟩:=HHy.c7;clear HHy;have HHy:HoldsL w8 Tb (tcR t):=A8.out.db.at mE0;obtain ⟨yf0,yf1,yf2,yf3,yf4,yf5,yf6⟩:=HHy.f7;clear HHy;have A9:Hid _:=(((((((A8.out.set 0 (iV t1.proto) rfl HNT.out).set 1 (.bool t1.inside) rfl HNT.out).set 2 (.string t1.addr) rfl HNT.out).set 3 (iV t1.port) rfl HNT.out).set 4 (.string t1.peer) rfl HNT.out).set 5 (iV t1.peerPort) rfl HNT.out).set 6 (iV t1.flags) rfl HNT.out);clear A8;go_wp2_with fail
   go_roundw
   case rel =>
    first | exact ⟨k+1,by omega,by go_num,t1,HTt1.out,A9.out⟩ | ((repeat apply Exists.intro); exact ⟨⟨k+1,by omega,by go_num,t1,HTt1.out,A9.out⟩,rfl⟩)
   case measure=>simp [intOf]; omega
  | false =>
   go_upto_region 7 with fail
   have HHy:HoldsL W7 (Tb) (tcR t):=A7.out.db.at mE0;obtain ⟨y0,y1,y2,y3,y4,y5,y6⟩:=HHy.c7;clear HHy;go_wp2_with fail
   refine (drawPkt9_any t B sa len cap size _ hl HT.out A7.out.db.dr.src).mono ?_;rintro e w8 ⟨⟨q,rfl,hq⟩,hs,hg⟩;have HQ:Hid (PkDr q):=hq;have A8:Hid (AS w B sa len cap size ((Xb,bbR ba bo ca cb x)::(Pb,plR pa pc p)::K3 w) pa p ba bo x w8):=(A7.out.draw hs hg).tail;clear hs hg hq A7 HT y0 y1 y2 y3 y4 y5 y6;unfold p4C;go_upto_region 8 with fail
   have hX8:Xb < w8.heap.size:=A8.out.db.lts (_,_) mE0;have A9:Hid _:=A8.out.push (P4V q) (by simp) 33;generalize (w8.alloc (.cells (P4V q).toArray 33))=W9 at *;generalize w8.heap.size=Qb at *;have A10:Hid (AS w B sa len cap size ((Qb,p4R q)::(Xb,bbR ba bo ca cb x)::(Pb,plR pa pc p)::K3 w) pa p ba bo x W9):=A9.out;clear A8 A9;go_wp2_with fail
   refine (drawOne_any 25 B sa len cap size _ (by omega) hl A10.out.db.dr.src).mono ?_;rintro e w10 ⟨c,rfl,hs,hg⟩;have A11:Hid (AS w B sa len cap size ((Qb,p4R q)::(Xb,bbR ba bo ca cb x)::(Pb,plR pa pc p)::K3 w) pa p ba bo x w10):=A10.out.draw hs hg;clear hs hg A10;have d0:¬ w.heap.size=Pb:=by have:=HLT.out (_,_) mE0; simp at this; omega
   have d1:¬ w.heap.size+1=Pb:=by have:=HLT.out (_,_) mE1; simp at this; omega
   have d2:¬ w.heap.size+1+1=Pb:=by have:=HLT.out (_,_) mE2; simp at this; omega
   have gd0Pb:¬ w.heap.size=Pb:=by have:=HLT.out (_,_) mE0; simp at this; omega
   have kd0Pb:¬ Pb=w.heap.size:=fun e=>gd0Pb e.symm
   have gd0Xb:¬ w.heap.size=Xb:=by have:=HLT.out (_,_) mE0; simp at this; omega
   have kd0Xb:¬ Xb=w.heap.size:=fun e=>gd0Xb e.symm
   have gd0Qb:¬ w.heap.size=Qb:=by have:=HLT.out (_,_) mE0; simp at this; omega
   have kd0Qb:¬ Qb=w.heap.size:=fun e=>gd0Qb e.symm
   have gd1Pb:¬ w.heap.size+1=Pb:=by have:=HLT.out (_,_) mE1; simp at this; omega
   have kd1Pb:¬ Pb=w.heap.size+1:=fun e=>gd1Pb e.symm
   have gd1Xb:¬ w.heap.size+1=Xb:=by have:=HLT.out (_,_) mE1; simp at this; omega
   have kd1Xb:¬ Xb=w.heap.size+1:=fun e=>gd1Xb e.symm
   have gd1Qb:¬ w.heap.size+1=Qb:=by have:=HLT.out (_,_) mE1; simp at this; omega
   have kd1Qb:¬ Qb=w.heap.size+1:=fun e=>gd1Qb e.symm
   have gd2Pb:¬ w.heap.size+1+1=Pb:=by have:=HLT.out (_,_) mE2; simp at this; omega
   have kd2Pb:¬ Pb=w.heap.size+1+1:=fun e=>gd2Pb e.symm
   have gd2Xb:¬ w.heap.size+1+1=Xb:=by have:=HLT.out (_,_) mE2; simp at this; omega
   have kd2Xb:¬ Xb=w.heap.size+1+1:=fun e=>gd2Xb e.symm
   have gd2Qb:¬ w.heap.size+1+1=Qb:=by have:=HLT.out (_,_) mE2; simp at this; omega
   have kd2Qb:¬ Qb=w.heap.size+1+1:=fun e=>gd2Qb e.symm
   have HN3:∀ e∈([(w.heap.size+1,[.slice none 0 0,.slice none 0 0]),(w.heap.size+1+1,(P4R 0 0 false false 0 0 0 ⟨#[]⟩ ⟨#[]⟩ ⟨#[]⟩ ⟨#[]⟩))]:List (Nat × List Value)),e.1≠w.heap.size:=fun e he=>by simp only [List.mem_cons,List.not_mem_nil,or_false] at he; rcases he with rfl | rfl<;>simp<;>omega
   have HN4:∀ l,∀ e∈([(w.heap.size+1+1,(P4R 0 0 false false 0 0 0 ⟨#[]⟩ ⟨#[]⟩ ⟨#[]⟩ ⟨#[]⟩)),(w.heap.size,l)]:List (Nat × List Value)),e.1≠w.heap.size+1:=fun l e he=>by simp only [List.mem_cons,List.not_mem_nil,or_false] at he; rcases he with rfl | rfl<;>simp
   have HN5:∀ l m,∀ e∈([(w.heap.size,l),(w.heap.size+1,m)]:List (Nat × List Value)),e.1≠w.heap.size+1+1:=fun l m e he=>by simp only [List.mem_cons,List.not_mem_nil,or_false] at he; rcases he with rfl | rfl<;>simp<;>omega
   cases c with
   | true =>
    go_upto_region 9 with fail
    go_cut [7] (fun v wx=>∃ m,v=iV m∧In64t m∧AS w B sa len cap size [(w.heap.size+1+1,p4R q),(w.heap.size,plR pa pc p),(w.heap.size+1,bbR ba bo ca cb x)] pa p ba bo x wx)
    case first =>
     have HHp:HoldsL w10 (Pb) (plR pa pc p):=A11.out.db.at mE2;obtain ⟨p0,p1,p2,p3,p4,p5,p6,p7,p8,p9⟩:=HHp.c10;clear HHp;have HHb:HoldsL w10 (Xb) (bbR ba bo ca cb x):=A11.out.db.at mE1;obtain ⟨b0,b1⟩:=HHb.c2;clear HHb;have HHq:HoldsL w10 (Qb) (p4R q):=A11.out.db.at mE0;obtain ⟨q0,q1,q2,q3,q4,q5,q6,q7,q8,q9,q10⟩:=HHq.c11;clear HHq;have HHz:HoldsL w10 (w.heap.size) (pzR):=A11.out.db.at mE3;obtain ⟨z0,z1,z2,z3,z4,z5,z6,z7,z8,z9⟩:=HHz.c10;obtain ⟨zf0,zf1,zf2,zf3,zf4,zf5,zf6,zf7,zf8,zf9⟩:=HHz.f10;clear HHz;have HHu:HoldsL w10 (w.heap.size+1) (bzR):=A11.out.db.at mE4;obtain ⟨u0,u1⟩:=HHu.c2;obtain ⟨uf0,uf1⟩:=HHu.f2;clear HHu;have HHv:HoldsL w10 (w.heap.size+1+1) (p4R p4Zero):=A11.out.db.at mE5;obtain ⟨v0,v1,v2,v3,v4,v5,v6,v7,v8,v9,v10⟩:=HHv.c11;obtain ⟨vf0,vf1,vf2,vf3,vf4,vf5,vf6,vf7,vf8,vf9,vf10⟩:=HHv.f11;clear HHv;go_region_held (fun wy=>wy.cell? ⟨Pb,0,none⟩=some (.slice pa p.addrs.length pc)∧wy.cell? ⟨Pb,1,none⟩=some (iV p.low)∧wy.cell? ⟨Pb,2,none⟩=some (iV p.high)∧wy.cell? ⟨Pb,3,none⟩=some (iV p.most)∧wy.cell? ⟨Pb,4,none⟩=some (iV p.filter)∧wy.cell? ⟨Pb,5,none⟩=some (iV p.lv.udp)∧wy.cell? ⟨Pb,6,none⟩=some (iV p.lv.echo)∧wy.cell? ⟨Pb,7,none⟩=some (iV p.lv.opening)∧wy.cell? ⟨Pb,8,none⟩=some (iV p.lv.opn)∧wy.cell? ⟨Pb,9,none⟩=some (iV p.lv.closing)∧wy.cell? ⟨Xb,0,none⟩=some (.slice ba x.binds.length ca)∧wy.cell? ⟨Xb,1,none⟩=some (.slice bo x.sess.length cb)∧wy.cell? ⟨Qb,0,none⟩=some (iV q.tos)∧wy.cell? ⟨Qb,1,none⟩=some (iV q.id)∧wy.cell? ⟨Qb,2,none⟩=some (.bool q.whole)∧wy.cell? ⟨Qb,3,none⟩=some (.bool q.more)∧wy.cell? ⟨Qb,4,none⟩=some (iV q.off)∧wy.cell? ⟨Qb,5,none⟩=some (iV q.ttl)∧wy.cell? ⟨Qb,6,none⟩=some (iV q.proto)∧wy.cell? ⟨Qb,7,none⟩=some (.string q.src)∧wy.cell? ⟨Qb,8,none⟩=some (.string q.dst)∧wy.cell? ⟨Qb,9,none⟩=some (.string q.opts)∧wy.cell? ⟨Qb,10,none⟩=some (.string q.data)) (go_keep) (first | (go_at_call 56; refine (drawEdge_any B sa len cap size _ hl (A11.out.below bR.drew).db.dr.src).mono ?_; rintro e w12 ⟨r,rfl,hr,hs,hg⟩; have A12:Hid (AS w B sa len cap size ((Qb,p4R q)::(Xb,bbR ba bo ca cb x)::(Pb,plR pa pc p)::K3 w) pa p ba bo x w12):=(A11.out.below bR.drew).draw hs hg; clear hs hg; have HHpp:HoldsL w12 (Pb) (plR pa pc p):=A12.out.db.at mE2; obtain ⟨pp0,pp1,pp2,pp3,pp4,pp5,pp6,pp7,pp8,pp9⟩:=HHpp.c10; clear HHpp; have HHbb:HoldsL w12 (Xb) (bbR ba bo ca cb x):=A12.out.db.at mE1; obtain ⟨bb0,bb1⟩:=HHbb.c2; clear HHbb; have HHqq:HoldsL w12 (Qb) (p4R q):=A12.out.db.at mE0; obtain ⟨qq0,qq1,qq2,qq3,qq4,qq5,qq6,qq7,qq8,qq9,qq10⟩:=HHqq.c11; clear HHqq; have HHzz:HoldsL w12 (w.heap.size) (pzR):=A12.out.db.at mE3; obtain ⟨zz0,zz1,zz2,zz3,zz4,zz5,zz6,zz7,zz8,zz9⟩:=HHzz.c10; obtain ⟨zzf0,zzf1,zzf2,zzf3,zzf4,zzf5,zzf6,zzf7,zzf8,zzf9⟩:=HHzz.f10; clear HHzz; have HHuu:HoldsL w12 (w.heap.size+1) (bzR):=A12.out.db.at mE4; obtain ⟨uu0,uu1⟩:=HHuu.c2; obtain ⟨uuf0,uuf1⟩:=HHuu.f2; clear HHuu; have HHvv:HoldsL w12 (w.heap.size+1+1) (p4R p4Zero):=A12.out.db.at mE5; obtain ⟨vv0,vv1,vv2,vv3,vv4,vv5,vv6,vv7,vv8,vv9,vv10⟩:=HHvv.c11; obtain ⟨vvf0,vvf1,vvf2,vvf3,vvf4,vvf5,vvf6,vvf7,vvf8,vvf9,vvf10⟩:=HHvv.f11; clear HHvv; clear p0 p1 p2 p3 p4 p5 p6 p7 p8 p9 b0 b1 q0 q1 q2 q3 q4 q5 q6 q7 q8 q9 q10 z0 zf0 z1 zf1 z2 zf2 z3 zf3 z4 zf4 z5 zf5 z6 zf6 z7 zf7 z8 zf8 z9 zf9 u0 uf0 u1 uf1 v0 vf0 v1 vf1 v2 vf2 v3 vf3 v4 vf4 v5 vf5 v6 vf6 v7 vf7 v8 vf8 v9 vf9 v10 vf10))
     all_goals go_wp2_with fail
     all_goals go_meet
     all_goals exact ⟨r,by first | rfl | (congr 1; rw [IntKind.wrap_i64]; omega),(by first | exact hr | (have:=hr; unfold In64 at this; unfold In64t; omega)),((((((((((((((((((((((((((A12.out.tail.tail.tail).set 0 (.slice pa p.addrs.length pc) rfl HN3).set 1 (iV p.low) rfl HN3).set 2 (iV p.high) rfl HN3).set 3 (iV p.most) rfl HN3).set 4 (iV p.filter) rfl HN3).set 5 (iV p.lv.udp) rfl HN3).set 6 (iV p.lv.echo) rfl HN3).set 7 (iV p.lv.opening) rfl HN3).set 8 (iV p.lv.opn) rfl HN3).set 9 (iV p.lv.closing) rfl HN3).rot.rot).set 0 (.slice ba x.binds.length ca) rfl (HN4 _)).set 1 (.slice bo x.sess.length cb) rfl (HN4 _)).rot.rot).set 0 (iV q.tos) rfl (HN5 _ _)).set 1 (iV q.id) rfl (HN5 _ _)).set 2 (.bool q.whole) rfl (HN5 _ _)).set 3 (.bool q.more) rfl (HN5 _ _)).set 4 (iV q.off) rfl (HN5 _ _)).set 5 (iV q.ttl) rfl (HN5 _ _)).set 6 (iV q.proto) rfl (HN5 _ _)).set 7 (.string q.src) rfl (HN5 _ _)).set 8 (.string q.dst) rfl (HN5 _ _)).set 9 (.string q.opts) rfl (HN5 _ _)).set 10 (.string q.data) rfl (HN5 _ _))⟩
    case rest =>
    obtain ⟨m,rfl,hm,hA⟩:=hcut;have HM:Hid _:=hm;have A14:Hid (AS w B sa len cap size [(w.heap.size+1+1,p4R q),(w.heap.size,plR pa pc p),(w.heap.size+1,bbR ba bo ca cb x)] pa p ba bo x wc):=hA;clear hm hA A11;generalize wc=W14 at *;have HHv:HoldsL W14 (w.heap.size+1+1) (p4R q):=A14.out.db.at mE0;obtain ⟨v0,v1,v2,v3,v4,v5,v6,v7,v8,v9,v10⟩:=HHv.c11;have HHz:HoldsL W14 (w.heap.size) (plR pa pc p):=A14.out.db.at mE1;obtain ⟨z0,z1,z2,z3,z4,z5,z6,z7,z8,z9⟩:=HHz.c10;have HHu:HoldsL W14 (w.heap.size+1) (bbR ba bo ca cb x):=A14.out.db.at mE2;obtain ⟨u0,u1⟩:=HHu.c2;clear HHv HHz HHu;go_wp2_with fail
    exact bodyPost_ret (v:=.tuple #[.agg (PlV pa pc p).toArray,.agg (BbV ba ca bo cb x).toArray,.agg (P4V q).toArray,iV m]) (by simp [results,Tryz.results26,go_sem,z0,z1,z2,z3,z4,z5,z6,z7,z8,z9,u0,u1,v0,v1,v2,v3,v4,v5,v6,v7,v8,v9,v10]) rfl ⟨pa,pc,p,ba,bo,ca,cb,x,q,m,rfl,HPD.out,hpc,HBD.out,HQ.out,HM.out,A14.out.tail.tail.tail⟩
   | false =>
    go_upto_region 10 with fail
    go_cut [7] (fun v wx=>∃ m,v=iV m∧In64t m∧AS w B sa len cap size [(w.heap.size+1+1,p4R q),(w.heap.size,plR pa pc p),(w.heap.size+1,bbR ba bo ca cb x)] pa p ba bo x wx)
    case first =>
     have HHp:HoldsL w10 (Pb) (plR pa pc p):=A11.out.db.at mE2;obtain ⟨p0,p1,p2,p3,p4,p5,p6,p7,p8,p9⟩:=HHp.c10;clear HHp;have HHb:HoldsL w10 (Xb) (bbR ba bo ca cb x):=A11.out.db.at mE1;obtain ⟨b0,b1⟩:=HHb.c2;clear HHb;have HHq:HoldsL w10 (Qb) (p4R q):=A11.out.db.at mE0;obtain ⟨q0,q1,q2,q3,q4,q5,q6,q7,q8,q9,q10⟩:=HHq.c11;clear HHq;have HHz:HoldsL w10 (w.heap.size) (pzR):=A11.out.db.at mE3;obtain ⟨z0,z1,z2,z3,z4,z5,z6,z7,z8,z9⟩:=HHz.c10;obtain ⟨zf0,zf1,zf2,zf3,zf4,zf5,zf6,zf7,zf8,zf9⟩:=HHz.f10;clear HHz;have HHu:HoldsL w10 (w.heap.size+1) (bzR):=A11.out.db.at mE4;obtain ⟨u0,u1⟩:=HHu.c2;obtain ⟨uf0,uf1⟩:=HHu.f2;clear HHu;have HHv:HoldsL w10 (w.heap.size+1+1) (p4R p4Zero):=A11.out.db.at mE5;obtain ⟨v0,v1,v2,v3,v4,v5,v6,v7,v8,v9,v10⟩:=HHv.c11;obtain ⟨vf0,vf1,vf2,vf3,vf4,vf5,vf6,vf7,vf8,vf9,vf10⟩:=HHv.f11;clear HHv;go_region_held (fun wy=>wy.cell? ⟨Pb,0,none⟩=some (.slice pa p.addrs.length pc)∧wy.cell? ⟨Pb,1,none⟩=some (iV p.low)∧wy.cell? ⟨Pb,2,none⟩=some (iV p.high)∧wy.cell? ⟨Pb,3,none⟩=some (iV p.most)∧wy.cell? ⟨Pb,4,none⟩=some (iV p.filter)∧wy.cell? ⟨Pb,5,none⟩=some (iV p.lv.udp)∧wy.cell? ⟨Pb,6,none⟩=some (iV p.lv.echo)∧wy.cell? ⟨Pb,7,none⟩=some (iV p.lv.opening)∧wy.cell? ⟨Pb,8,none⟩=some (iV p.lv.opn)∧wy.cell? ⟨Pb,9,none⟩=some (iV p.lv.closing)∧wy.cell? ⟨Xb,0,none⟩=some (.slice ba x.binds.length ca)∧wy.cell? ⟨Xb,1,none⟩=some (.slice bo x.sess.length cb)∧wy.cell? ⟨Qb,0,none⟩=some (iV q.tos)∧wy.cell? ⟨Qb,1,none⟩=some (iV q.id)∧wy.cell? ⟨Qb,2,none⟩=some (.bool q.whole)∧wy.cell? ⟨Qb,3,none⟩=some (.bool q.more)∧wy.cell? ⟨Qb,4,none⟩=some (iV q.off)∧wy.cell? ⟨Qb,5,none⟩=some (iV q.ttl)∧wy.cell? ⟨Qb,6,none⟩=some (iV q.proto)∧wy.cell? ⟨Qb,7,none⟩=some (.string q.src)∧wy.cell? ⟨Qb,8,none⟩=some (.string q.dst)∧wy.cell? ⟨Qb,9,none⟩=some (.string q.opts)∧wy.cell? ⟨Qb,10,none⟩=some (.string q.data)) (go_keep) (first | (go_at_call 50; refine (drawN_more 5 B sa len cap size _ (by omega) (by omega) hl (A11.out.below bR.drew).db.dr.src).mono ?_; rintro e w12 ⟨r,rfl,lr,ur,hs,hg⟩; have A12:Hid (AS w B sa len cap size ((Qb,p4R q)::(Xb,bbR ba bo ca cb x)::(Pb,plR pa pc p)::K3 w) pa p ba bo x w12):=(A11.out.below bR.drew).draw hs hg; clear hs hg; have HHpp:HoldsL w12 (Pb) (plR pa pc p):=A12.out.db.at mE2; obtain ⟨pp0,pp1,pp2,pp3,pp4,pp5,pp6,pp7,pp8,pp9⟩:=HHpp.c10; clear HHpp; have HHbb:HoldsL w12 (Xb) (bbR ba bo ca cb x):=A12.out.db.at mE1; obtain ⟨bb0,bb1⟩:=HHbb.c2; clear HHbb; have HHqq:HoldsL w12 (Qb) (p4R q):=A12.out.db.at mE0; obtain ⟨qq0,qq1,qq2,qq3,qq4,qq5,qq6,qq7,qq8,qq9,qq10⟩:=HHqq.c11; clear HHqq; have HHzz:HoldsL w12 (w.heap.size) (pzR):=A12.out.db.at mE3; obtain ⟨zz0,zz1,zz2,zz3,zz4,zz5,zz6,zz7,zz8,zz9⟩:=HHzz.c10; obtain ⟨zzf0,zzf1,zzf2,zzf3,zzf4,zzf5,zzf6,zzf7,zzf8,zzf9⟩:=HHzz.f10; clear HHzz; have HHuu:HoldsL w12 (w.heap.size+1) (bzR):=A12.out.db.at mE4; obtain ⟨uu0,uu1⟩:=HHuu.c2; obtain ⟨uuf0,uuf1⟩:=HHuu.f2; clear HHuu; have HHvv:HoldsL w12 (w.heap.size+1+1) (p4R p4Zero):=A12.out.db.at mE5; obtain ⟨vv0,vv1,vv2,vv3,vv4,vv5,vv6,vv7,vv8,vv9,vv10⟩:=HHvv.c11; obtain ⟨vvf0,vvf1,vvf2,vvf3,vvf4,vvf5,vvf6,vvf7,vvf8,vvf9,vvf10⟩:=HHvv.f11; clear HHvv; clear p0 p1 p2 p3 p4 p5 p6 p7 p8 p9 b0 b1 q0 q1 q2 q3 q4 q5 q6 q7 q8 q9 q10 z0 zf0 z1 zf1 z2 zf2 z3 zf3 z4 zf4 z5 zf5 z6 zf6 z7 zf7 z8 zf8 z9 zf9 u0 uf0 u1 uf1 v0 vf0 v1 vf1 v2 vf2 v3 vf3 v4 vf4 v5 vf5 v6 vf6 v7 vf7 v8 vf8 v9 vf9 v10 vf10))
     all_goals go_wp2_with fail
     all_goals go_meet
     all_goals exact ⟨now+r,by first | rfl | (congr 1; rw [IntKind.wrap_i64]; omega),(by unfold In64t; constructor<;>omega),((((((((((((((((((((((((((A12.out.tail.tail.tail).set 0 (.slice pa p.addrs.length pc) rfl HN3).set 1 (iV p.low) rfl HN3).set 2 (iV p.high) rfl HN3).set 3 (iV p.most) rfl HN3).set 4 (iV p.filter) rfl HN3).set 5 (iV p.lv.udp) rfl HN3).set 6 (iV p.lv.echo) rfl HN3).set 7 (iV p.lv.opening) rfl HN3).set 8 (iV p.lv.opn) rfl HN3).set 9 (iV p.lv.closing) rfl HN3).rot.rot).set 0 (.slice ba x.binds.length ca) rfl (HN4 _)).set 1 (.slice bo x.sess.length cb) rfl (HN4 _)).rot.rot).set 0 (iV q.tos) rfl (HN5 _ _)).set 1 (iV q.id) rfl (HN5 _ _)).set 2 (.bool q.whole) rfl (HN5 _ _)).set 3 (.bool q.more) rfl (HN5 _ _)).set 4 (iV q.off) rfl (HN5 _ _)).set 5 (iV q.ttl) rfl (HN5 _ _)).set 6 (iV q.proto) rfl (HN5 _ _)).set 7 (.string q.src) rfl (HN5 _ _)).set 8 (.string q.dst) rfl (HN5 _ _)).set 9 (.string q.opts) rfl (HN5 _ _)).set 10 (.string q.data) rfl (HN5 _ _))⟩
    case rest =>
    obtain ⟨m,rfl,hm,hA⟩:=hcut;have HM:Hid _:=hm;have A14:Hid (AS w B sa len cap size [(w.heap.size+1+1,p4R q),(w.heap.size,plR pa pc p),(w.heap.size+1,bbR ba bo ca cb x)] pa p ba bo x wc):=hA;clear hm hA A11;generalize wc=W14 at *;have HHv:HoldsL W14 (w.heap.size+1+1) (p4R q):=A14.out.db.at mE0;obtain ⟨v0,v1,v2,v3,v4,v5,v6,v7,v8,v9,v10⟩:=HHv.c11;have HHz:HoldsL W14 (w.heap.size) (plR pa pc p):=A14.out.db.at mE1;obtain ⟨z0,z1,z2,z3,z4,z5,z6,z7,z8,z9⟩:=HHz.c10;have HHu:HoldsL W14 (w.heap.size+1) (bbR ba bo ca cb x):=A14.out.db.at mE2;obtain ⟨u0,u1⟩:=HHu.c2;clear HHv HHz HHu;go_wp2_with fail
    exact bodyPost_ret (v:=.tuple #[.agg (PlV pa pc p).toArray,.agg (BbV ba ca bo cb x).toArray,.agg (P4V q).toArray,iV m]) (by simp [results,Tryz.results26,go_sem,z0,z1,z2,z3,z4,z5,z6,z7,z8,z9,u0,u1,v0,v1,v2,v3,v4,v5,v6,v7,v8,v9,v10]) rfl ⟨pa,pc,p,ba,bo,ca,cb,x,q,m,rfl,HPD.out,hpc,HBD.out,HQ.out,HM.out,A14.out.tail.tail.tail⟩
theorem drawNatCome_any (sa:Option Addr) (len cap:Nat) (w:World) (hl:len≤1048576) (hb:Bytes w sa len w.heap.size) :
  Calls Tryz.prog 18 #[.slice sa len cap] w fun e w'=>∃ pa pc p ba bo ca cb x q now,e=.returned (.tuple #[plC pa pc p,bbC ba bo ca cb x,p4C q,iV now])∧PlDr p∧p.addrs.length≤pc∧BbDr x∧PkDr q∧In64t now∧SlIs strL1 1 w' pa p.addrs∧BbIs w' ba bo x∧Below w.heap.size w w':=by
 have O0:Hid (HoldsL ((aW (aW w Z10V 27) [.slice none 0 0,.slice none 0 0] 31).alloc (.cells (P4R 0 0 false false 0 0 0 ⟨#[]⟩ ⟨#[]⟩ ⟨#[]⟩ ⟨#[]⟩).toArray 33)) (w.heap.size) Z10V):=by
  have h:=HoldsL.new w Z10V 27;try simp only [World.size_alloc] at h
  exact ((h.alloc _).alloc _)
 have O1:Hid (HoldsL ((aW (aW w Z10V 27) [.slice none 0 0,.slice none 0 0] 31).alloc (.cells (P4R 0 0 false false 0 0 0 ⟨#[]⟩ ⟨#[]⟩ ⟨#[]⟩ ⟨#[]⟩).toArray 33)) (w.heap.size+1) [.slice none 0 0,.slice none 0 0]):=by
  have h:=HoldsL.new (w.alloc (.cells Z10V.toArray 27)) [.slice none 0 0,.slice none 0 0] 31;try simp only [World.size_alloc] at h
  exact (h.alloc _)
 have O2:Hid (HoldsL ((aW (aW w Z10V 27) [.slice none 0 0,.slice none 0 0] 31).alloc (.cells (P4R 0 0 false false 0 0 0 ⟨#[]⟩ ⟨#[]⟩ ⟨#[]⟩ ⟨#[]⟩).toArray 33)) (w.heap.size+1+1) (P4R 0 0 false false 0 0 0 ⟨#[]⟩ ⟨#[]⟩ ⟨#[]⟩ ⟨#[]⟩)):=by
  have h:=HoldsL.new ((aW w Z10V 27).alloc (.cells #[.slice none 0 0,.slice none 0 0] 31)) (P4R 0 0 false false 0 0 0 ⟨#[]⟩ ⟨#[]⟩ ⟨#[]⟩ ⟨#[]⟩) 33;try simp only [World.size_alloc] at h
  exact h
 have HZ:Hid (((aW (aW w Z10V 27) [.slice none 0 0,.slice none 0 0] 31).alloc (.cells (P4R 0 0 false false 0 0 0 ⟨#[]⟩ ⟨#[]⟩ ⟨#[]⟩ ⟨#[]⟩).toArray 33)).heap.size=w.heap.size+3):=by unfold Hid; simp
 have HB0:Hid (Below w.heap.size w ((aW (aW w Z10V 27) [.slice none 0 0,.slice none 0 0] 31).alloc (.cells (P4R 0 0 false false 0 0 0 ⟨#[]⟩ ⟨#[]⟩ ⟨#[]⟩ ⟨#[]⟩).toArray 33))):=((bR.alloc lR _).alloc (by simp) _).alloc (by simp; omega) _;have HBY:Hid (Bytes ((aW (aW w Z10V 27) [.slice none 0 0,.slice none 0 0] 31).alloc (.cells (P4R 0 0 false false 0 0 0 ⟨#[]⟩ ⟨#[]⟩ ⟨#[]⟩ ⟨#[]⟩).toArray 33)) sa len ((aW (aW w Z10V 27) [.slice none 0 0,.slice none 0 0] 31).alloc (.cells (P4R 0 0 false false 0 0 0 ⟨#[]⟩ ⟨#[]⟩ ⟨#[]⟩ ⟨#[]⟩).toArray 33)).heap.size):=(((hb.mono (by simp; try omega)).kept (World.grownBy_alloc _ _ none) (by simp)).kept (World.grownBy_alloc _ _ none) (by simp)).kept (World.grownBy_alloc _ _ none) (by simp);clear hb;go_enter Tryz.func18,Tryz.ntmps18
 go_upto_region 1 with fail
 generalize World.alloc _ _=W0 at *;go_cut [5] (fun v wx=>∃ pa pc p ba bo ca cb x q now,v=iV now∧PlDr p∧p.addrs.length≤pc∧BbDr x∧PkDr q∧In64t now∧SlIs strL1 1 wx pa p.addrs∧BbIs wx ba bo x∧Below w.heap.size w wx∧HoldsL wx (w.heap.size) (PlV pa pc p)∧HoldsL wx (w.heap.size+1) (BbV ba ca bo cb x)∧HoldsL wx (w.heap.size+1+1) (P4V q))
 case first =>
  go_wp2_with fail
  refine (source_any sa len cap W0 hl HBY.out).mono ?_;rintro e w1 ⟨rfl,b1,size,s0,s1,hs1⟩;have HS1:Hid (Src w1 W0.heap.size sa len cap size):=hs1;obtain ⟨B,hBd⟩ : ∃ B,B=W0.heap.size:=⟨_,rfl⟩;rw [← hBd] at hs1 HS1 ⊢;have hB2:w.heap.size+3≤B:=by rw [hBd,HZ.out]; exact Nat.le_refl _
  have hB1:B < w1.heap.size:=(Dr.start hs1).hB;have HB1:Hid _:=HB0.out.trans (b1.mono HB0.out.size);have Q0:Hid _:=O0.out.kept (by simp) b1;have Q1:Hid _:=O1.out.kept (by simp) b1;have Q2:Hid _:=O2.out.kept (by simp) b1;clear hs1 b1 s0 s1 O0 O1 O2 HBY HB0 hBd HZ;go_wp2_with fail
  refine (drawAsk_any false B sa len cap size w1 hl HS1.out).mono ?_;rintro e w2 ⟨pa,pc,p,ba,bo,ca,cb,x,q,now,rfl,hpd,hpc,hbd,hq,hnow,hA⟩;have A2:Hid (AS w1 B sa len cap size [] pa p ba bo x w2):=hA;have hg:=hA.db.dr.grown;have Hz:HoldsL w2 (w.heap.size) Z10V:=Q0.out.grown (by simp) hg (by simp; omega);obtain ⟨z0,z1,z2,z3,z4,z5,z6,z7,z8,z9⟩:=Hz.c10;obtain ⟨zf0,zf1,zf2,zf3,zf4,zf5,zf6,zf7,zf8,zf9⟩:=Hz.f10;have Hu:HoldsL w2 (w.heap.size+1) [.slice none 0 0,.slice none 0 0]:=Q1.out.grown (by simp) hg (by simp; omega);obtain ⟨u0,u1⟩:=Hu.c2;obtain ⟨uf0,uf1⟩:=Hu.f2;have Hv:HoldsL w2 (w.heap.size+1+1) (P4R 0 0 false false 0 0 0 ⟨#[]⟩ ⟨#[]⟩ ⟨#[]⟩ ⟨#[]⟩):=Q2.out.grown (by simp) hg (by simp; omega);obtain ⟨v0,v1,v2,v3,v4,v5,v6,v7,v8,v9,v10⟩:=Hv.c11;obtain ⟨vf0,vf1,vf2,vf3,vf4,vf5,vf6,vf7,vf8,vf9,vf10⟩:=Hv.f11;have np:∀ {R},R < w1.heap.size→(p.addrs=[]∨∀ g o,pa=some ⟨g,o,none⟩→g≠R):=fun h=>A2.out.fp.imp id fun f g o e=>by have:=(f g o e).1; omega
  have na:∀ {R},R < w1.heap.size→(x.binds=[]∨∀ g o,ba=some ⟨g,o,none⟩→g≠R):=fun h=>A2.out.fa.imp id fun f g o e=>by have:=(f g o e).1; omega
  have nb:∀ {R},R < w1.heap.size→(x.sess=[]∨∀ g o,bo=some ⟨g,o,none⟩→g≠R):=fun h=>A2.out.fb.imp id fun f g o e=>by have:=(f g o e).1; omega
  unfold plC bbC p4C;go_wp2_with fail
  go_meet;exact ⟨pa,pc,p,ba,bo,ca,cb,x,q,now,rfl,hpd,hpc,hbd,hq,hnow,(slis_setT (slis_setT (slis_setT (slis_setT (slis_setT (slis_setT (slis_setT (slis_setT (slis_setT (slis_setT (slis_setT (slis_setT (slis_setT (slis_setT (slis_setT (slis_setT (slis_setT (slis_setT (slis_setT (slis_setT (slis_setT (slis_setT (slis_setT A2.out.pl (np (by omega)) 0 _) (np (by omega)) 1 _) (np (by omega)) 2 _) (np (by omega)) 3 _) (np (by omega)) 4 _) (np (by omega)) 5 _) (np (by omega)) 6 _) (np (by omega)) 7 _) (np (by omega)) 8 _) (np (by omega)) 9 _) (np (by omega)) 0 _) (np (by omega)) 1 _) (np (by omega)) 0 _) (np (by omega)) 1 _) (np (by omega)) 2 _) (np (by omega)) 3 _) (np (by omega)) 4 _) (np (by omega)) 5 _) (np (by omega)) 6 _) (np (by omega)) 7 _) (np (by omega)) 8 _) (np (by omega)) 9 _) (np (by omega)) 10 _),⟨(slis_setT (slis_setT (slis_setT (slis_setT (slis_setT (slis_setT (slis_setT (slis_setT (slis_setT (slis_setT (slis_setT (slis_setT (slis_setT (slis_setT (slis_setT (slis_setT (slis_setT (slis_setT (slis_setT (slis_setT (slis_setT (slis_setT (slis_setT A2.out.bb.bd (na (by omega)) 0 _) (na (by omega)) 1 _) (na (by omega)) 2 _) (na (by omega)) 3 _) (na (by omega)) 4 _) (na (by omega)) 5 _) (na (by omega)) 6 _) (na (by omega)) 7 _) (na (by omega)) 8 _) (na (by omega)) 9 _) (na (by omega)) 0 _) (na (by omega)) 1 _) (na (by omega)) 0 _) (na (by omega)) 1 _) (na (by omega)) 2 _) (na (by omega)) 3 _) (na (by omega)) 4 _) (na (by omega)) 5 _) (na (by omega)) 6 _) (na (by omega)) 7 _) (na (by omega)) 8 _) (na (by omega)) 9 _) (na (by omega)) 10 _),(slis_setT (slis_setT (slis_setT (slis_setT (slis_setT (slis_setT (slis_setT (slis_setT (slis_setT (slis_setT (slis_setT (slis_setT (slis_setT (slis_setT (slis_setT (slis_setT (slis_setT (slis_setT (slis_setT (slis_setT (slis_setT (slis_setT (slis_setT A2.out.bb.ss (nb (by omega)) 0 _) (nb (by omega)) 1 _) (nb (by omega)) 2 _) (nb (by omega)) 3 _) (nb (by omega)) 4 _) (nb (by omega)) 5 _) (nb (by omega)) 6 _) (nb (by omega)) 7 _) (nb (by omega)) 8 _) (nb (by omega)) 9 _) (nb (by omega)) 0 _) (nb (by omega)) 1 _) (nb (by omega)) 0 _) (nb (by omega)) 1 _) (nb (by omega)) 2 _) (nb (by omega)) 3 _) (nb (by omega)) 4 _) (nb (by omega)) 5 _) (nb (by omega)) 6 _) (nb (by omega)) 7 _) (nb (by omega)) 8 _) (nb (by omega)) 9 _) (nb (by omega)) 10 _)⟩,((((((((((((((((((((((((bel_grownT HB1.out hg (by omega) HB1.out.size).setCell (p:=⟨w.heap.size,0,none⟩) lR _).setCell (p:=⟨w.heap.size,1,none⟩) lR _).setCell (p:=⟨w.heap.size,2,none⟩) lR _).setCell (p:=⟨w.heap.size,3,none⟩) lR _).setCell (p:=⟨w.heap.size,4,none⟩) lR _).setCell (p:=⟨w.heap.size,5,none⟩) lR _).setCell (p:=⟨w.heap.size,6,none⟩) lR _).setCell (p:=⟨w.heap.size,7,none⟩) lR _).setCell (p:=⟨w.heap.size,8,none⟩) lR _).setCell (p:=⟨w.heap.size,9,none⟩) lR _).setCell (p:=⟨w.heap.size+1,0,none⟩) (Nat.le_succ _) _).setCell (p:=⟨w.heap.size+1,1,none⟩) (Nat.le_succ _) _).setCell (p:=⟨w.heap.size+1+1,0,none⟩) (Nat.le_add_right _ 2) _).setCell (p:=⟨w.heap.size+1+1,1,none⟩) (Nat.le_add_right _ 2) _).setCell (p:=⟨w.heap.size+1+1,2,none⟩) (Nat.le_add_right _ 2) _).setCell (p:=⟨w.heap.size+1+1,3,none⟩) (Nat.le_add_right _ 2) _).setCell (p:=⟨w.heap.size+1+1,4,none⟩) (Nat.le_add_right _ 2) _).setCell (p:=⟨w.heap.size+1+1,5,none⟩) (Nat.le_add_right _ 2) _).setCell (p:=⟨w.heap.size+1+1,6,none⟩) (Nat.le_add_right _ 2) _).setCell (p:=⟨w.heap.size+1+1,7,none⟩) (Nat.le_add_right _ 2) _).setCell (p:=⟨w.heap.size+1+1,8,none⟩) (Nat.le_add_right _ 2) _).setCell (p:=⟨w.heap.size+1+1,9,none⟩) (Nat.le_add_right _ 2) _).setCell (p:=⟨w.heap.size+1+1,10,none⟩) (Nat.le_add_right _ 2) _),(((((((((((((((((((((((Hz.set 0 _).set 1 _).set 2 _).set 3 _).set 4 _).set 5 _).set 6 _).set 7 _).set 8 _).set 9 _).setOther (by omega) _).setOther (by omega) _).setOther (by omega) _).setOther (by omega) _).setOther (by omega) _).setOther (by omega) _).setOther (by omega) _).setOther (by omega) _).setOther (by omega) _).setOther (by omega) _).setOther (by omega) _).setOther (by omega) _).setOther (by omega) _),(((((((((((((((((((((((Hu.setOther (by omega) _).setOther (by omega) _).setOther (by omega) _).setOther (by omega) _).setOther (by omega) _).setOther (by omega) _).setOther (by omega) _).setOther (by omega) _).setOther (by omega) _).setOther (by omega) _).set 0 _).set 1 _).setOther (by omega) _).setOther (by omega) _).setOther (by omega) _).setOther (by omega) _).setOther (by omega) _).setOther (by omega) _).setOther (by omega) _).setOther (by omega) _).setOther (by omega) _).setOther (by omega) _).setOther (by omega) _),(((((((((((((((((((((((Hv.setOther (by omega) _).setOther (by omega) _).setOther (by omega) _).setOther (by omega) _).setOther (by omega) _).setOther (by omega) _).setOther (by omega) _).setOther (by omega) _).setOther (by omega) _).setOther (by omega) _).setOther (by omega) _).setOther (by omega) _).set 0 _).set 1 _).set 2 _).set 3 _).set 4 _).set 5 _).set 6 _).set 7 _).set 8 _).set 9 _).set 10 _)⟩
 case rest =>
 obtain ⟨pa,pc,p,ba,bo,ca,cb,x,q,now,rfl,hpd,hpc,hbd,hq,hnow,h3,h4,h5,hz,hu,hv⟩:=hcut;have HF:Hid _:=And.intro hpd (And.intro hpc (And.intro hbd (And.intro hq (And.intro hnow (And.intro h3 (And.intro h4 h5))))));obtain ⟨z0,z1,z2,z3,z4,z5,z6,z7,z8,z9⟩:=hz.c10;obtain ⟨u0,u1⟩:=hu.c2;obtain ⟨v0,v1,v2,v3,v4,v5,v6,v7,v8,v9,v10⟩:=hv.c11;clear hz hu hv hpd hpc hbd hq hnow h3 h4 h5 O0 O1 O2 HBY HB0 HZ;go_wp2_with fail
 exact bodyPost_ret (v:=.tuple #[.agg (PlV pa pc p).toArray,.agg (BbV ba ca bo cb x).toArray,.agg (P4V q).toArray,iV now]) (by simp [results,Tryz.results18,go_sem,z0,z1,z2,z3,z4,z5,z6,z7,z8,z9,u0,u1,v0,v1,v2,v3,v4,v5,v6,v7,v8,v9,v10]) rfl ⟨pa,pc,p,ba,bo,ca,cb,x,q,now,rfl,HF.out⟩
structure No where
 bib:Bb
 four:P4
 six:P6
 code:Int
def noL (a b:Option Addr) (ca cb:Nat) (o:No):List Value:=[.slice a o.bib.binds.length ca,.slice b o.bib.sess.length cb,iV o.four.tos,iV o.four.id,.bool o.four.whole,.bool o.four.more,iV o.four.off,iV o.four.ttl,iV o.four.proto,.string o.four.src,.string o.four.dst,.string o.four.opts,.string o.four.data,iV o.six.cls,iV o.six.flow,iV o.six.next,iV o.six.hops,.string o.six.src,.string o.six.dst,.bool o.six.piece,.bool o.six.more,iV o.six.off,iV o.six.id,.string o.six.data,iV o.code]
def noC (a b:Option Addr) (ca cb:Nat) (o:No):Value:=.agg (noL a b ca cb o).toArray
def noE (c:Int):No:=⟨bbZ,p4Zero,p6Zero,c⟩
def natFt (p:Pl) (x:Bb) (q:P4) (now:Int):Int:=if (bibOk p x&&v4Ok q&&isTime now)=false then 1 else if (q.more||decide (q.off≠0))=true then 10 else 0
def flagV (proto:Int) (t:ByteArray):Int:=if proto=6 then bt t 13 else 0
def peerV (proto n:Int):Int:=if echoP proto=true then 0 else n
def protoN (p:Int):Int:=if p=58 then 1 else p
def goT (f:Fl) (peer t:ByteArray):Tc:=⟨protoN f.proto,true,f.src,f.sp,peer,peerV f.proto f.dp,flagV f.proto t⟩
def comeT (f:Fl) (t:ByteArray):Tc:=⟨f.proto,false,f.dst,f.dp,f.src,peerV f.proto f.sp,flagV f.proto t⟩
def kindF (f g:Fl):Fl:=if echoP f.proto=true then ⟨if g.src.size=16 then 58 else 1,g.src,g.dst,g.sp,g.sp⟩ else g
def fromF (f:Fl) (src:ByteArray) (port:Int) (dst:ByteArray):Fl:=kindF f ⟨f.proto,src,dst,port,f.dp⟩
def toF (f:Fl) (src dst:ByteArray) (port:Int):Fl:=kindF f ⟨f.proto,src,dst,if echoP f.proto=true then port else f.sp,port⟩
def setD (f g:Fl) (t:ByteArray):ByteArray:=if bareUdp f t=true then (if g.src.size=16 then ⟨#[]⟩ else setOut f g t) else putV (setOut f g t) (checkP f.proto) (twoV (newCheck f g t))
def natGoIn (p:Pl) (x:Bb) (q:P4) (now:Int):No :=
 if ofCode q.src.size q.proto q.data≠0 then noE (ofCode q.src.size q.proto q.data)
 else if (goV p x (goT (ofFl q.src q.dst q.proto q.data) q.dst q.data) now).code≠0 then noE (goV p x (goT (ofFl q.src q.dst q.proto q.data) q.dst q.data) now).code
 else ⟨(goV p x (goT (ofFl q.src q.dst q.proto q.data) q.dst q.data) now).bib,{ q with src:=(goV p x (goT (ofFl q.src q.dst q.proto q.data) q.dst q.data) now).bind.out,data:=setD (ofFl q.src q.dst q.proto q.data) (fromF (ofFl q.src q.dst q.proto q.data) (goV p x (goT (ofFl q.src q.dst q.proto q.data) q.dst q.data) now).bind.out (goV p x (goT (ofFl q.src q.dst q.proto q.data) q.dst q.data) now).bind.outPort q.dst) q.data },p6Zero,0⟩
def natGoV (p:Pl) (x:Bb) (q:P4) (now:Int):No:=if natFt p x q now≠0 then noE (natFt p x q now) else natGoIn p x q now
def natComeIn (p:Pl) (x:Bb) (q:P4) (now:Int):No :=
 if inL p.addrs q.dst=false then noE 6
 else if ofCode q.src.size q.proto q.data≠0 then noE (ofCode q.src.size q.proto q.data)
 else if (goV p x (comeT (ofFl q.src q.dst q.proto q.data) q.data) now).code≠0 then noE (goV p x (comeT (ofFl q.src q.dst q.proto q.data) q.data) now).code
 else if (goV p x (comeT (ofFl q.src q.dst q.proto q.data) q.data) now).bind.inn.size≠4 then noE 11
 else ⟨(goV p x (comeT (ofFl q.src q.dst q.proto q.data) q.data) now).bib,{ q with dst:=(goV p x (comeT (ofFl q.src q.dst q.proto q.data) q.data) now).bind.inn,data:=setD (ofFl q.src q.dst q.proto q.data) (toF (ofFl q.src q.dst q.proto q.data) q.src (goV p x (comeT (ofFl q.src q.dst q.proto q.data) q.data) now).bind.inn (goV p x (comeT (ofFl q.src q.dst q.proto q.data) q.data) now).bind.inPort) q.data },p6Zero,0⟩
def natComeV (p:Pl) (x:Bb) (q:P4) (now:Int):No:=if natFt p x q now≠0 then noE (natFt p x q now) else natComeIn p x q now
end Go.Proofs.YtdkepkaflielhaaGreatDoor
