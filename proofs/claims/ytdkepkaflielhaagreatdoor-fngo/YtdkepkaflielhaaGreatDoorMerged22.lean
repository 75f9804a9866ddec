import Derived.Test.YtdkepkaflielhaaGreatDoorMerged21
set_option linter.unusedVariables false
set_option linter.unusedSimpArgs false
set_option maxRecDepth 100000
set_option maxHeartbeats 8000000
namespace Go.Proofs.YtdkepkaflielhaaGreatDoor
open Go.RowKit Go.PlainAid
def FB(n:Nat)(ks:List (Nat × List Value)){α:Type}(xs:List α)(a:OA):Prop:=xs=[]∨∀g o,a=some ⟨g,o,none⟩→n≤g∧∀e∈ks,e.1≠g
theorem AX{α:Type}{en:α→List Value}{n:Nat}{w:World}{a:OA}{xs:List α}(h:bP en n w a xs):xs=[]∨∀g o,a=some ⟨g,o,none⟩→g < w.heap.size:=by
 rcases h with h|⟨b,off,rfl,hb,-⟩
 ·exact .inl h
 ·exact .inr fun g o e=>by injection e with e;injection e with e1 _;omega
theorem FB.push{n N:Nat}{ks:List (Nat × List Value)}{α:Type}{xs:List α}{a:OA}(h:FB n ks xs a)(hl:xs=[]∨∀g o,a=some ⟨g,o,none⟩→g < N)(l:List Value):FB n ((N,l)::ks) xs a:=by
 rcases h with h|h
 ·exact .inl h
 ·rcases hl with hl | hl
  ·exact .inl hl
  ·exact .inr fun g o e=>⟨(h g o e).1,fun e' he=>(TW.1 he).elim (fun x=>by rw[x];have:=hl g o e;show N≠g;omega) (fun x=>(h g o e).2 e' x)⟩
theorem FB.re{n:Nat}{k k':Nat × List Value}{ks:List (Nat × List Value)}{α:Type}{xs:List α}{a:OA}(h:FB n (k::ks) xs a)(e:k'.1=k.1):FB n (k'::ks) xs a :=
 h.imp id fun f g o x=>⟨(f g o x).1,fun e' he=>(TW.1 he).elim (fun y=>by rw[y,e];exact(f g o x).2 k cO) (fun y=>(f g o x).2 e' (.tail _ y))⟩
theorem FB.tail{n:Nat}{k:Nat × List Value}{ks:List (Nat × List Value)}{α:Type}{xs:List α}{a:OA}(h:FB n (k::ks) xs a):FB n ks xs a:=h.imp id fun f g o x=>⟨(f g o x).1,fun e' he=>(f g o x).2 e' (.tail _ he)⟩
theorem FB.ne{n:Nat}{ks:List (Nat × List Value)}{α:Type}{xs:List α}{a:OA}(h:FB n ks xs a){k:Nat × List Value}(hk:k∈ks):xs=[]∨∀g o,a=some ⟨g,o,none⟩→g≠k.1:=h.imp id fun f g o x=>((f g o x).2 k hk).symm
structure AS(w:World)(B:Nat)(sa:OA)(len cap:Nat)(size:Int)(ks:List (Nat × List Value))(pa:OA)(p:Pl)(a b:OA)(x:Bb)(wx:World):Prop where
 db:DB w B sa len cap size ks wx
 pl:bP bX 1 wx pa p.VA
 bb:dI wx a b x
 fp:FB w.heap.size ks p.VA pa
 fa:FB w.heap.size ks x.VC a
 fb:FB w.heap.size ks x.UZ b
section
variable {w wx wy:World} {B:Nat} {sa:OA} {len cap:Nat} {size:Int} {ks:List (Nat × List Value)} {pa:OA} {p:Pl} {a b:OA} {x:Bb}
theorem AS.src(h:AS w B sa len cap size ks pa p a b x wx){α:Type}{xs:List α}{c:OA}(hc:FB w.heap.size ks xs c):xs=[]∨∀g o,c=some ⟨g,o,none⟩→g≠B:=hc.imp id fun f g o e=>by have:=(f g o e).1;have:=h.db.dr.hB;omega
theorem AS.draw(h:AS w B sa len cap size ks pa p a b x wx)(hs:iT wy B sa len cap size)(hg:wx.grownBy wy (some B)):AS w B sa len cap size ks pa p a b x wy :=
 ⟨h.db.draw hs hg,h.pl.grown hg (h.src h.fp),⟨h.bb.bd.grown hg (h.src h.fa),h.bb.ss.grown hg (h.src h.fb)⟩,h.fp,h.fa,h.fb⟩
theorem AS.below(h:AS w B sa len cap size ks pa p a b x wx)(hb:Below wx.heap.size wx wy):AS w B sa len cap size ks pa p a b x wy:=⟨h.db.below hb,h.pl.below hb,h.bb.below hb,h.fp,h.fa,h.fb⟩
theorem AS.push(h:AS w B sa len cap size ks pa p a b x wx)(vs:List Value)(hv:0 < vs.length)(T:TypeId):AS w B sa len cap size ((wx.heap.size,vs)::ks) pa p a b x (wx.alloc (.cells vs.toArray T)) :=
 have hb:Below wx.heap.size wx (wx.alloc (.cells vs.toArray T)):=bR.alloc lR _;⟨h.db.push vs hv T,h.pl.below hb,h.bb.below hb,h.fp.push (AX h.pl) _,h.fa.push (AX h.bb.bd) _,h.fb.push (AX h.bb.ss) _⟩
theorem AS.set{X:Nat}{vs vs':List Value}(h:AS w B sa len cap size ((X,vs)::ks) pa p a b x wx)(j:Nat)(v:Value)(hv:vs.set j v=vs')(hne:∀e∈ks,e.1≠X):AS w B sa len cap size ((X,vs')::ks) pa p a b x (wx.setCell ⟨X,j,none⟩ v) :=
 ⟨h.db.set j v hv hne,aI h.pl (h.fp.ne cO) j v,⟨aI h.bb.bd (h.fa.ne cO) j v,aI h.bb.ss (h.fb.ne cO) j v⟩,h.fp.re rfl,h.fa.re rfl,h.fb.re rfl⟩
theorem AS.tail{k:Nat × List Value}(h:AS w B sa len cap size (k::ks) pa p a b x wx):AS w B sa len cap size ks pa p a b x wx:=⟨h.db.tail,h.pl,h.bb,h.fp.tail,h.fa.tail,h.fb.tail⟩
theorem AS.perm{ks':List (Nat × List Value)}(h:AS w B sa len cap size ks pa p a b x wx)(hs:∀e∈ks',e∈ks):AS w B sa len cap size ks' pa p a b x wx :=
 ⟨h.db.sub hs,h.pl,h.bb,h.fp.imp id fun f g o e=>⟨(f g o e).1,fun y hy=>(f g o e).2 y (hs y hy)⟩,h.fa.imp id fun f g o e=>⟨(f g o e).1,fun y hy=>(f g o e).2 y (hs y hy)⟩,h.fb.imp id fun f g o e=>⟨(f g o e).1,fun y hy=>(f g o e).2 y (hs y hy)⟩⟩
theorem AS.rot{e f g:Nat × List Value}(h:AS w B sa len cap size (e::f::g::ks) pa p a b x wx):AS w B sa len cap size (g::e::f::ks) pa p a b x wx:=h.perm fun y hy=>by simp at hy ⊢;rcases hy with h|h|h|h<;>simp[h]
end
abbrev qP(pa:OA)(pc:Nat)(p:Pl):List Value:=(bM pa pc p)
abbrev rW(ba bo:OA)(ca cb:Nat)(x:Bb):List Value:=(bF ba ca bo cb x)
abbrev RL:List Value:=jU
abbrev RJ:List Value:=[.slice none 0 0,.slice none 0 0]
abbrev K3(w:World):List (Nat × List Value):=[(w.heap.size,RL),(w.heap.size+1,RJ),(w.heap.size+1+1,kX pS)]
def PO(w:World)(B:Nat)(sa:OA)(len cap:Nat)(size:Int)(e:Ending)(w':World):Prop:=∃pa pc p ba bo ca cb x q now,e=.returned (.tuple #[jQ pa pc p,iQ ba bo ca cb x,mD q,iV now])∧pH p∧p.VA.length≤pc∧nM x∧tE q∧gO now∧AS w B sa len cap size [] pa p ba bo x w'
theorem CL(ins:Bool)(B:Nat)(sa:OA)(len cap:Nat)(size:Int)(w:World)(hl:len≤1048576)(hs:iT w B sa len cap size) :
  Calls Tryz.prog 26 #[.pointer (some ⟨B,0,none⟩),.bool ins] w (PO w B sa len cap size):=by
 have hBW:B < w.heap.size:=(Dr.start hs).hB;have e0:aA ((aW (aW w jU 27) [.slice none 0 0,.slice none 0 0] 31).alloc (.cells (fM 0 0 false false 0 0 0 ⟨#[]⟩ ⟨#[]⟩ ⟨#[]⟩ ⟨#[]⟩).toArray 33)) (w.heap.size) jU:=by
  have h:=aA.new w jU 27;try simp only[TQ]at h
  exact((h.alloc _).alloc _)
 have e1:aA ((aW (aW w jU 27) [.slice none 0 0,.slice none 0 0] 31).alloc (.cells (fM 0 0 false false 0 0 0 ⟨#[]⟩ ⟨#[]⟩ ⟨#[]⟩ ⟨#[]⟩).toArray 33)) (w.heap.size+1) [.slice none 0 0,.slice none 0 0]:=by
  have h:=aA.new (w.alloc (.cells jU.toArray 27)) [.slice none 0 0,.slice none 0 0] 31;try simp only[TQ]at h
  exact(h.alloc _)
 have e2:aA ((aW (aW w jU 27) [.slice none 0 0,.slice none 0 0] 31).alloc (.cells (fM 0 0 false false 0 0 0 ⟨#[]⟩ ⟨#[]⟩ ⟨#[]⟩ ⟨#[]⟩).toArray 33)) (w.heap.size+1+1) (fM 0 0 false false 0 0 0 ⟨#[]⟩ ⟨#[]⟩ ⟨#[]⟩ ⟨#[]⟩):=by
  have h:=aA.new ((aW w jU 27).alloc (.cells #[.slice none 0 0,.slice none 0 0] 31)) (fM 0 0 false false 0 0 0 ⟨#[]⟩ ⟨#[]⟩ ⟨#[]⟩ ⟨#[]⟩) 33;try simp only[TQ]at h
  exact h
 have S0:Hid (DB w B sa len cap size (K3 w) ((aW (aW w jU 27) [.slice none 0 0,.slice none 0 0] 31).alloc (.cells (fM 0 0 false false 0 0 0 ⟨#[]⟩ ⟨#[]⟩ ⟨#[]⟩ ⟨#[]⟩).toArray 33))):=by
  refine⟨((((Dr.start hs).alloc _).alloc _).alloc _),fun e he=>?_,fun e he=>?_,fun e he=>?_⟩
  ·simp only[TW,TV,or_false]at he;rcases he with rfl|rfl|rfl
   ·exact e0
   ·exact e1
   ·exact e2
  ·simp only[TW,TV,or_false]at he;rcases he with rfl|rfl|rfl<;>simp
  ·simp only[TW,TV,or_false]at he;rcases he with rfl|rfl|rfl<;>simp<;>omega
 have hun:undef=Value.tuple #[]:=rfl;clear e0 e1 e2 hs;go_enter Tryz.func26,Tryz.ntmps26
 go_upto_region 1 with fail
 generalize World.alloc _ _=W0 at *;go_wp2_with fail
 refine(CM B sa len cap size W0 hl S0.out.dr.src).mono ?_;rintro e w2 ⟨pa,pc,p,ba,bo,ca,cb,x,now,rfl,hpd,hpc,hbd,hn0,hn1,hpl,hbb,fp,fa,fb,hs,hg⟩;have HPD:Hid (pH p):=hpd;have HBD:Hid (nM x):=hbd;have hlt0:∀e∈K3 w,e.1 < W0.heap.size:=S0.out.lts;have hle0:w.heap.size≤W0.heap.size:=S0.out.dr.le;have A0:Hid (AS w B sa len cap size (K3 w) pa p ba bo x w2):=⟨S0.out.draw hs hg,hpl,hbb,.inr fun g o e=>⟨by have:=fp g o e;omega,fun y hy=>by have:=fp g o e;have:=hlt0 y hy;omega⟩,fa.imp id fun f g o e=>⟨by have:=f g o e;omega,fun y hy=>by have:=f g o e;have:=hlt0 y hy;omega⟩,fb.imp id fun f g o e=>⟨by have:=f g o e;omega,fun y hy=>by have:=f g o e;have:=hlt0 y hy;omega⟩⟩;clear hpd hbd hpl hbb fp fa fb hs hg hlt0 hle0 S0;unfold jQ iQ;go_upto_region 2 with fail
 have A1:Hid (AS w B sa len cap size ((w2.heap.size+1,rW ba bo ca cb x)::(w2.heap.size,qP pa pc p)::K3 w) pa p ba bo x ((aW w2 (bM pa pc p) 27).alloc (.cells (bF ba ca bo cb x).toArray 31))):=by
  have h:=(A0.out.push (bM pa pc p) (by simp) 27).push (bF ba ca bo cb x) (by simp) 31;rw[TQ]at h;exact h
 have hb2:∀e∈K3 w,e.1 < w2.heap.size:=A0.out.db.lts;generalize World.alloc _ _=W3 at *;generalize w2.heap.size=Pb at *;obtain⟨Xb,hXb⟩: ∃y,y=Pb+1:=⟨_,rfl⟩;rw[←hXb]at A1;try rw[←hXb]
 have hPX:Pb < Xb:=by omega
 have A3:Hid (AS w B sa len cap size ((Xb,rW ba bo ca cb x)::(Pb,qP pa pc p)::K3 w) pa p ba bo x W3):=A1.out;have HLT:Hid (∀e∈K3 w,e.1 < Pb):=hb2;clear A0 A1 hb2 hXb;have HHb:aA W3 (Xb) (rW ba bo ca cb x):=A3.out.db.at cO;obtain⟨b0,b1⟩:=HHb.c2;clear HHb;have HHp:aA W3 (Pb) (qP pa pc p):=A3.out.db.at eB;obtain⟨p0,p1,p2,p3,p4,p5,p6,p7,p8,p9⟩:=HHp.c10;clear HHp;go_wp2_with fail
 refine(lC B sa len cap size pa pc p ba bo ca cb x _ hl HPD.out HBD.out A3.out.pl A3.out.bb (fun g o e=>((A3.out.src A3.out.fp).resolve_left (fun h=>by have:=HPD.out.1;rw[h]at this;simp at this)) g o e) (A3.out.src A3.out.fa) (A3.out.src A3.out.fb) A3.out.db.dr.src).mono ?_;rintro e w4 ⟨t0,rfl,ht,hs,hg⟩;have HTt0:Hid (pB t0):=ht;have A4:Hid (AS w B sa len cap size ((Xb,rW ba bo ca cb x)::(Pb,qP pa pc p)::K3 w) pa p ba bo x w4):=A3.out.draw hs hg;clear hs hg ht;clear A3 b0 b1 p0 p1 p2 p3 p4 p5 p6 p7 p8 p9;unfold qF;go_upto_region 3 with fail
 have hX4:Xb < w4.heap.size:=A4.out.db.lts (_,_) cO;have A5:Hid _:=A4.out.push (FF t0) (by simp) 89;generalize (w4.alloc (.cells (FF t0).toArray 89))=W5 at *;generalize w4.heap.size=Tb at *;have A6:Hid (AS w B sa len cap size ((Tb,tB t0)::(Xb,rW ba bo ca cb x)::(Pb,qP pa pc p)::K3 w) pa p ba bo x W5):=A5.out;clear A4 A5;have HNT:Hid (∀e∈((Xb,rW ba bo ca cb x)::(Pb,qP pa pc p)::K3 w),e.1≠Tb):=fun e he=>by
  rcases TW.1 he with h|he
  ·rw[h];show Xb≠Tb;omega
  rcases TW.1 he with h|he
  ·rw[h];show Pb≠Tb;omega
  ·have:=HLT.out e he;omega
 go_wp2_with fail
 go_loopw [12] (fun iv wr=>∃k:Nat,k≤4∧iv=iV k∧∃t,pB t∧AS w B sa len cap size ((Tb,tB t)::(Xb,rW ba bo ca cb x)::(Pb,qP pa pc p)::K3 w) pa p ba bo x wr) (fun iv _=>4-(intOf iv).toNat)
 case atStart=>exact⟨0,by omega,rfl,t0,HTt0.out,A6.out⟩
 case round=>
  obtain⟨k,hk,rfl,t,ht,hA⟩:=hrel;have HT:Hid (pB t):=ht;have A7:Hid (AS w B sa len cap size ((Tb,tB t)::(Xb,rW ba bo ca cb x)::(Pb,qP pa pc p)::K3 w) pa p ba bo x wr):=hA;clear ht hA A6 HTt0;generalize wr=W7 at *;have HHy:aA W7 (Tb) (tB t):=A7.out.db.at cO;have y1:=HHy.cell (j:=1) rfl;clear HHy;obtain⟨ti,hti⟩: ∃b,b=t.UY:=⟨_,rfl⟩;rw[←hti]at y1;clear hti;go_upto_region 4 with fail
  go_cut [31] (fun v wx=>(∃cc,v=.bool cc∧(cc=true→k < 4))∧AS w B sa len cap size ((Tb,tB t)::(Xb,rW ba bo ca cb x)::(Pb,qP pa pc p)::K3 w) pa p ba bo x wx)
  case first=>
   by_cases hk4:k < 4
   case pos=>
    have hkI:(k:Int) < 4:=by omega
    by_cases hin:ti=ins
    case neg=>
     have hb:(ti != ins)=true:=by simp[hin]
     clear hin;go_wp2_with fail
     go_meet;exact⟨⟨true,by first | rfl | exact congrArg Value.bool hb,fun _=>hk4⟩,A7.out⟩
    have hb:(ti != ins)=false:=by simp[hin]
    clear hin;go_wp2_with fail
    go_meet;exact⟨⟨false,by first | rfl | exact congrArg Value.bool hb,fun h=>by cases h⟩,A7.out⟩
   have hkI:¬(k:Int) < 4:=by omega
   go_wp2_with fail
   go_meet;exact⟨⟨false,rfl,fun h=>by cases h⟩,A7.out⟩
  case rest=>
  obtain⟨⟨cc,rfl,hcc⟩,hA⟩:=hcut;have A7:Hid (AS w B sa len cap size ((Tb,tB t)::(Xb,rW ba bo ca cb x)::(Pb,qP pa pc p)::K3 w) pa p ba bo x wc):=hA;clear hA y1;generalize wc=W7 at *
  cases cc with
  | true=>
   have hk4:k < 4:=hcc rfl;have HHb:aA W7 (Xb) (rW ba bo ca cb x):=A7.out.db.at eB;obtain⟨b0,b1⟩:=HHb.c2;clear HHb;have HHp:aA W7 (Pb) (qP pa pc p):=A7.out.db.at eX;obtain⟨p0,p1,p2,p3,p4,p5,p6,p7,p8,p9⟩:=HHp.c10;clear HHp;go_wp2_with fail
   refine(lC B sa len cap size pa pc p ba bo ca cb x _ hl HPD.out HBD.out A7.out.pl A7.out.bb (fun g o e=>((A7.out.src A7.out.fp).resolve_left (fun h=>by have:=HPD.out.1;rw[h]at this;simp at this)) g o e) (A7.out.src A7.out.fa) (A7.out.src A7.out.fb) A7.out.db.dr.src).mono ?_;rintro e w8 ⟨t1,rfl,ht,hs,hg⟩;have HTt1:Hid (pB t1):=ht;have A8:Hid (AS w B sa len cap size ((Tb,tB t)::(Xb,rW ba bo ca cb x)::(Pb,qP pa pc p)::K3 w) pa p ba bo x w8):=A7.out.draw hs hg;clear hs hg ht;clear A7 b0 b1 p0 p1 p2 p3 p4 p5 p6 p7 p8 p9;unfold qF;have HHy:aA w8 (Tb) (tB t):=A8.out.db.at cO;obtain⟨y0,y1,y2,y3,y4,y5,y6⟩:=HHy.c7;clear HHy;have HHy:aA w8 Tb (tB t):=A8.out.db.at cO;obtain⟨yf0,yf1,yf2,yf3,yf4,yf5,yf6⟩:=HHy.f7;clear HHy;have A9:Hid _:=(((((((A8.out.set 0 (iV t1.UU) rfl HNT.out).set 1 (.bool t1.UY) rfl HNT.out).set 2 (.string t1.addr) rfl HNT.out).set 3 (iV t1.port) rfl HNT.out).set 4 (.string t1.peer) rfl HNT.out).set 5 (iV t1.UV) rfl HNT.out).set 6 (iV t1.VB) rfl HNT.out);clear A8;go_wp2_with fail
   go_roundw
   case rel=>
    first | exact⟨k+1,by omega,by go_num,t1,HTt1.out,A9.out⟩ | ((repeat apply Exists.intro);exact⟨⟨k+1,by omega,by go_num,t1,HTt1.out,A9.out⟩,rfl⟩)
   case measure=>simp[intOf];omega
  | false=>
   go_upto_region 7 with fail
   have HHy:aA W7 (Tb) (tB t):=A7.out.db.at cO;obtain⟨y0,y1,y2,y3,y4,y5,y6⟩:=HHy.c7;clear HHy;go_wp2_with fail
   refine(zQ t B sa len cap size _ hl HT.out A7.out.db.dr.src).mono ?_;rintro e w8 ⟨⟨q,rfl,hq⟩,hs,hg⟩;have HQ:Hid (tE q):=hq;have A8:Hid (AS w B sa len cap size ((Xb,rW ba bo ca cb x)::(Pb,qP pa pc p)::K3 w) pa p ba bo x w8):=(A7.out.draw hs hg).tail;clear hs hg hq A7 HT y0 y1 y2 y3 y4 y5 y6;unfold mD;go_upto_region 8 with fail
   have hX8:Xb < w8.heap.size:=A8.out.db.lts (_,_) cO;have A9:Hid _:=A8.out.push (dY q) (by simp) 33;generalize (w8.alloc (.cells (dY q).toArray 33))=W9 at *;generalize w8.heap.size=Qb at *;have A10:Hid (AS w B sa len cap size ((Qb,kX q)::(Xb,rW ba bo ca cb x)::(Pb,qP pa pc p)::K3 w) pa p ba bo x W9):=A9.out;clear A8 A9;go_wp2_with fail
   refine(bO 25 B sa len cap size _ (by omega) hl A10.out.db.dr.src).mono ?_;rintro e w10 ⟨c,rfl,hs,hg⟩;have A11:Hid (AS w B sa len cap size ((Qb,kX q)::(Xb,rW ba bo ca cb x)::(Pb,qP pa pc p)::K3 w) pa p ba bo x w10):=A10.out.draw hs hg;clear hs hg A10;have d0:¬w.heap.size=Pb:=by have:=HLT.out (_,_) cO;simp at this;omega
   have d1:¬w.heap.size+1=Pb:=by have:=HLT.out (_,_) eB;simp at this;omega
   have d2:¬w.heap.size+1+1=Pb:=by have:=HLT.out (_,_) eX;simp at this;omega
   have gd0Pb:¬w.heap.size=Pb:=by have:=HLT.out (_,_) cO;simp at this;omega
   have kd0Pb:¬Pb=w.heap.size:=fun e=>gd0Pb e.symm
   have gd0Xb:¬w.heap.size=Xb:=by have:=HLT.out (_,_) cO;simp at this;omega
   have kd0Xb:¬Xb=w.heap.size:=fun e=>gd0Xb e.symm
   have gd0Qb:¬w.heap.size=Qb:=by have:=HLT.out (_,_) cO;simp at this;omega
   have kd0Qb:¬Qb=w.heap.size:=fun e=>gd0Qb e.symm
   have gd1Pb:¬w.heap.size+1=Pb:=by have:=HLT.out (_,_) eB;simp at this;omega
   have kd1Pb:¬Pb=w.heap.size+1:=fun e=>gd1Pb e.symm
   have gd1Xb:¬w.heap.size+1=Xb:=by have:=HLT.out (_,_) eB;simp at this;omega
   have kd1Xb:¬Xb=w.heap.size+1:=fun e=>gd1Xb e.symm
   have gd1Qb:¬w.heap.size+1=Qb:=by have:=HLT.out (_,_) eB;simp at this;omega
   have kd1Qb:¬Qb=w.heap.size+1:=fun e=>gd1Qb e.symm
   have gd2Pb:¬w.heap.size+1+1=Pb:=by have:=HLT.out (_,_) eX;simp at this;omega
   have kd2Pb:¬Pb=w.heap.size+1+1:=fun e=>gd2Pb e.symm
   have gd2Xb:¬w.heap.size+1+1=Xb:=by have:=HLT.out (_,_) eX;simp at this;omega
   have kd2Xb:¬Xb=w.heap.size+1+1:=fun e=>gd2Xb e.symm
   have gd2Qb:¬w.heap.size+1+1=Qb:=by have:=HLT.out (_,_) eX;simp at this;omega
   have kd2Qb:¬Qb=w.heap.size+1+1:=fun e=>gd2Qb e.symm
   have HN3:∀e∈([(w.heap.size+1,[.slice none 0 0,.slice none 0 0]),(w.heap.size+1+1,(fM 0 0 false false 0 0 0 ⟨#[]⟩ ⟨#[]⟩ ⟨#[]⟩ ⟨#[]⟩))]:List (Nat × List Value)),e.1≠w.heap.size:=fun e he=>by simp only[TW,TV,or_false]at he;rcases he with rfl|rfl<;>simp<;>omega
   have HN4:∀l,∀e∈([(w.heap.size+1+1,(fM 0 0 false false 0 0 0 ⟨#[]⟩ ⟨#[]⟩ ⟨#[]⟩ ⟨#[]⟩)),(w.heap.size,l)]:List (Nat × List Value)),e.1≠w.heap.size+1:=fun l e he=>by simp only[TW,TV,or_false]at he;rcases he with rfl|rfl<;>simp
   have HN5:∀l m,∀e∈([(w.heap.size,l),(w.heap.size+1,m)]:List (Nat × List Value)),e.1≠w.heap.size+1+1:=fun l m e he=>by simp only[TW,TV,or_false]at he;rcases he with rfl|rfl<;>simp<;>omega
   cases c with
   | true=>
    go_upto_region 9 with fail
    go_cut [7] (fun v wx=>∃m,v=iV m∧gO m∧AS w B sa len cap size [(w.heap.size+1+1,kX q),(w.heap.size,qP pa pc p),(w.heap.size+1,rW ba bo ca cb x)] pa p ba bo x wx)
    case first=>
     have HHp:aA w10 (Pb) (qP pa pc p):=A11.out.db.at eX;obtain⟨p0,p1,p2,p3,p4,p5,p6,p7,p8,p9⟩:=HHp.c10;clear HHp;have HHb:aA w10 (Xb) (rW ba bo ca cb x):=A11.out.db.at eB;obtain⟨b0,b1⟩:=HHb.c2;clear HHb;have HHq:aA w10 (Qb) (kX q):=A11.out.db.at cO;obtain⟨q0,q1,q2,q3,q4,q5,q6,q7,q8,q9,q10⟩:=HHq.c11;clear HHq;have HHz:aA w10 (w.heap.size) (RL):=A11.out.db.at iR;obtain⟨z0,z1,z2,z3,z4,z5,z6,z7,z8,z9⟩:=HHz.c10;obtain⟨zf0,zf1,zf2,zf3,zf4,zf5,zf6,zf7,zf8,zf9⟩:=HHz.f10;clear HHz;have HHu:aA w10 (w.heap.size+1) (RJ):=A11.out.db.at lX;obtain⟨u0,u1⟩:=HHu.c2;obtain⟨uf0,uf1⟩:=HHu.f2;clear HHu;have HHv:aA w10 (w.heap.size+1+1) (kX pS):=A11.out.db.at EX;obtain⟨v0,v1,v2,v3,v4,v5,v6,v7,v8,v9,v10⟩:=HHv.c11;obtain⟨vf0,vf1,vf2,vf3,vf4,vf5,vf6,vf7,vf8,vf9,vf10⟩:=HHv.f11;clear HHv;go_region_held (fun wy=>wy.cell? ⟨Pb,0,none⟩=some (.slice pa p.VA.length pc)∧wy.cell? ⟨Pb,1,none⟩=some (iV p.low)∧wy.cell? ⟨Pb,2,none⟩=some (iV p.high)∧wy.cell? ⟨Pb,3,none⟩=some (iV p.most)∧wy.cell? ⟨Pb,4,none⟩=some (iV p.filter)∧wy.cell? ⟨Pb,5,none⟩=some (iV p.lv.udp)∧wy.cell? ⟨Pb,6,none⟩=some (iV p.lv.echo)∧wy.cell? ⟨Pb,7,none⟩=some (iV p.lv.opening)∧wy.cell? ⟨Pb,8,none⟩=some (iV p.lv.opn)∧wy.cell? ⟨Pb,9,none⟩=some (iV p.lv.closing)∧wy.cell? ⟨Xb,0,none⟩=some (.slice ba x.VC.length ca)∧wy.cell? ⟨Xb,1,none⟩=some (.slice bo x.UZ.length cb)∧wy.cell? ⟨Qb,0,none⟩=some (iV q.tos)∧wy.cell? ⟨Qb,1,none⟩=some (iV q.id)∧wy.cell? ⟨Qb,2,none⟩=some (.bool q.whole)∧wy.cell? ⟨Qb,3,none⟩=some (.bool q.more)∧wy.cell? ⟨Qb,4,none⟩=some (iV q.off)∧wy.cell? ⟨Qb,5,none⟩=some (iV q.ttl)∧wy.cell? ⟨Qb,6,none⟩=some (iV q.UU)∧wy.cell? ⟨Qb,7,none⟩=some (.string q.src)∧wy.cell? ⟨Qb,8,none⟩=some (.string q.dst)∧wy.cell? ⟨Qb,9,none⟩=some (.string q.opts)∧wy.cell? ⟨Qb,10,none⟩=some (.string q.data)) (go_keep) (first | (go_at_call 56;refine(sC B sa len cap size _ hl (A11.out.below bR.drew).db.dr.src).mono ?_;rintro e w12 ⟨r,rfl,hr,hs,hg⟩;have A12:Hid (AS w B sa len cap size ((Qb,kX q)::(Xb,rW ba bo ca cb x)::(Pb,qP pa pc p)::K3 w) pa p ba bo x w12):=(A11.out.below bR.drew).draw hs hg;clear hs hg;have HHpp:aA w12 (Pb) (qP pa pc p):=A12.out.db.at eX;obtain⟨pp0,pp1,pp2,pp3,pp4,pp5,pp6,pp7,pp8,pp9⟩:=HHpp.c10;clear HHpp;have HHbb:aA w12 (Xb) (rW ba bo ca cb x):=A12.out.db.at eB;obtain⟨bb0,bb1⟩:=HHbb.c2;clear HHbb;have HHqq:aA w12 (Qb) (kX q):=A12.out.db.at cO;obtain⟨qq0,qq1,qq2,qq3,qq4,qq5,qq6,qq7,qq8,qq9,qq10⟩:=HHqq.c11;clear HHqq;have HHzz:aA w12 (w.heap.size) (RL):=A12.out.db.at iR;obtain⟨zz0,zz1,zz2,zz3,zz4,zz5,zz6,zz7,zz8,zz9⟩:=HHzz.c10;obtain⟨zzf0,zzf1,zzf2,zzf3,zzf4,zzf5,zzf6,zzf7,zzf8,zzf9⟩:=HHzz.f10;clear HHzz;have HHuu:aA w12 (w.heap.size+1) (RJ):=A12.out.db.at lX;obtain⟨uu0,uu1⟩:=HHuu.c2;obtain⟨uuf0,uuf1⟩:=HHuu.f2;clear HHuu;have HHvv:aA w12 (w.heap.size+1+1) (kX pS):=A12.out.db.at EX;obtain⟨vv0,vv1,vv2,vv3,vv4,vv5,vv6,vv7,vv8,vv9,vv10⟩:=HHvv.c11;obtain⟨vvf0,vvf1,vvf2,vvf3,vvf4,vvf5,vvf6,vvf7,vvf8,vvf9,vvf10⟩:=HHvv.f11;clear HHvv;clear p0 p1 p2 p3 p4 p5 p6 p7 p8 p9 b0 b1 q0 q1 q2 q3 q4 q5 q6 q7 q8 q9 q10 z0 zf0 z1 zf1 z2 zf2 z3 zf3 z4 zf4 z5 zf5 z6 zf6 z7 zf7 z8 zf8 z9 zf9 u0 uf0 u1 uf1 v0 vf0 v1 vf1 v2 vf2 v3 vf3 v4 vf4 v5 vf5 v6 vf6 v7 vf7 v8 vf8 v9 vf9 v10 vf10))
     all_goals go_wp2_with fail
     all_goals go_meet
     all_goals exact⟨r,by first | rfl | (congr 1;rw[IntKind.wrap_i64];omega),(by first | exact hr | (have:=hr;unfold oZ at this;unfold gO;omega)),((((((((((((((((((((((((((A12.out.tail.tail.tail).set 0 (.slice pa p.VA.length pc) rfl HN3).set 1 (iV p.low) rfl HN3).set 2 (iV p.high) rfl HN3).set 3 (iV p.most) rfl HN3).set 4 (iV p.filter) rfl HN3).set 5 (iV p.lv.udp) rfl HN3).set 6 (iV p.lv.echo) rfl HN3).set 7 (iV p.lv.opening) rfl HN3).set 8 (iV p.lv.opn) rfl HN3).set 9 (iV p.lv.closing) rfl HN3).rot.rot).set 0 (.slice ba x.VC.length ca) rfl (HN4 _)).set 1 (.slice bo x.UZ.length cb) rfl (HN4 _)).rot.rot).set 0 (iV q.tos) rfl (HN5 _ _)).set 1 (iV q.id) rfl (HN5 _ _)).set 2 (.bool q.whole) rfl (HN5 _ _)).set 3 (.bool q.more) rfl (HN5 _ _)).set 4 (iV q.off) rfl (HN5 _ _)).set 5 (iV q.ttl) rfl (HN5 _ _)).set 6 (iV q.UU) rfl (HN5 _ _)).set 7 (.string q.src) rfl (HN5 _ _)).set 8 (.string q.dst) rfl (HN5 _ _)).set 9 (.string q.opts) rfl (HN5 _ _)).set 10 (.string q.data) rfl (HN5 _ _))⟩
    case rest=>
    obtain⟨m,rfl,hm,hA⟩:=hcut;have HM:Hid _:=hm;have A14:Hid (AS w B sa len cap size [(w.heap.size+1+1,kX q),(w.heap.size,qP pa pc p),(w.heap.size+1,rW ba bo ca cb x)] pa p ba bo x wc):=hA;clear hm hA A11;generalize wc=W14 at *;have HHv:aA W14 (w.heap.size+1+1) (kX q):=A14.out.db.at cO;obtain⟨v0,v1,v2,v3,v4,v5,v6,v7,v8,v9,v10⟩:=HHv.c11;have HHz:aA W14 (w.heap.size) (qP pa pc p):=A14.out.db.at eB;obtain⟨z0,z1,z2,z3,z4,z5,z6,z7,z8,z9⟩:=HHz.c10;have HHu:aA W14 (w.heap.size+1) (rW ba bo ca cb x):=A14.out.db.at eX;obtain⟨u0,u1⟩:=HHu.c2;clear HHv HHz HHu;go_wp2_with fail
    exact UQ (v:=.tuple #[.agg (bM pa pc p).toArray,.agg (bF ba ca bo cb x).toArray,.agg (dY q).toArray,iV m]) (by simp[results,Tryz.results26,go_sem,z0,z1,z2,z3,z4,z5,z6,z7,z8,z9,u0,u1,v0,v1,v2,v3,v4,v5,v6,v7,v8,v9,v10]) rfl ⟨pa,pc,p,ba,bo,ca,cb,x,q,m,rfl,HPD.out,hpc,HBD.out,HQ.out,HM.out,A14.out.tail.tail.tail⟩
   | false=>
    go_upto_region 10 with fail
    go_cut [7] (fun v wx=>∃m,v=iV m∧gO m∧AS w B sa len cap size [(w.heap.size+1+1,kX q),(w.heap.size,qP pa pc p),(w.heap.size+1,rW ba bo ca cb x)] pa p ba bo x wx)
    case first=>
     have HHp:aA w10 (Pb) (qP pa pc p):=A11.out.db.at eX;obtain⟨p0,p1,p2,p3,p4,p5,p6,p7,p8,p9⟩:=HHp.c10;clear HHp;have HHb:aA w10 (Xb) (rW ba bo ca cb x):=A11.out.db.at eB;obtain⟨b0,b1⟩:=HHb.c2;clear HHb;have HHq:aA w10 (Qb) (kX q):=A11.out.db.at cO;obtain⟨q0,q1,q2,q3,q4,q5,q6,q7,q8,q9,q10⟩:=HHq.c11;clear HHq;have HHz:aA w10 (w.heap.size) (RL):=A11.out.db.at iR;obtain⟨z0,z1,z2,z3,z4,z5,z6,z7,z8,z9⟩:=HHz.c10;obtain⟨zf0,zf1,zf2,zf3,zf4,zf5,zf6,zf7,zf8,zf9⟩:=HHz.f10;clear HHz;have HHu:aA w10 (w.heap.size+1) (RJ):=A11.out.db.at lX;obtain⟨u0,u1⟩:=HHu.c2;obtain⟨uf0,uf1⟩:=HHu.f2;clear HHu;have HHv:aA w10 (w.heap.size+1+1) (kX pS):=A11.out.db.at EX;obtain⟨v0,v1,v2,v3,v4,v5,v6,v7,v8,v9,v10⟩:=HHv.c11;obtain⟨vf0,vf1,vf2,vf3,vf4,vf5,vf6,vf7,vf8,vf9,vf10⟩:=HHv.f11;clear HHv;go_region_held (fun wy=>wy.cell? ⟨Pb,0,none⟩=some (.slice pa p.VA.length pc)∧wy.cell? ⟨Pb,1,none⟩=some (iV p.low)∧wy.cell? ⟨Pb,2,none⟩=some (iV p.high)∧wy.cell? ⟨Pb,3,none⟩=some (iV p.most)∧wy.cell? ⟨Pb,4,none⟩=some (iV p.filter)∧wy.cell? ⟨Pb,5,none⟩=some (iV p.lv.udp)∧wy.cell? ⟨Pb,6,none⟩=some (iV p.lv.echo)∧wy.cell? ⟨Pb,7,none⟩=some (iV p.lv.opening)∧wy.cell? ⟨Pb,8,none⟩=some (iV p.lv.opn)∧wy.cell? ⟨Pb,9,none⟩=some (iV p.lv.closing)∧wy.cell? ⟨Xb,0,none⟩=some (.slice ba x.VC.length ca)∧wy.cell? ⟨Xb,1,none⟩=some (.slice bo x.UZ.length cb)∧wy.cell? ⟨Qb,0,none⟩=some (iV q.tos)∧wy.cell? ⟨Qb,1,none⟩=some (iV q.id)∧wy.cell? ⟨Qb,2,none⟩=some (.bool q.whole)∧wy.cell? ⟨Qb,3,none⟩=some (.bool q.more)∧wy.cell? ⟨Qb,4,none⟩=some (iV q.off)∧wy.cell? ⟨Qb,5,none⟩=some (iV q.ttl)∧wy.cell? ⟨Qb,6,none⟩=some (iV q.UU)∧wy.cell? ⟨Qb,7,none⟩=some (.string q.src)∧wy.cell? ⟨Qb,8,none⟩=some (.string q.dst)∧wy.cell? ⟨Qb,9,none⟩=some (.string q.opts)∧wy.cell? ⟨Qb,10,none⟩=some (.string q.data)) (go_keep) (first | (go_at_call 50;refine(aT 5 B sa len cap size _ (by omega) (by omega) hl (A11.out.below bR.drew).db.dr.src).mono ?_;rintro e w12 ⟨r,rfl,lr,ur,hs,hg⟩;have A12:Hid (AS w B sa len cap size ((Qb,kX q)::(Xb,rW ba bo ca cb x)::(Pb,qP pa pc p)::K3 w) pa p ba bo x w12):=(A11.out.below bR.drew).draw hs hg;clear hs hg;have HHpp:aA w12 (Pb) (qP pa pc p):=A12.out.db.at eX;obtain⟨pp0,pp1,pp2,pp3,pp4,pp5,pp6,pp7,pp8,pp9⟩:=HHpp.c10;clear HHpp;have HHbb:aA w12 (Xb) (rW ba bo ca cb x):=A12.out.db.at eB;obtain⟨bb0,bb1⟩:=HHbb.c2;clear HHbb;have HHqq:aA w12 (Qb) (kX q):=A12.out.db.at cO;obtain⟨qq0,qq1,qq2,qq3,qq4,qq5,qq6,qq7,qq8,qq9,qq10⟩:=HHqq.c11;clear HHqq;have HHzz:aA w12 (w.heap.size) (RL):=A12.out.db.at iR;obtain⟨zz0,zz1,zz2,zz3,zz4,zz5,zz6,zz7,zz8,zz9⟩:=HHzz.c10;obtain⟨zzf0,zzf1,zzf2,zzf3,zzf4,zzf5,zzf6,zzf7,zzf8,zzf9⟩:=HHzz.f10;clear HHzz;have HHuu:aA w12 (w.heap.size+1) (RJ):=A12.out.db.at lX;obtain⟨uu0,uu1⟩:=HHuu.c2;obtain⟨uuf0,uuf1⟩:=HHuu.f2;clear HHuu;have HHvv:aA w12 (w.heap.size+1+1) (kX pS):=A12.out.db.at EX;obtain⟨vv0,vv1,vv2,vv3,vv4,vv5,vv6,vv7,vv8,vv9,vv10⟩:=HHvv.c11;obtain⟨vvf0,vvf1,vvf2,vvf3,vvf4,vvf5,vvf6,vvf7,vvf8,vvf9,vvf10⟩:=HHvv.f11;clear HHvv;clear p0 p1 p2 p3 p4 p5 p6 p7 p8 p9 b0 b1 q0 q1 q2 q3 q4 q5 q6 q7 q8 q9 q10 z0 zf0 z1 zf1 z2 zf2 z3 zf3 z4 zf4 z5 zf5 z6 zf6 z7 zf7 z8 zf8 z9 zf9 u0 uf0 u1 uf1 v0 vf0 v1 vf1 v2 vf2 v3 vf3 v4 vf4 v5 vf5 v6 vf6 v7 vf7 v8 vf8 v9 vf9 v10 vf10))
     all_goals go_wp2_with fail
     all_goals go_meet
     all_goals exact⟨now+r,by first | rfl | (congr 1;rw[IntKind.wrap_i64];omega),(by unfold gO;constructor<;>omega),((((((((((((((((((((((((((A12.out.tail.tail.tail).set 0 (.slice pa p.VA.length pc) rfl HN3).set 1 (iV p.low) rfl HN3).set 2 (iV p.high) rfl HN3).set 3 (iV p.most) rfl HN3).set 4 (iV p.filter) rfl HN3).set 5 (iV p.lv.udp) rfl HN3).set 6 (iV p.lv.echo) rfl HN3).set 7 (iV p.lv.opening) rfl HN3).set 8 (iV p.lv.opn) rfl HN3).set 9 (iV p.lv.closing) rfl HN3).rot.rot).set 0 (.slice ba x.VC.length ca) rfl (HN4 _)).set 1 (.slice bo x.UZ.length cb) rfl (HN4 _)).rot.rot).set 0 (iV q.tos) rfl (HN5 _ _)).set 1 (iV q.id) rfl (HN5 _ _)).set 2 (.bool q.whole) rfl (HN5 _ _)).set 3 (.bool q.more) rfl (HN5 _ _)).set 4 (iV q.off) rfl (HN5 _ _)).set 5 (iV q.ttl) rfl (HN5 _ _)).set 6 (iV q.UU) rfl (HN5 _ _)).set 7 (.string q.src) rfl (HN5 _ _)).set 8 (.string q.dst) rfl (HN5 _ _)).set 9 (.string q.opts) rfl (HN5 _ _)).set 10 (.string q.data) rfl (HN5 _ _))⟩
    case rest=>
    obtain⟨m,rfl,hm,hA⟩:=hcut;have HM:Hid _:=hm;have A14:Hid (AS w B sa len cap size [(w.heap.size+1+1,kX q),(w.heap.size,qP pa pc p),(w.heap.size+1,rW ba bo ca cb x)] pa p ba bo x wc):=hA;clear hm hA A11;generalize wc=W14 at *;have HHv:aA W14 (w.heap.size+1+1) (kX q):=A14.out.db.at cO;obtain⟨v0,v1,v2,v3,v4,v5,v6,v7,v8,v9,v10⟩:=HHv.c11;have HHz:aA W14 (w.heap.size) (qP pa pc p):=A14.out.db.at eB;obtain⟨z0,z1,z2,z3,z4,z5,z6,z7,z8,z9⟩:=HHz.c10;have HHu:aA W14 (w.heap.size+1) (rW ba bo ca cb x):=A14.out.db.at eX;obtain⟨u0,u1⟩:=HHu.c2;clear HHv HHz HHu;go_wp2_with fail
    exact UQ (v:=.tuple #[.agg (bM pa pc p).toArray,.agg (bF ba ca bo cb x).toArray,.agg (dY q).toArray,iV m]) (by simp[results,Tryz.results26,go_sem,z0,z1,z2,z3,z4,z5,z6,z7,z8,z9,u0,u1,v0,v1,v2,v3,v4,v5,v6,v7,v8,v9,v10]) rfl ⟨pa,pc,p,ba,bo,ca,cb,x,q,m,rfl,HPD.out,hpc,HBD.out,HQ.out,HM.out,A14.out.tail.tail.tail⟩
end Go.Proofs.YtdkepkaflielhaaGreatDoor
