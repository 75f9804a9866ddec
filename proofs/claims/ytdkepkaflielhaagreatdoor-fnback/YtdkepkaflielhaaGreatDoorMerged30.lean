import Derived.Test.YtdkepkaflielhaaGreatDoorMerged29
import Derived.Test.YtdkepkaflielhaaGreatDoorDrawPk9
import Derived.Test.YtdkepkaflielhaaGreatDoorMerged28
set_option linter.unusedVariables false
set_option linter.unusedSimpArgs false
set_option maxRecDepth 100000
set_option maxHeartbeats 8000000
namespace Go.Proofs.YtdkepkaflielhaaGreatDoor
open Go.RowKit Go.PlainAid
def FD(n:Nat)(ks:List (Nat × List Value)){α:Type}(xs:List α)(a:OA):Prop:=xs=[]∨∀g o,a=some ⟨g,o,none⟩→n≤g∧∀e∈ks,e.1≠g
theorem qS{α:Type}{en:α→List Value}{n:Nat}{w:World}{a:OA}{xs:List α}(h:bP en n w a xs):xs=[]∨∀g o,a=some ⟨g,o,none⟩→g < w.heap.size:=by
 rcases h with h|⟨b,off,rfl,hb,-⟩
 ·exact .inl h
 ·exact .inr fun g o e=>by injection e with e;injection e with e1 _;omega
theorem FD.push{n N:Nat}{ks:List (Nat × List Value)}{α:Type}{xs:List α}{a:OA}(h:FD n ks xs a)(hl:xs=[]∨∀g o,a=some ⟨g,o,none⟩→g < N)(l:List Value):FD n ((N,l)::ks) xs a:=by
 rcases h with h|h
 ·exact .inl h
 ·rcases hl with hl | hl
  ·exact .inl hl
  ·exact .inr fun g o e=>⟨(h g o e).1,fun e' he=>(UH.1 he).elim (fun x=>by rw[x];have:=hl g o e;show N≠g;omega) (fun x=>(h g o e).2 e' x)⟩
theorem FD.re{n:Nat}{k k':Nat × List Value}{ks:List (Nat × List Value)}{α:Type}{xs:List α}{a:OA}(h:FD n (k::ks) xs a)(e:k'.1=k.1):FD n (k'::ks) xs a :=
 h.imp id fun f g o x=>⟨(f g o x).1,fun e' he=>(UH.1 he).elim (fun y=>by rw[y,e];exact(f g o x).2 k cM) (fun y=>(f g o x).2 e' (.tail _ y))⟩
theorem FD.tail{n:Nat}{k:Nat × List Value}{ks:List (Nat × List Value)}{α:Type}{xs:List α}{a:OA}(h:FD n (k::ks) xs a):FD n ks xs a:=h.imp id fun f g o x=>⟨(f g o x).1,fun e' he=>(f g o x).2 e' (.tail _ he)⟩
theorem FD.ne{n:Nat}{ks:List (Nat × List Value)}{α:Type}{xs:List α}{a:OA}(h:FD n ks xs a){k:Nat × List Value}(hk:k∈ks):xs=[]∨∀g o,a=some ⟨g,o,none⟩→g≠k.1:=h.imp id fun f g o x=>((f g o x).2 k hk).symm
structure AS(w:World)(B:Nat)(sa:OA)(len cap:Nat)(size:Int)(ks:List (Nat × List Value))(pa:OA)(p:Pl)(a b:OA)(x:Bb)(wx:World):Prop where
 db:DB w B sa len cap size ks wx
 pl:bP cB 1 wx pa p.VL
 bb:dC wx a b x
 fp:FD w.heap.size ks p.VL pa
 fa:FD w.heap.size ks x.VN a
 fb:FD w.heap.size ks x.VK b
section
variable {w wx wy:World} {B:Nat} {sa:OA} {len cap:Nat} {size:Int} {ks:List (Nat × List Value)} {pa:OA} {p:Pl} {a b:OA} {x:Bb}
theorem AS.src(h:AS w B sa len cap size ks pa p a b x wx){α:Type}{xs:List α}{c:OA}(hc:FD w.heap.size ks xs c):xs=[]∨∀g o,c=some ⟨g,o,none⟩→g≠B:=hc.imp id fun f g o e=>by have:=(f g o e).1;have:=h.db.dr.hB;omega
theorem AS.draw(h:AS w B sa len cap size ks pa p a b x wx)(hs:iY wy B sa len cap size)(hg:wx.grownBy wy (some B)):AS w B sa len cap size ks pa p a b x wy :=
 ⟨h.db.draw hs hg,h.pl.grown hg (h.src h.fp),⟨h.bb.bd.grown hg (h.src h.fa),h.bb.ss.grown hg (h.src h.fb)⟩,h.fp,h.fa,h.fb⟩
theorem AS.below(h:AS w B sa len cap size ks pa p a b x wx)(hb:Below wx.heap.size wx wy):AS w B sa len cap size ks pa p a b x wy:=⟨h.db.below hb,h.pl.below hb,h.bb.below hb,h.fp,h.fa,h.fb⟩
theorem AS.push(h:AS w B sa len cap size ks pa p a b x wx)(vs:List Value)(hv:0 < vs.length)(T:TypeId):AS w B sa len cap size ((wx.heap.size,vs)::ks) pa p a b x (wx.alloc (.cells vs.toArray T)) :=
 have hb:Below wx.heap.size wx (wx.alloc (.cells vs.toArray T)):=bR.alloc lR _;⟨h.db.push vs hv T,h.pl.below hb,h.bb.below hb,h.fp.push (qS h.pl) _,h.fa.push (qS h.bb.bd) _,h.fb.push (qS h.bb.ss) _⟩
theorem AS.set{X:Nat}{vs vs':List Value}(h:AS w B sa len cap size ((X,vs)::ks) pa p a b x wx)(j:Nat)(v:Value)(hv:vs.set j v=vs')(hne:∀e∈ks,e.1≠X):AS w B sa len cap size ((X,vs')::ks) pa p a b x (wx.setCell ⟨X,j,none⟩ v) :=
 ⟨h.db.set j v hv hne,aJ h.pl (h.fp.ne cM) j v,⟨aJ h.bb.bd (h.fa.ne cM) j v,aJ h.bb.ss (h.fb.ne cM) j v⟩,h.fp.re rfl,h.fa.re rfl,h.fb.re rfl⟩
theorem AS.tail{k:Nat × List Value}(h:AS w B sa len cap size (k::ks) pa p a b x wx):AS w B sa len cap size ks pa p a b x wx:=⟨h.db.tail,h.pl,h.bb,h.fp.tail,h.fa.tail,h.fb.tail⟩
theorem AS.perm{ks':List (Nat × List Value)}(h:AS w B sa len cap size ks pa p a b x wx)(hs:∀e∈ks',e∈ks):AS w B sa len cap size ks' pa p a b x wx :=
 ⟨h.db.sub hs,h.pl,h.bb,h.fp.imp id fun f g o e=>⟨(f g o e).1,fun y hy=>(f g o e).2 y (hs y hy)⟩,h.fa.imp id fun f g o e=>⟨(f g o e).1,fun y hy=>(f g o e).2 y (hs y hy)⟩,h.fb.imp id fun f g o e=>⟨(f g o e).1,fun y hy=>(f g o e).2 y (hs y hy)⟩⟩
theorem AS.rot{e f g:Nat × List Value}(h:AS w B sa len cap size (e::f::g::ks) pa p a b x wx):AS w B sa len cap size (g::e::f::ks) pa p a b x wx:=h.perm fun y hy=>by simp at hy ⊢;rcases hy with h|h|h|h<;>simp[h]
end
abbrev mC(pa:OA)(pc:Nat)(p:Pl):List Value:=(bG pa pc p)
abbrev lX(ba bo:OA)(ca cb:Nat)(x:Bb):List Value:=(aX ba ca bo cb x)
abbrev RT:List Value:=jU
abbrev RS:List Value:=[.slice none 0 0,.slice none 0 0]
abbrev K3(w:World):List (Nat × List Value):=[(w.heap.size,RT),(w.heap.size+1,RS),(w.heap.size+1+1,jK pZ)]
def PZ(w:World)(B:Nat)(sa:OA)(len cap:Nat)(size:Int)(e:Ending)(w':World):Prop:=∃pa pc p ba bo ca cb x q now,e=.returned (.tuple #[iK pa pc p,gP ba bo ca cb x,kL q,iV now])∧pL p∧p.VL.length≤pc∧nQ x∧qY q∧gV now∧AS w B sa len cap size [] pa p ba bo x w'
theorem CU(ins:Bool)(B:Nat)(sa:OA)(len cap:Nat)(size:Int)(w:World)(hl:len≤1048576)(hs:iY w B sa len cap size) :
  Calls Tryz.prog 26 #[.pointer (some ⟨B,0,none⟩),.bool ins] w (PZ w B sa len cap size):=by
 have hBW:B < w.heap.size:=(Dr.start hs).hB;have e0:aA ((aW (aW w jU 27) [.slice none 0 0,.slice none 0 0] 31).alloc (.cells (eP 0 0 false false 0 0 0 ⟨#[]⟩ ⟨#[]⟩ ⟨#[]⟩ ⟨#[]⟩).toArray 33)) (w.heap.size) jU:=by
  have h:=aA.new w jU 27;try simp only[UC]at h
  exact((h.alloc _).alloc _)
 have e1:aA ((aW (aW w jU 27) [.slice none 0 0,.slice none 0 0] 31).alloc (.cells (eP 0 0 false false 0 0 0 ⟨#[]⟩ ⟨#[]⟩ ⟨#[]⟩ ⟨#[]⟩).toArray 33)) (w.heap.size+1) [.slice none 0 0,.slice none 0 0]:=by
  have h:=aA.new (w.alloc (.cells jU.toArray 27)) [.slice none 0 0,.slice none 0 0] 31;try simp only[UC]at h
  exact(h.alloc _)
 have e2:aA ((aW (aW w jU 27) [.slice none 0 0,.slice none 0 0] 31).alloc (.cells (eP 0 0 false false 0 0 0 ⟨#[]⟩ ⟨#[]⟩ ⟨#[]⟩ ⟨#[]⟩).toArray 33)) (w.heap.size+1+1) (eP 0 0 false false 0 0 0 ⟨#[]⟩ ⟨#[]⟩ ⟨#[]⟩ ⟨#[]⟩):=by
  have h:=aA.new ((aW w jU 27).alloc (.cells #[.slice none 0 0,.slice none 0 0] 31)) (eP 0 0 false false 0 0 0 ⟨#[]⟩ ⟨#[]⟩ ⟨#[]⟩ ⟨#[]⟩) 33;try simp only[UC]at h
  exact h
 have S0:Hid (DB w B sa len cap size (K3 w) ((aW (aW w jU 27) [.slice none 0 0,.slice none 0 0] 31).alloc (.cells (eP 0 0 false false 0 0 0 ⟨#[]⟩ ⟨#[]⟩ ⟨#[]⟩ ⟨#[]⟩).toArray 33))):=by
  refine⟨((((Dr.start hs).alloc _).alloc _).alloc _),fun e he=>?_,fun e he=>?_,fun e he=>?_⟩
  ·simp only[UH,UG,or_false]at he;rcases he with rfl|rfl|rfl
   ·exact e0
   ·exact e1
   ·exact e2
  ·simp only[UH,UG,or_false]at he;rcases he with rfl|rfl|rfl<;>simp
  ·simp only[UH,UG,or_false]at he;rcases he with rfl|rfl|rfl<;>simp<;>omega
 have hun:undef=Value.tuple #[]:=rfl;clear e0 e1 e2 hs;go_enter Tryz.func26,Tryz.ntmps26
 go_upto_region 1 with fail
 generalize World.alloc _ _=W0 at *;go_wp2_with fail
 refine(CV B sa len cap size W0 hl S0.out.dr.src).mono ?_;rintro e w2 ⟨pa,pc,p,ba,bo,ca,cb,x,now,rfl,hpd,hpc,hbd,hn0,hn1,hpl,hbb,fp,fa,fb,hs,hg⟩;have HPD:Hid (pL p):=hpd;have HBD:Hid (nQ x):=hbd;have hlt0:∀e∈K3 w,e.1 < W0.heap.size:=S0.out.lts;have hle0:w.heap.size≤W0.heap.size:=S0.out.dr.le;have A0:Hid (AS w B sa len cap size (K3 w) pa p ba bo x w2):=⟨S0.out.draw hs hg,hpl,hbb,.inr fun g o e=>⟨by have:=fp g o e;omega,fun y hy=>by have:=fp g o e;have:=hlt0 y hy;omega⟩,fa.imp id fun f g o e=>⟨by have:=f g o e;omega,fun y hy=>by have:=f g o e;have:=hlt0 y hy;omega⟩,fb.imp id fun f g o e=>⟨by have:=f g o e;omega,fun y hy=>by have:=f g o e;have:=hlt0 y hy;omega⟩⟩;clear hpd hbd hpl hbb fp fa fb hs hg hlt0 hle0 S0;unfold iK gP;go_upto_region 2 with fail
 have A1:Hid (AS w B sa len cap size ((w2.heap.size+1,lX ba bo ca cb x)::(w2.heap.size,mC pa pc p)::K3 w) pa p ba bo x ((aW w2 (bG pa pc p) 27).alloc (.cells (aX ba ca bo cb x).toArray 31))):=by
  have h:=(A0.out.push (bG pa pc p) (by simp) 27).push (aX ba ca bo cb x) (by simp) 31;rw[UC]at h;exact h
 have hb2:∀e∈K3 w,e.1 < w2.heap.size:=A0.out.db.lts;generalize World.alloc _ _=W3 at *;generalize w2.heap.size=Pb at *;obtain⟨Xb,hXb⟩: ∃y,y=Pb+1:=⟨_,rfl⟩;rw[←hXb]at A1;try rw[←hXb]
 have hPX:Pb < Xb:=by omega
 have A3:Hid (AS w B sa len cap size ((Xb,lX ba bo ca cb x)::(Pb,mC pa pc p)::K3 w) pa p ba bo x W3):=A1.out;have HLT:Hid (∀e∈K3 w,e.1 < Pb):=hb2;clear A0 A1 hb2 hXb;have HHb:aA W3 (Xb) (lX ba bo ca cb x):=A3.out.db.at cM;obtain⟨b0,b1⟩:=HHb.c2;clear HHb;have HHp:aA W3 (Pb) (mC pa pc p):=A3.out.db.at dZ;obtain⟨p0,p1,p2,p3,p4,p5,p6,p7,p8,p9⟩:=HHp.c10;clear HHp;go_wp2_with fail
 refine(lD B sa len cap size pa pc p ba bo ca cb x _ hl HPD.out HBD.out A3.out.pl A3.out.bb (fun g o e=>((A3.out.src A3.out.fp).resolve_left (fun h=>by have:=HPD.out.1;rw[h]at this;simp at this)) g o e) (A3.out.src A3.out.fa) (A3.out.src A3.out.fb) A3.out.db.dr.src).mono ?_;rintro e w4 ⟨t0,rfl,ht,hs,hg⟩;have HTt0:Hid (oH t0):=ht;have A4:Hid (AS w B sa len cap size ((Xb,lX ba bo ca cb x)::(Pb,mC pa pc p)::K3 w) pa p ba bo x w4):=A3.out.draw hs hg;clear hs hg ht;clear A3 b0 b1 p0 p1 p2 p3 p4 p5 p6 p7 p8 p9;unfold pJ;go_upto_region 3 with fail
 have hX4:Xb < w4.heap.size:=A4.out.db.lts (_,_) cM;have A5:Hid _:=A4.out.push (FH t0) (by simp) 89;generalize (w4.alloc (.cells (FH t0).toArray 89))=W5 at *;generalize w4.heap.size=Tb at *;have A6:Hid (AS w B sa len cap size ((Tb,rG t0)::(Xb,lX ba bo ca cb x)::(Pb,mC pa pc p)::K3 w) pa p ba bo x W5):=A5.out;clear A4 A5;have HNT:Hid (∀e∈((Xb,lX ba bo ca cb x)::(Pb,mC pa pc p)::K3 w),e.1≠Tb):=fun e he=>by
  rcases UH.1 he with h|he
  ·rw[h];show Xb≠Tb;omega
  rcases UH.1 he with h|he
  ·rw[h];show Pb≠Tb;omega
  ·have:=HLT.out e he;omega
 go_wp2_with fail
 go_loopw [12] (fun iv wr=>∃k:Nat,k≤4∧iv=iV k∧∃t,oH t∧AS w B sa len cap size ((Tb,rG t)::(Xb,lX ba bo ca cb x)::(Pb,mC pa pc p)::K3 w) pa p ba bo x wr) (fun iv _=>4-(intOf iv).toNat)
 case atStart=>exact⟨0,by omega,rfl,t0,HTt0.out,A6.out⟩
 case round=>
  obtain⟨k,hk,rfl,t,ht,hA⟩:=hrel;have HT:Hid (oH t):=ht;have A7:Hid (AS w B sa len cap size ((Tb,rG t)::(Xb,lX ba bo ca cb x)::(Pb,mC pa pc p)::K3 w) pa p ba bo x wr):=hA;clear ht hA A6 HTt0;generalize wr=W7 at *;have HHy:aA W7 (Tb) (rG t):=A7.out.db.at cM;have y1:=HHy.cell (j:=1) rfl;clear HHy;obtain⟨ti,hti⟩: ∃b,b=t.VJ:=⟨_,rfl⟩;rw[←hti]at y1;clear hti;go_upto_region 4 with fail
  go_cut [31] (fun v wx=>(∃cc,v=.bool cc∧(cc=true→k < 4))∧AS w B sa len cap size ((Tb,rG t)::(Xb,lX ba bo ca cb x)::(Pb,mC pa pc p)::K3 w) pa p ba bo x wx)
  case first=>
   by_cases hk4:k < 4
   case pos=>
    have hkI:(k:Int) < 4:=by omega
    by_cases hin:ti=ins
    case neg=>
     have hb:(ti != ins)=true:=by simp[hin]
     clear hin;go_wp2_with fail
     go_meet;exact⟨⟨true,by first | rfl | exact congrArg Value.bool hb,fun _=>hk4⟩,A7.out⟩
    have hb:(ti != ins)=false:=by simp[hin]
    clear hin;go_wp2_with fail
    go_meet;exact⟨⟨false,by first | rfl | exact congrArg Value.bool hb,fun h=>by cases h⟩,A7.out⟩
   have hkI:¬(k:Int) < 4:=by omega
   go_wp2_with fail
   go_meet;exact⟨⟨false,rfl,fun h=>by cases h⟩,A7.out⟩
  case rest=>
  obtain⟨⟨cc,rfl,hcc⟩,hA⟩:=hcut;have A7:Hid (AS w B sa len cap size ((Tb,rG t)::(Xb,lX ba bo ca cb x)::(Pb,mC pa pc p)::K3 w) pa p ba bo x wc):=hA;clear hA y1;generalize wc=W7 at *
  cases cc with
  | true=>
   have hk4:k < 4:=hcc rfl;have HHb:aA W7 (Xb) (lX ba bo ca cb x):=A7.out.db.at dZ;obtain⟨b0,b1⟩:=HHb.c2;clear HHb;have HHp:aA W7 (Pb) (mC pa pc p):=A7.out.db.at eL;obtain⟨p0,p1,p2,p3,p4,p5,p6,p7,p8,p9⟩:=HHp.c10;clear HHp;go_wp2_with fail
   refine(lD B sa len cap size pa pc p ba bo ca cb x _ hl HPD.out HBD.out A7.out.pl A7.out.bb (fun g o e=>((A7.out.src A7.out.fp).resolve_left (fun h=>by have:=HPD.out.1;rw[h]at this;simp at this)) g o e) (A7.out.src A7.out.fa) (A7.out.src A7.out.fb) A7.out.db.dr.src).mono ?_;rintro e w8 ⟨t1,rfl,ht,hs,hg⟩;have HTt1:Hid (oH t1):=ht;have A8:Hid (AS w B sa len cap size ((Tb,rG t)::(Xb,lX ba bo ca cb x)::(Pb,mC pa pc p)::K3 w) pa p ba bo x w8):=A7.out.draw hs hg;clear hs hg ht;clear A7 b0 b1 p0 p1 p2 p3 p4 p5 p6 p7 p8 p9;unfold pJ;have HHy:aA w8 (Tb) (rG t):=A8.out.db.at cM;obtain⟨y0,y1,y2,y3,y4,y5,y6⟩:=HHy.c7;clear HHy;have HHy:aA w8 Tb (rG t):=A8.out.db.at cM;obtain⟨yf0,yf1,yf2,yf3,yf4,yf5,yf6⟩:=HHy.f7;clear HHy;have A9:Hid _:=(((((((A8.out.set 0 (iV t1.VF) rfl HNT.out).set 1 (.bool t1.VJ) rfl HNT.out).set 2 (.string t1.addr) rfl HNT.out).set 3 (iV t1.port) rfl HNT.out).set 4 (.string t1.peer) rfl HNT.out).set 5 (iV t1.VG) rfl HNT.out).set 6 (iV t1.VM) rfl HNT.out);clear A8;go_wp2_with fail
   go_roundw
   case rel=>
    first | exact⟨k+1,by omega,by go_num,t1,HTt1.out,A9.out⟩ | ((repeat apply Exists.intro);exact⟨⟨k+1,by omega,by go_num,t1,HTt1.out,A9.out⟩,rfl⟩)
   case measure=>simp[intOf];omega
  | false=>
   go_upto_region 7 with fail
   have HHy:aA W7 (Tb) (rG t):=A7.out.db.at cM;obtain⟨y0,y1,y2,y3,y4,y5,y6⟩:=HHy.c7;clear HHy;go_wp2_with fail
   refine(sE t B sa len cap size _ hl HT.out A7.out.db.dr.src).mono ?_;rintro e w8 ⟨⟨q,rfl,hq⟩,hs,hg⟩;have HQ:Hid (qY q):=hq;have A8:Hid (AS w B sa len cap size ((Xb,lX ba bo ca cb x)::(Pb,mC pa pc p)::K3 w) pa p ba bo x w8):=(A7.out.draw hs hg).tail;clear hs hg hq A7 HT y0 y1 y2 y3 y4 y5 y6;unfold kL;go_upto_region 8 with fail
   have hX8:Xb < w8.heap.size:=A8.out.db.lts (_,_) cM;have A9:Hid _:=A8.out.push (dM q) (by simp) 33;generalize (w8.alloc (.cells (dM q).toArray 33))=W9 at *;generalize w8.heap.size=Qb at *;have A10:Hid (AS w B sa len cap size ((Qb,jK q)::(Xb,lX ba bo ca cb x)::(Pb,mC pa pc p)::K3 w) pa p ba bo x W9):=A9.out;clear A8 A9;go_wp2_with fail
   refine(bS 25 B sa len cap size _ (by omega) hl A10.out.db.dr.src).mono ?_;rintro e w10 ⟨c,rfl,hs,hg⟩;have A11:Hid (AS w B sa len cap size ((Qb,jK q)::(Xb,lX ba bo ca cb x)::(Pb,mC pa pc p)::K3 w) pa p ba bo x w10):=A10.out.draw hs hg;clear hs hg A10;have d0:¬w.heap.size=Pb:=by have:=HLT.out (_,_) cM;simp at this;omega
   have d1:¬w.heap.size+1=Pb:=by have:=HLT.out (_,_) dZ;simp at this;omega
   have d2:¬w.heap.size+1+1=Pb:=by have:=HLT.out (_,_) eL;simp at this;omega
   have gd0Pb:¬w.heap.size=Pb:=by have:=HLT.out (_,_) cM;simp at this;omega
   have kd0Pb:¬Pb=w.heap.size:=fun e=>gd0Pb e.symm
   have gd0Xb:¬w.heap.size=Xb:=by have:=HLT.out (_,_) cM;simp at this;omega
   have kd0Xb:¬Xb=w.heap.size:=fun e=>gd0Xb e.symm
   have gd0Qb:¬w.heap.size=Qb:=by have:=HLT.out (_,_) cM;simp at this;omega
   have kd0Qb:¬Qb=w.heap.size:=fun e=>gd0Qb e.symm
   have gd1Pb:¬w.heap.size+1=Pb:=by have:=HLT.out (_,_) dZ;simp at this;omega
   have kd1Pb:¬Pb=w.heap.size+1:=fun e=>gd1Pb e.symm
   have gd1Xb:¬w.heap.size+1=Xb:=by have:=HLT.out (_,_) dZ;simp at this;omega
   have kd1Xb:¬Xb=w.heap.size+1:=fun e=>gd1Xb e.symm
   have gd1Qb:¬w.heap.size+1=Qb:=by have:=HLT.out (_,_) dZ;simp at this;omega
   have kd1Qb:¬Qb=w.heap.size+1:=fun e=>gd1Qb e.symm
   have gd2Pb:¬w.heap.size+1+1=Pb:=by have:=HLT.out (_,_) eL;simp at this;omega
   have kd2Pb:¬Pb=w.heap.size+1+1:=fun e=>gd2Pb e.symm
   have gd2Xb:¬w.heap.size+1+1=Xb:=by have:=HLT.out (_,_) eL;simp at this;omega
   have kd2Xb:¬Xb=w.heap.size+1+1:=fun e=>gd2Xb e.symm
   have gd2Qb:¬w.heap.size+1+1=Qb:=by have:=HLT.out (_,_) eL;simp at this;omega
   have kd2Qb:¬Qb=w.heap.size+1+1:=fun e=>gd2Qb e.symm
   have HN3:∀e∈([(w.heap.size+1,[.slice none 0 0,.slice none 0 0]),(w.heap.size+1+1,(eP 0 0 false false 0 0 0 ⟨#[]⟩ ⟨#[]⟩ ⟨#[]⟩ ⟨#[]⟩))]:List (Nat × List Value)),e.1≠w.heap.size:=fun e he=>by simp only[UH,UG,or_false]at he;rcases he with rfl|rfl<;>simp<;>omega
   have HN4:∀l,∀e∈([(w.heap.size+1+1,(eP 0 0 false false 0 0 0 ⟨#[]⟩ ⟨#[]⟩ ⟨#[]⟩ ⟨#[]⟩)),(w.heap.size,l)]:List (Nat × List Value)),e.1≠w.heap.size+1:=fun l e he=>by simp only[UH,UG,or_false]at he;rcases he with rfl|rfl<;>simp
   have HN5:∀l m,∀e∈([(w.heap.size,l),(w.heap.size+1,m)]:List (Nat × List Value)),e.1≠w.heap.size+1+1:=fun l m e he=>by simp only[UH,UG,or_false]at he;rcases he with rfl|rfl<;>simp<;>omega
   cases c with
   | true=>
    go_upto_region 9 with fail
    go_cut [7] (fun v wx=>∃m,v=iV m∧gV m∧AS w B sa len cap size [(w.heap.size+1+1,jK q),(w.heap.size,mC pa pc p),(w.heap.size+1,lX ba bo ca cb x)] pa p ba bo x wx)
    case first=>
     have HHp:aA w10 (Pb) (mC pa pc p):=A11.out.db.at eL;obtain⟨p0,p1,p2,p3,p4,p5,p6,p7,p8,p9⟩:=HHp.c10;clear HHp;have HHb:aA w10 (Xb) (lX ba bo ca cb x):=A11.out.db.at dZ;obtain⟨b0,b1⟩:=HHb.c2;clear HHb;have HHq:aA w10 (Qb) (jK q):=A11.out.db.at cM;obtain⟨q0,q1,q2,q3,q4,q5,q6,q7,q8,q9,q10⟩:=HHq.c11;clear HHq;have HHz:aA w10 (w.heap.size) (RT):=A11.out.db.at iF;obtain⟨z0,z1,z2,z3,z4,z5,z6,z7,z8,z9⟩:=HHz.c10;obtain⟨zf0,zf1,zf2,zf3,zf4,zf5,zf6,zf7,zf8,zf9⟩:=HHz.f10;clear HHz;have HHu:aA w10 (w.heap.size+1) (RS):=A11.out.db.at nH;obtain⟨u0,u1⟩:=HHu.c2;obtain⟨uf0,uf1⟩:=HHu.f2;clear HHu;have HHv:aA w10 (w.heap.size+1+1) (jK pZ):=A11.out.db.at CD;obtain⟨v0,v1,v2,v3,v4,v5,v6,v7,v8,v9,v10⟩:=HHv.c11;obtain⟨vf0,vf1,vf2,vf3,vf4,vf5,vf6,vf7,vf8,vf9,vf10⟩:=HHv.f11;clear HHv;go_region_held (fun wy=>wy.cell? ⟨Pb,0,none⟩=some (.slice pa p.VL.length pc)∧wy.cell? ⟨Pb,1,none⟩=some (iV p.low)∧wy.cell? ⟨Pb,2,none⟩=some (iV p.high)∧wy.cell? ⟨Pb,3,none⟩=some (iV p.most)∧wy.cell? ⟨Pb,4,none⟩=some (iV p.filter)∧wy.cell? ⟨Pb,5,none⟩=some (iV p.lv.udp)∧wy.cell? ⟨Pb,6,none⟩=some (iV p.lv.echo)∧wy.cell? ⟨Pb,7,none⟩=some (iV p.lv.opening)∧wy.cell? ⟨Pb,8,none⟩=some (iV p.lv.opn)∧wy.cell? ⟨Pb,9,none⟩=some (iV p.lv.closing)∧wy.cell? ⟨Xb,0,none⟩=some (.slice ba x.VN.length ca)∧wy.cell? ⟨Xb,1,none⟩=some (.slice bo x.VK.length cb)∧wy.cell? ⟨Qb,0,none⟩=some (iV q.tos)∧wy.cell? ⟨Qb,1,none⟩=some (iV q.id)∧wy.cell? ⟨Qb,2,none⟩=some (.bool q.whole)∧wy.cell? ⟨Qb,3,none⟩=some (.bool q.more)∧wy.cell? ⟨Qb,4,none⟩=some (iV q.off)∧wy.cell? ⟨Qb,5,none⟩=some (iV q.ttl)∧wy.cell? ⟨Qb,6,none⟩=some (iV q.VF)∧wy.cell? ⟨Qb,7,none⟩=some (.string q.src)∧wy.cell? ⟨Qb,8,none⟩=some (.string q.dst)∧wy.cell? ⟨Qb,9,none⟩=some (.string q.opts)∧wy.cell? ⟨Qb,10,none⟩=some (.string q.data)) (go_keep) (first | (go_at_call 56;refine(sD B sa len cap size _ hl (A11.out.below bR.drew).db.dr.src).mono ?_;rintro e w12 ⟨r,rfl,hr,hs,hg⟩;have A12:Hid (AS w B sa len cap size ((Qb,jK q)::(Xb,lX ba bo ca cb x)::(Pb,mC pa pc p)::K3 w) pa p ba bo x w12):=(A11.out.below bR.drew).draw hs hg;clear hs hg;have HHpp:aA w12 (Pb) (mC pa pc p):=A12.out.db.at eL;obtain⟨pp0,pp1,pp2,pp3,pp4,pp5,pp6,pp7,pp8,pp9⟩:=HHpp.c10;clear HHpp;have HHbb:aA w12 (Xb) (lX ba bo ca cb x):=A12.out.db.at dZ;obtain⟨bb0,bb1⟩:=HHbb.c2;clear HHbb;have HHqq:aA w12 (Qb) (jK q):=A12.out.db.at cM;obtain⟨qq0,qq1,qq2,qq3,qq4,qq5,qq6,qq7,qq8,qq9,qq10⟩:=HHqq.c11;clear HHqq;have HHzz:aA w12 (w.heap.size) (RT):=A12.out.db.at iF;obtain⟨zz0,zz1,zz2,zz3,zz4,zz5,zz6,zz7,zz8,zz9⟩:=HHzz.c10;obtain⟨zzf0,zzf1,zzf2,zzf3,zzf4,zzf5,zzf6,zzf7,zzf8,zzf9⟩:=HHzz.f10;clear HHzz;have HHuu:aA w12 (w.heap.size+1) (RS):=A12.out.db.at nH;obtain⟨uu0,uu1⟩:=HHuu.c2;obtain⟨uuf0,uuf1⟩:=HHuu.f2;clear HHuu;have HHvv:aA w12 (w.heap.size+1+1) (jK pZ):=A12.out.db.at CD;obtain⟨vv0,vv1,vv2,vv3,vv4,vv5,vv6,vv7,vv8,vv9,vv10⟩:=HHvv.c11;obtain⟨vvf0,vvf1,vvf2,vvf3,vvf4,vvf5,vvf6,vvf7,vvf8,vvf9,vvf10⟩:=HHvv.f11;clear HHvv;clear p0 p1 p2 p3 p4 p5 p6 p7 p8 p9 b0 b1 q0 q1 q2 q3 q4 q5 q6 q7 q8 q9 q10 z0 zf0 z1 zf1 z2 zf2 z3 zf3 z4 zf4 z5 zf5 z6 zf6 z7 zf7 z8 zf8 z9 zf9 u0 uf0 u1 uf1 v0 vf0 v1 vf1 v2 vf2 v3 vf3 v4 vf4 v5 vf5 v6 vf6 v7 vf7 v8 vf8 v9 vf9 v10 vf10))
     all_goals go_wp2_with fail
     all_goals go_meet
     all_goals exact⟨r,by first | rfl | (congr 1;rw[IntKind.wrap_i64];omega),(by first | exact hr | (have:=hr;unfold pD at this;unfold gV;omega)),((((((((((((((((((((((((((A12.out.tail.tail.tail).set 0 (.slice pa p.VL.length pc) rfl HN3).set 1 (iV p.low) rfl HN3).set 2 (iV p.high) rfl HN3).set 3 (iV p.most) rfl HN3).set 4 (iV p.filter) rfl HN3).set 5 (iV p.lv.udp) rfl HN3).set 6 (iV p.lv.echo) rfl HN3).set 7 (iV p.lv.opening) rfl HN3).set 8 (iV p.lv.opn) rfl HN3).set 9 (iV p.lv.closing) rfl HN3).rot.rot).set 0 (.slice ba x.VN.length ca) rfl (HN4 _)).set 1 (.slice bo x.VK.length cb) rfl (HN4 _)).rot.rot).set 0 (iV q.tos) rfl (HN5 _ _)).set 1 (iV q.id) rfl (HN5 _ _)).set 2 (.bool q.whole) rfl (HN5 _ _)).set 3 (.bool q.more) rfl (HN5 _ _)).set 4 (iV q.off) rfl (HN5 _ _)).set 5 (iV q.ttl) rfl (HN5 _ _)).set 6 (iV q.VF) rfl (HN5 _ _)).set 7 (.string q.src) rfl (HN5 _ _)).set 8 (.string q.dst) rfl (HN5 _ _)).set 9 (.string q.opts) rfl (HN5 _ _)).set 10 (.string q.data) rfl (HN5 _ _))⟩
    case rest=>
    obtain⟨m,rfl,hm,hA⟩:=hcut;have HM:Hid _:=hm;have A14:Hid (AS w B sa len cap size [(w.heap.size+1+1,jK q),(w.heap.size,mC pa pc p),(w.heap.size+1,lX ba bo ca cb x)] pa p ba bo x wc):=hA;clear hm hA A11;generalize wc=W14 at *;have HHv:aA W14 (w.heap.size+1+1) (jK q):=A14.out.db.at cM;obtain⟨v0,v1,v2,v3,v4,v5,v6,v7,v8,v9,v10⟩:=HHv.c11;have HHz:aA W14 (w.heap.size) (mC pa pc p):=A14.out.db.at dZ;obtain⟨z0,z1,z2,z3,z4,z5,z6,z7,z8,z9⟩:=HHz.c10;have HHu:aA W14 (w.heap.size+1) (lX ba bo ca cb x):=A14.out.db.at eL;obtain⟨u0,u1⟩:=HHu.c2;clear HHv HHz HHu;go_wp2_with fail
    exact VB (v:=.tuple #[.agg (bG pa pc p).toArray,.agg (aX ba ca bo cb x).toArray,.agg (dM q).toArray,iV m]) (by simp[results,Tryz.results26,go_sem,z0,z1,z2,z3,z4,z5,z6,z7,z8,z9,u0,u1,v0,v1,v2,v3,v4,v5,v6,v7,v8,v9,v10]) rfl ⟨pa,pc,p,ba,bo,ca,cb,x,q,m,rfl,HPD.out,hpc,HBD.out,HQ.out,HM.out,A14.out.tail.tail.tail⟩
   | false=>
    go_upto_region 10 with fail
    go_cut [7] (fun v wx=>∃m,v=iV m∧gV m∧AS w B sa len cap size [(w.heap.size+1+1,jK q),(w.heap.size,mC pa pc p),(w.heap.size+1,lX ba bo ca cb x)] pa p ba bo x wx)
    case first=>
     have HHp:aA w10 (Pb) (mC pa pc p):=A11.out.db.at eL;obtain⟨p0,p1,p2,p3,p4,p5,p6,p7,p8,p9⟩:=HHp.c10;clear HHp;have HHb:aA w10 (Xb) (lX ba bo ca cb x):=A11.out.db.at dZ;obtain⟨b0,b1⟩:=HHb.c2;clear HHb;have HHq:aA w10 (Qb) (jK q):=A11.out.db.at cM;obtain⟨q0,q1,q2,q3,q4,q5,q6,q7,q8,q9,q10⟩:=HHq.c11;clear HHq;have HHz:aA w10 (w.heap.size) (RT):=A11.out.db.at iF;obtain⟨z0,z1,z2,z3,z4,z5,z6,z7,z8,z9⟩:=HHz.c10;obtain⟨zf0,zf1,zf2,zf3,zf4,zf5,zf6,zf7,zf8,zf9⟩:=HHz.f10;clear HHz;have HHu:aA w10 (w.heap.size+1) (RS):=A11.out.db.at nH;obtain⟨u0,u1⟩:=HHu.c2;obtain⟨uf0,uf1⟩:=HHu.f2;clear HHu;have HHv:aA w10 (w.heap.size+1+1) (jK pZ):=A11.out.db.at CD;obtain⟨v0,v1,v2,v3,v4,v5,v6,v7,v8,v9,v10⟩:=HHv.c11;obtain⟨vf0,vf1,vf2,vf3,vf4,vf5,vf6,vf7,vf8,vf9,vf10⟩:=HHv.f11;clear HHv;go_region_held (fun wy=>wy.cell? ⟨Pb,0,none⟩=some (.slice pa p.VL.length pc)∧wy.cell? ⟨Pb,1,none⟩=some (iV p.low)∧wy.cell? ⟨Pb,2,none⟩=some (iV p.high)∧wy.cell? ⟨Pb,3,none⟩=some (iV p.most)∧wy.cell? ⟨Pb,4,none⟩=some (iV p.filter)∧wy.cell? ⟨Pb,5,none⟩=some (iV p.lv.udp)∧wy.cell? ⟨Pb,6,none⟩=some (iV p.lv.echo)∧wy.cell? ⟨Pb,7,none⟩=some (iV p.lv.opening)∧wy.cell? ⟨Pb,8,none⟩=some (iV p.lv.opn)∧wy.cell? ⟨Pb,9,none⟩=some (iV p.lv.closing)∧wy.cell? ⟨Xb,0,none⟩=some (.slice ba x.VN.length ca)∧wy.cell? ⟨Xb,1,none⟩=some (.slice bo x.VK.length cb)∧wy.cell? ⟨Qb,0,none⟩=some (iV q.tos)∧wy.cell? ⟨Qb,1,none⟩=some (iV q.id)∧wy.cell? ⟨Qb,2,none⟩=some (.bool q.whole)∧wy.cell? ⟨Qb,3,none⟩=some (.bool q.more)∧wy.cell? ⟨Qb,4,none⟩=some (iV q.off)∧wy.cell? ⟨Qb,5,none⟩=some (iV q.ttl)∧wy.cell? ⟨Qb,6,none⟩=some (iV q.VF)∧wy.cell? ⟨Qb,7,none⟩=some (.string q.src)∧wy.cell? ⟨Qb,8,none⟩=some (.string q.dst)∧wy.cell? ⟨Qb,9,none⟩=some (.string q.opts)∧wy.cell? ⟨Qb,10,none⟩=some (.string q.data)) (go_keep) (first | (go_at_call 50;refine(aV 5 B sa len cap size _ (by omega) (by omega) hl (A11.out.below bR.drew).db.dr.src).mono ?_;rintro e w12 ⟨r,rfl,lr,ur,hs,hg⟩;have A12:Hid (AS w B sa len cap size ((Qb,jK q)::(Xb,lX ba bo ca cb x)::(Pb,mC pa pc p)::K3 w) pa p ba bo x w12):=(A11.out.below bR.drew).draw hs hg;clear hs hg;have HHpp:aA w12 (Pb) (mC pa pc p):=A12.out.db.at eL;obtain⟨pp0,pp1,pp2,pp3,pp4,pp5,pp6,pp7,pp8,pp9⟩:=HHpp.c10;clear HHpp;have HHbb:aA w12 (Xb) (lX ba bo ca cb x):=A12.out.db.at dZ;obtain⟨bb0,bb1⟩:=HHbb.c2;clear HHbb;have HHqq:aA w12 (Qb) (jK q):=A12.out.db.at cM;obtain⟨qq0,qq1,qq2,qq3,qq4,qq5,qq6,qq7,qq8,qq9,qq10⟩:=HHqq.c11;clear HHqq;have HHzz:aA w12 (w.heap.size) (RT):=A12.out.db.at iF;obtain⟨zz0,zz1,zz2,zz3,zz4,zz5,zz6,zz7,zz8,zz9⟩:=HHzz.c10;obtain⟨zzf0,zzf1,zzf2,zzf3,zzf4,zzf5,zzf6,zzf7,zzf8,zzf9⟩:=HHzz.f10;clear HHzz;have HHuu:aA w12 (w.heap.size+1) (RS):=A12.out.db.at nH;obtain⟨uu0,uu1⟩:=HHuu.c2;obtain⟨uuf0,uuf1⟩:=HHuu.f2;clear HHuu;have HHvv:aA w12 (w.heap.size+1+1) (jK pZ):=A12.out.db.at CD;obtain⟨vv0,vv1,vv2,vv3,vv4,vv5,vv6,vv7,vv8,vv9,vv10⟩:=HHvv.c11;obtain⟨vvf0,vvf1,vvf2,vvf3,vvf4,vvf5,vvf6,vvf7,vvf8,vvf9,vvf10⟩:=HHvv.f11;clear HHvv;clear p0 p1 p2 p3 p4 p5 p6 p7 p8 p9 b0 b1 q0 q1 q2 q3 q4 q5 q6 q7 q8 q9 q10 z0 zf0 z1 zf1 z2 zf2 z3 zf3 z4 zf4 z5 zf5 z6 zf6 z7 zf7 z8 zf8 z9 zf9 u0 uf0 u1 uf1 v0 vf0 v1 vf1 v2 vf2 v3 vf3 v4 vf4 v5 vf5 v6 vf6 v7 vf7 v8 vf8 v9 vf9 v10 vf10))
     all_goals go_wp2_with fail
     all_goals go_meet
     all_goals exact⟨now+r,by first | rfl | (congr 1;rw[IntKind.wrap_i64];omega),(by unfold gV;constructor<;>omega),((((((((((((((((((((((((((A12.out.tail.tail.tail).set 0 (.slice pa p.VL.length pc) rfl HN3).set 1 (iV p.low) rfl HN3).set 2 (iV p.high) rfl HN3).set 3 (iV p.most) rfl HN3).set 4 (iV p.filter) rfl HN3).set 5 (iV p.lv.udp) rfl HN3).set 6 (iV p.lv.echo) rfl HN3).set 7 (iV p.lv.opening) rfl HN3).set 8 (iV p.lv.opn) rfl HN3).set 9 (iV p.lv.closing) rfl HN3).rot.rot).set 0 (.slice ba x.VN.length ca) rfl (HN4 _)).set 1 (.slice bo x.VK.length cb) rfl (HN4 _)).rot.rot).set 0 (iV q.tos) rfl (HN5 _ _)).set 1 (iV q.id) rfl (HN5 _ _)).set 2 (.bool q.whole) rfl (HN5 _ _)).set 3 (.bool q.more) rfl (HN5 _ _)).set 4 (iV q.off) rfl (HN5 _ _)).set 5 (iV q.ttl) rfl (HN5 _ _)).set 6 (iV q.VF) rfl (HN5 _ _)).set 7 (.string q.src) rfl (HN5 _ _)).set 8 (.string q.dst) rfl (HN5 _ _)).set 9 (.string q.opts) rfl (HN5 _ _)).set 10 (.string q.data) rfl (HN5 _ _))⟩
    case rest=>
    obtain⟨m,rfl,hm,hA⟩:=hcut;have HM:Hid _:=hm;have A14:Hid (AS w B sa len cap size [(w.heap.size+1+1,jK q),(w.heap.size,mC pa pc p),(w.heap.size+1,lX ba bo ca cb x)] pa p ba bo x wc):=hA;clear hm hA A11;generalize wc=W14 at *;have HHv:aA W14 (w.heap.size+1+1) (jK q):=A14.out.db.at cM;obtain⟨v0,v1,v2,v3,v4,v5,v6,v7,v8,v9,v10⟩:=HHv.c11;have HHz:aA W14 (w.heap.size) (mC pa pc p):=A14.out.db.at dZ;obtain⟨z0,z1,z2,z3,z4,z5,z6,z7,z8,z9⟩:=HHz.c10;have HHu:aA W14 (w.heap.size+1) (lX ba bo ca cb x):=A14.out.db.at eL;obtain⟨u0,u1⟩:=HHu.c2;clear HHv HHz HHu;go_wp2_with fail
    exact VB (v:=.tuple #[.agg (bG pa pc p).toArray,.agg (aX ba ca bo cb x).toArray,.agg (dM q).toArray,iV m]) (by simp[results,Tryz.results26,go_sem,z0,z1,z2,z3,z4,z5,z6,z7,z8,z9,u0,u1,v0,v1,v2,v3,v4,v5,v6,v7,v8,v9,v10]) rfl ⟨pa,pc,p,ba,bo,ca,cb,x,q,m,rfl,HPD.out,hpc,HBD.out,HQ.out,HM.out,A14.out.tail.tail.tail⟩
abbrev FL(c:Bd):List Value:=(cZ c)
def QK(xs:List Bd):Value→World→Prop:=fun v w=>∃c∈xs,v=gW c
theorem PE(B:Nat)(xs:List Bd):cX (EB B) (QK xs):=fun _ _ _ h _=>h
def OH(B:Nat)(xs:List Bd):Value→World→Prop:=fun v w=>∃b o c,c∈xs∧v=.pointer (some ⟨b,o,none⟩)∧b≠B∧∀j u,(dP c)[j]?=some u→w.cell? ⟨b,o+j,none⟩=some u
theorem PJ(B:Nat)(xs:List Bd):cX (EB B) (OH B xs):=fun v w w' ⟨b,o,s,h1,h2,h3,h4⟩ he=>⟨b,o,s,h1,h2,h3,fun j u hu=>he.cell (h4 j u hu) h3⟩
structure RK(w:World)(pa:OA)(pc:Nat)(p:Pl)(ba bo:OA)(ca cb:Nat)(x:Bb)(q:P4)(wx:World):Prop where
 pl:bP cB 1 wx pa p.VL
 bb:dC wx ba bo x
 be:Below w.heap.size w wx
 hz:aA wx (w.heap.size) (mC pa pc p)
 hu:aA wx (w.heap.size+1) (lX ba bo ca cb x)
 hv:aA wx (w.heap.size+1+1) (jK q)
theorem RK.drew{w:World}{pa:OA}{pc:Nat}{p:Pl}{ba bo:OA}{ca cb:Nat}{x:Bb}{q:P4}{wx:World}(h:RK w pa pc p ba bo ca cb x q wx):RK w pa pc p ba bo ca cb x q wx.drew :=
 have hb:Below wx.heap.size wx wx.drew:=bR.drew;⟨h.pl.below hb,h.bb.below hb,h.be.drew,h.hz.kept (by simp) hb,h.hu.kept (by simp) hb,h.hv.kept (by simp) hb⟩
theorem vE(sa:OA)(len cap:Nat)(w:World)(hl:len≤1048576)(hb:mR w sa len w.heap.size) :
  Calls Tryz.prog 21 #[.slice sa len cap] w fun e w'=>∃pa pc p ba bo ca cb x q now,e=.returned (.tuple #[iK pa pc p,gP ba bo ca cb x,kL q,iV now])∧pL p∧p.VL.length≤pc∧nQ x∧qY q∧gV now∧bP cB 1 w' pa p.VL∧dC w' ba bo x∧Below w.heap.size w w':=by
 have O0:Hid (aA ((aW (aW w jU 27) [.slice none 0 0,.slice none 0 0] 31).alloc (.cells (eP 0 0 false false 0 0 0 ⟨#[]⟩ ⟨#[]⟩ ⟨#[]⟩ ⟨#[]⟩).toArray 33)) (w.heap.size) jU):=by
  have h:=aA.new w jU 27;try simp only[UC]at h
  exact((h.alloc _).alloc _)
 have O1:Hid (aA ((aW (aW w jU 27) [.slice none 0 0,.slice none 0 0] 31).alloc (.cells (eP 0 0 false false 0 0 0 ⟨#[]⟩ ⟨#[]⟩ ⟨#[]⟩ ⟨#[]⟩).toArray 33)) (w.heap.size+1) [.slice none 0 0,.slice none 0 0]):=by
  have h:=aA.new (w.alloc (.cells jU.toArray 27)) [.slice none 0 0,.slice none 0 0] 31;try simp only[UC]at h
  exact(h.alloc _)
 have O2:Hid (aA ((aW (aW w jU 27) [.slice none 0 0,.slice none 0 0] 31).alloc (.cells (eP 0 0 false false 0 0 0 ⟨#[]⟩ ⟨#[]⟩ ⟨#[]⟩ ⟨#[]⟩).toArray 33)) (w.heap.size+1+1) (eP 0 0 false false 0 0 0 ⟨#[]⟩ ⟨#[]⟩ ⟨#[]⟩ ⟨#[]⟩)):=by
  have h:=aA.new ((aW w jU 27).alloc (.cells #[.slice none 0 0,.slice none 0 0] 31)) (eP 0 0 false false 0 0 0 ⟨#[]⟩ ⟨#[]⟩ ⟨#[]⟩ ⟨#[]⟩) 33;try simp only[UC]at h
  exact h
 have HZ:Hid (((aW (aW w jU 27) [.slice none 0 0,.slice none 0 0] 31).alloc (.cells (eP 0 0 false false 0 0 0 ⟨#[]⟩ ⟨#[]⟩ ⟨#[]⟩ ⟨#[]⟩).toArray 33)).heap.size=w.heap.size+3):=by unfold Hid;simp
 have HB0:Hid (Below w.heap.size w ((aW (aW w jU 27) [.slice none 0 0,.slice none 0 0] 31).alloc (.cells (eP 0 0 false false 0 0 0 ⟨#[]⟩ ⟨#[]⟩ ⟨#[]⟩ ⟨#[]⟩).toArray 33))):=((bR.alloc lR _).alloc (by simp) _).alloc (by simp;omega) _;have HBY:Hid (mR ((aW (aW w jU 27) [.slice none 0 0,.slice none 0 0] 31).alloc (.cells (eP 0 0 false false 0 0 0 ⟨#[]⟩ ⟨#[]⟩ ⟨#[]⟩ ⟨#[]⟩).toArray 33)) sa len ((aW (aW w jU 27) [.slice none 0 0,.slice none 0 0] 31).alloc (.cells (eP 0 0 false false 0 0 0 ⟨#[]⟩ ⟨#[]⟩ ⟨#[]⟩ ⟨#[]⟩).toArray 33)).heap.size):=(((hb.mono (by simp;try omega)).kept (World.grownBy_alloc _ _ none) (by simp)).kept (World.grownBy_alloc _ _ none) (by simp)).kept (World.grownBy_alloc _ _ none) (by simp);clear hb;have hun:undef=Value.tuple #[]:=rfl;go_enter Tryz.func21,Tryz.ntmps21
 go_upto_region 1 with fail
 generalize World.alloc _ _=W0 at *;go_wp2_with fail
 refine(IG sa len cap W0 hl HBY.out).mono ?_;rintro e w1 ⟨rfl,b1,size,s0,s1,hs1⟩;have HS1:Hid (iY w1 W0.heap.size sa len cap size):=hs1;obtain⟨B,hBd⟩: ∃B,B=W0.heap.size:=⟨_,rfl⟩;rw[←hBd]at hs1 HS1 ⊢;have hB2:w.heap.size+3≤B:=by rw[hBd,HZ.out];exact Nat.le_refl _
 have hB1:B < w1.heap.size:=(Dr.start hs1).hB;have HB1:Hid _:=HB0.out.trans (b1.mono HB0.out.size);have Q0:Hid _:=O0.out.kept (by simp) b1;have Q1:Hid _:=O1.out.kept (by simp) b1;have Q2:Hid _:=O2.out.kept (by simp) b1;clear hs1 b1 s0 s1 O0 O1 O2 HBY HB0 hBd HZ;go_upto_region 2 with fail
 go_wp2_with fail
 refine(CU true B sa len cap size w1 hl HS1.out).mono ?_;rintro e w2 ⟨pa,pc,p,ba,bo,ca,cb,x,q,now,rfl,hpd,hpc,hbd,hq,hnow,hA⟩;have A2:Hid (AS w1 B sa len cap size [] pa p ba bo x w2):=hA;have HQ:Hid (qY q):=hq;have HBD:Hid (nQ x):=hbd;have HPD:Hid (pL p∧p.VL.length≤pc∧gV now):=⟨hpd,hpc,hnow⟩;clear hA hq hbd hpd hpc hnow HS1;unfold iK gP kL;go_upto_region 3 with fail
 have A1:Hid (AS w1 B sa len cap size [(w2.heap.size+1+1,jK q),(w2.heap.size+1,lX ba bo ca cb x),(w2.heap.size,mC pa pc p)] pa p ba bo x ((aW (aW w2 (bG pa pc p) 27) (aX ba ca bo cb x) 31).alloc (.cells (dM q).toArray 33))):=by
  have h:=((A2.out.push (bG pa pc p) (by simp) 27).push (aX ba ca bo cb x) (by simp) 31).push (dM q) (by simp) 33;simp only[UC]at h;exact h
 generalize World.alloc _ _=W3 at *;have hw2:w1.heap.size≤w2.heap.size:=A2.out.db.dr.le;generalize w2.heap.size=Pb at *;obtain⟨Xb,hXb⟩: ∃y,y=Pb+1:=⟨_,rfl⟩;rw[←hXb]at A1;try rw[←hXb]
 obtain⟨Qb,hQb⟩: ∃y,y=Xb+1:=⟨_,rfl⟩;rw[←hQb]at A1;try rw[←hQb]
 have hPX:Pb < Xb:=by omega
 have hXQ:Xb < Qb:=by omega
 have hwP:w1.heap.size≤Pb:=hw2;have A3:Hid (AS w1 B sa len cap size [(Qb,jK q),(Xb,lX ba bo ca cb x),(Pb,mC pa pc p)] pa p ba bo x W3):=A1.out;clear A1 A2 hw2 hXb hQb;have HHb:aA W3 (Xb) (lX ba bo ca cb x):=A3.out.db.at dZ;have b0:=HHb.cell (j:=0) rfl;clear HHb;go_cut [30] (fun v wx=>(∃cc,v=.bool cc∧(cc=true→0 < x.VN.length))∧AS w1 B sa len cap size [(Qb,jK q),(Xb,lX ba bo ca cb x),(Pb,mC pa pc p)] pa p ba bo x wx)
 case first=>
  by_cases hx0:0 < x.VN.length
  case neg=>
   have hxI:¬(0:Int) < (x.VN.length:Int):=by omega
   have HXL:Hid (x.VN=[]):=List.length_eq_zero_iff.1 (by omega);clear hx0;go_wp2_with fail
   go_meet;exact⟨⟨false,by first | rfl | simp[HXL.out],fun h=>by cases h⟩,A3.out⟩
  have hxI:(0:Int) < (x.VN.length:Int):=by omega
  go_wp2_with fail
  refine(bS 4 B sa len cap size _ (by omega) hl A3.out.db.dr.src).mono ?_;rintro e U9 ⟨c9,rfl,hs,hg⟩;have A4:Hid (AS w1 B sa len cap size [(Qb,jK q),(Xb,lX ba bo ca cb x),(Pb,mC pa pc p)] pa p ba bo x U9):=A3.out.draw hs hg;clear hs hg;go_wp2_with fail
  go_meet;exact⟨⟨_,rfl,fun _=>hx0⟩,A4.out⟩
 case rest=>
 obtain⟨⟨cc,rfl,hcc⟩,hA⟩:=hcut;have A5:Hid (AS w1 B sa len cap size [(Qb,jK q),(Xb,lX ba bo ca cb x),(Pb,mC pa pc p)] pa p ba bo x wc):=hA;clear hA A3 b0;generalize wc=W5 at *;go_upto_if 30 with fail
 go_cut [] (fun wx=>∃q,qY q∧AS w1 B sa len cap size [(Qb,jK q),(Xb,lX ba bo ca cb x),(Pb,mC pa pc p)] pa p ba bo x wx)
 case first=>
  cases cc with
  | false=>
   go_wp2_with fail
   go_meet;exact⟨q,HQ.out,A5.out⟩
  | true=>
   have hx0:0 < x.VN.length:=hcc rfl;obtain⟨gs,os,hpa,hgs,-⟩:=A5.out.bb.bd.at (k:=0) hx0;have hgB:gs≠B:=(A5.out.src A5.out.fa).elim (fun e=>by rw[e]at hx0;simp at hx0) (fun h=>h gs os hpa);subst hpa;clear hcc hgs;go_upto_region 4 with fail
   try clear hun
   go_cut [11] (fun v wx=>∃g c,v=.pointer (some ⟨g,0,none⟩)∧c∈x.VN∧Qb < g∧AS w1 B sa len cap size [(g,FL c),(Qb,jK q),(Xb,lX (some ⟨gs,os,none⟩) bo ca cb x),(Pb,mC pa pc p)] pa p (some ⟨gs,os,none⟩) bo x wx)
   case first=>
    rename_i J K2 hJ hK2;refine dY (EB B) (fun wx=>AS w1 B sa len cap size [(Qb,jK q),(Xb,lX (some ⟨gs,os,none⟩) bo ca cb x),(Pb,mC pa pc p)] pa p (some ⟨gs,os,none⟩) bo x wx∧W5.heap.size≤wx.heap.size) [31,32,33,34,35,36,37,38,39,11] (by kernel_rfl) (by kernel_rfl) (⟨A5.out.below bR.drew,Nat.le_refl _⟩) ?_;iterate 6 (apply cS.u xQ rfl;(·intro K' a wy ho hd hI hK;simp[aU,aG,aD,Region.binds]at ho hd;have b0:wy.cell? ⟨Xb,0,none⟩=some (.slice (some ⟨gs,os,none⟩) x.VN.length ca):=(show aA wy (Xb) (lX (some ⟨gs,os,none⟩) bo ca cb x) from hI.1.db.at dZ).cell rfl;go_simp;(try go_bits);exact hK _ rfl);dsimp only[nA,cA])
    refine cS.rel (n:=6) (NZ x.VN.length) (IJ) [_,_,_,_,_,_,NZ x.VN.length] rfl rfl ?_ ?_
    ·intro K' a wy ho hd hI hK;rw[wN rfl];have q2:=hd ⟨2,.data⟩ (by simp) rfl;have q5:=hd ⟨5,.data⟩ (by simp) rfl;simp[aU,aG,aD]at q2 q5;clear hd ho;go_simp;refine(eQ (x.VN.length:Int) B sa len cap size wy (by have:=HBD.out.1;omega) hl hI.1.db.dr.src).mono ?_;rintro e wz ⟨r,rfl,h0,h1,hsz,hgz⟩;obtain⟨k,rfl⟩:=UK h0;exact hK _ _ ⟨k,rfl,by omega⟩ hgz ⟨hI.1.draw hsz hgz,UL hI.2 hgz.size⟩
    refine cS.rel (n:=7) (OH B x.VN) (PJ _ _) [_,_,_,_,_,_,_,OH B x.VN] rfl rfl ?_ ?_
    ·intro K' a wy ho hd hI hK;rw[wN rfl];have q1:=hd ⟨1,.data⟩ (by simp) rfl;simp[aU,aG,aD]at q1;obtain⟨k6,e6,u6⟩: NZ x.VN.length (aD a 37) wy:=hd ⟨6,.data⟩ (by simp) rfl;simp[aD]at e6;clear hd ho;have i0:(k6:Int) < (x.VN.length:Int):=by omega
     have hpt:∀j u,(dP x.VN[k6])[j]?=some u→wy.cell? ⟨gs,os+k6*5+j,none⟩=some u:=by
      obtain⟨g9,o9,e9,_,hat⟩:=hI.1.bb.bd.at u6;injection e9 with e9
      injection e9 with e91 e92
      subst e91 e92;exact fun j u hu=>hat k6 u6 j u hu
     go_simp;exact hK _ _ ⟨gs,_,x.VN[k6],UJ _,rfl,hgB,hpt⟩ (EB.of bR) hI
    refine cS.rel (n:=8) (QK x.VN) (PE _ _) [_,_,_,_,_,_,_,_,QK x.VN] rfl rfl ?_ ?_
    ·intro K' a wy ho hd hI hK;rw[wN rfl];obtain⟨b7,o7,s7,m7,e7,nb7,c7⟩: OH B x.VN (aD a 38) wy:=hd ⟨7,.data⟩ (by simp) rfl;simp[aD]at e7;clear hd ho;have b0:wy.cell? ⟨Xb,0,none⟩=some (.slice (some ⟨gs,os,none⟩) x.VN.length ca):=(show aA wy (Xb) (lX (some ⟨gs,os,none⟩) bo ca cb x) from hI.1.db.at dZ).cell rfl;obtain⟨d0,d1,d2,d3,d4⟩:=LH c7;go_simp;exact hK _ _ ⟨s7,m7,rfl⟩ (EB.of bR) hI
    refine cS.rel (n:=9) (zT W5.drew.heap.size B (gB 0 ⟨#[]⟩ 0 ⟨#[]⟩ 0)) (vR (by simp)) [_,_,_,_,_,_,_,_,_,zT W5.drew.heap.size B (gB 0 ⟨#[]⟩ 0 ⟨#[]⟩ 0)] rfl rfl ?_ ?_
    ·intro K' a wy ho hd hI hK;rw[wN rfl];clear hd ho;go_simp;exact hK _ _ ⟨wy.heap.size,rfl,hI.2,by have:=hI.1.db.dr.le;omega,aA.new wy (gB 0 ⟨#[]⟩ 0 ⟨#[]⟩ 0) _⟩ (EB.of (bR.alloc lR _)) ⟨hI.1.below (bR.alloc lR _),by simp;omega⟩
    intro X wz hR hI;obtain⟨x0,x1,x2,x3,x4,x5,x6,x7,x8,x9,-⟩:=hR;obtain⟨s8,m8,e8⟩:=x8;obtain⟨g9,e9,n9,nb9,c9⟩:=x9;simp only[aG]at x0 x1 x2 x3 x4 x5;simp only[aE,x0,x1,x2,x3,x4,x5,aE,aE,e8,e9];clear x0 x1 x2 x3 x4 x5;have n9':W5.heap.size≤g9:=n9;have hle:w1.heap.size≤W5.heap.size:=A5.out.db.dr.le;have hlt:=A5.out.db.lts;have z0:=c9.cell (j:=0) rfl;have zf0:=c9.free (j:=0) (by simp);have z1:=c9.cell (j:=1) rfl;have zf1:=c9.free (j:=1) (by simp);have z2:=c9.cell (j:=2) rfl;have zf2:=c9.free (j:=2) (by simp);have z3:=c9.cell (j:=3) rfl;have zf3:=c9.free (j:=3) (by simp);have z4:=c9.cell (j:=4) rfl;have zf4:=c9.free (j:=4) (by simp);have l1:=qS A5.out.pl;have l2:=qS A5.out.bb.bd;have l3:=qS A5.out.bb.ss;have hD0:AS w1 B sa len cap size ((g9,(gB 0 ⟨#[]⟩ 0 ⟨#[]⟩ 0))::[(Qb,jK q),(Xb,lX (some ⟨gs,os,none⟩) bo ca cb x),(Pb,mC pa pc p)]) pa p (some ⟨gs,os,none⟩) bo x wz:=⟨⟨hI.1.db.dr,fun e he=>(UH.1 he).elim (fun h=>by rw[h];exact c9) (hI.1.db.k e),fun e he=>(UH.1 he).elim (fun h=>by rw[h];simp) (hI.1.db.z e),fun e he=>(UH.1 he).elim (fun h=>by rw[h];show w1.heap.size≤g9;omega) (hI.1.db.n e)⟩,hI.1.pl,hI.1.bb,hI.1.fp.push (l1.imp id fun f g o e=>by have:=f g o e;omega) _,hI.1.fa.push (l2.imp id fun f g o e=>by have:=f g o e;omega) _,hI.1.fb.push (l3.imp id fun f g o e=>by have:=f g o e;omega) _⟩;have hne9:∀e∈([(Qb,jK q),(Xb,lX (some ⟨gs,os,none⟩) bo ca cb x),(Pb,mC pa pc p)]:List (Nat × List Value)),e.1≠g9:=fun e he=>by have:=hlt e he;omega
    have hD1:=hD0.set (vs':=(gB s8.VF ⟨#[]⟩ 0 ⟨#[]⟩ 0)) 0 (iV s8.VF) rfl hne9;have hD2:=hD1.set (vs':=(gB s8.VF s8.inn 0 ⟨#[]⟩ 0)) 1 (.string s8.inn) rfl hne9;have hD3:=hD2.set (vs':=(gB s8.VF s8.inn s8.VH ⟨#[]⟩ 0)) 2 (iV s8.VH) rfl hne9;have hD4:=hD3.set (vs':=(gB s8.VF s8.inn s8.VH s8.out 0)) 3 (.string s8.out) rfl hne9;have hD5:=hD4.set (vs':=(cZ s8)) 4 (iV s8.VI) rfl hne9;have HD:Hid (AS w1 B sa len cap size ((g9,FL s8)::[(Qb,jK q),(Xb,lX (some ⟨gs,os,none⟩) bo ca cb x),(Pb,mC pa pc p)]) pa p (some ⟨gs,os,none⟩) bo x ((sW (sW (sW (sW wz g9 0 (iV s8.VF)) g9 1 (.string s8.inn)) g9 2 (iV s8.VH)) g9 3 (.string s8.out)).setCell ⟨g9,4,none⟩ (iV s8.VI))):=hD5;have hgX:Qb < g9:=by have:=hlt _ (List.mem_cons_self ..);simp at this;omega
    clear hD1 hD2 hD3 hD4 hD5 hD0 hne9 c9 hI hlt;unfold gW;intro K5 hK5;go_simp;refine hK5 _ _ ?_;show Exit.then _ _ _ _ _;refine hK2 _ _ (hJ _ _ ?_);(repeat apply Exists.intro)
    exact⟨⟨g9,s8,rfl,m8,hgX,HD.out⟩,rfl⟩
   case rest=>
   obtain⟨g,c,rfl,hcm,hgQ,hS⟩:=hcut;have A6:Hid (AS w1 B sa len cap size [(g,FL c),(Qb,jK q),(Xb,lX (some ⟨gs,os,none⟩) bo ca cb x),(Pb,mC pa pc p)] pa p (some ⟨gs,os,none⟩) bo x wc):=hS;clear hS A5;generalize wc=W6 at *;have hcd:uY c:=HBD.out.2.2.1 c hcm;have HT:Hid (oH (⟨c.VF,true,⟨#[10,0,0,7]⟩,1002,c.out,c.VI,2⟩: Tc)):=⟨by show 4≤1000;omega,hcd.2.1,hcd.2.2.1⟩;clear hcm hcd;have HHs:aA W6 (g) (FL c):=A6.out.db.at cM;have s0:=HHs.cell (j:=0) rfl;have s1:=HHs.cell (j:=1) rfl;have s2:=HHs.cell (j:=2) rfl;have s3:=HHs.cell (j:=3) rfl;have s4:=HHs.cell (j:=4) rfl;clear HHs;go_upto_region 6 with fail
   have A7:Hid (AS w1 B sa len cap size ((W6.heap.size,rG (⟨c.VF,true,⟨#[10,0,0,7]⟩,1002,c.out,c.VI,2⟩: Tc))::[(g,FL c),(Qb,jK q),(Xb,lX (some ⟨gs,os,none⟩) bo ca cb x),(Pb,mC pa pc p)]) pa p (some ⟨gs,os,none⟩) bo x (W6.alloc (.cells (eH c.VF true ⟨#[10,0,0,7]⟩ 1002 c.out c.VI 2).toArray 89))):=A6.out.push (eH c.VF true ⟨#[10,0,0,7]⟩ 1002 c.out c.VI 2) (by simp) 89;have hQ7:Qb < W6.heap.size:=A6.out.db.lts _ dZ;generalize (W6.alloc (.cells (eH c.VF true ⟨#[10,0,0,7]⟩ 1002 c.out c.VI 2).toArray 89))=W7 at *;generalize W6.heap.size=Tb at *;clear A6 s0 s1 s2 s3 s4;have HHt:aA W7 Tb (rG (⟨c.VF,true,⟨#[10,0,0,7]⟩,1002,c.out,c.VI,2⟩: Tc)):=A7.out.db.at cM;have t0:=HHt.cell (j:=0) rfl;have t1:=HHt.cell (j:=1) rfl;have t2:=HHt.cell (j:=2) rfl;have t3:=HHt.cell (j:=3) rfl;have t4:=HHt.cell (j:=4) rfl;have t5:=HHt.cell (j:=5) rfl;have t6:=HHt.cell (j:=6) rfl;clear HHt;have HP9:Hid _:=sE (⟨c.VF,true,⟨#[10,0,0,7]⟩,1002,c.out,c.VI,2⟩: Tc) B sa len cap size W7 hl HT.out A7.out.db.dr.src;unfold pJ at HP9;go_wp2_with fail
   refine Calls.mono HP9.out ?_;rintro e w8 ⟨⟨q2,rfl,hq2⟩,hs,hg⟩;have HQ2:Hid (qY q2):=hq2;have A8:Hid (AS w1 B sa len cap size ([(Qb,jK q),(Tb,rG (⟨c.VF,true,⟨#[10,0,0,7]⟩,1002,c.out,c.VI,2⟩: Tc)),(g,FL c),(Xb,lX (some ⟨gs,os,none⟩) bo ca cb x),(Pb,mC pa pc p)]) pa p (some ⟨gs,os,none⟩) bo x w8):=(A7.out.draw hs hg).rot;clear hs hg hq2 A7 HP9 HT t0 t1 t2 t3 t4 t5 t6;unfold kL;have HNQ:Hid (∀e∈([(Tb,rG (⟨c.VF,true,⟨#[10,0,0,7]⟩,1002,c.out,c.VI,2⟩: Tc)),(g,FL c),(Xb,lX (some ⟨gs,os,none⟩) bo ca cb x),(Pb,mC pa pc p)]:List (Nat × List Value)),e.1≠Qb):=fun e he=>by
    simp only[UH,UG,or_false]at he;rcases he with rfl|rfl|rfl|rfl<;>simp<;>omega
   have HHy:aA w8 (Qb) (jK q):=A8.out.db.at cM;have y0:=HHy.cell (j:=0) rfl;have y1:=HHy.cell (j:=1) rfl;have y2:=HHy.cell (j:=2) rfl;have y3:=HHy.cell (j:=3) rfl;have y4:=HHy.cell (j:=4) rfl;have y5:=HHy.cell (j:=5) rfl;have y6:=HHy.cell (j:=6) rfl;have y7:=HHy.cell (j:=7) rfl;have y8:=HHy.cell (j:=8) rfl;have y9:=HHy.cell (j:=9) rfl;have y10:=HHy.cell (j:=10) rfl;have yf0:=HHy.free (j:=0) (by simp);have yf1:=HHy.free (j:=1) (by simp);have yf2:=HHy.free (j:=2) (by simp);have yf3:=HHy.free (j:=3) (by simp);have yf4:=HHy.free (j:=4) (by simp);have yf5:=HHy.free (j:=5) (by simp);have yf6:=HHy.free (j:=6) (by simp);have yf7:=HHy.free (j:=7) (by simp);have yf8:=HHy.free (j:=8) (by simp);have yf9:=HHy.free (j:=9) (by simp);have yf10:=HHy.free (j:=10) (by simp);clear HHy;have hE0:=A8.out.set (vs':=(eP q2.tos q.id q.whole q.more q.off q.ttl q.VF q.src q.dst q.opts q.data)) 0 (iV q2.tos) rfl HNQ.out;have hE1:=hE0.set (vs':=(eP q2.tos q2.id q.whole q.more q.off q.ttl q.VF q.src q.dst q.opts q.data)) 1 (iV q2.id) rfl HNQ.out;have hE2:=hE1.set (vs':=(eP q2.tos q2.id q2.whole q.more q.off q.ttl q.VF q.src q.dst q.opts q.data)) 2 (.bool q2.whole) rfl HNQ.out;have hE3:=hE2.set (vs':=(eP q2.tos q2.id q2.whole q2.more q.off q.ttl q.VF q.src q.dst q.opts q.data)) 3 (.bool q2.more) rfl HNQ.out;have hE4:=hE3.set (vs':=(eP q2.tos q2.id q2.whole q2.more q2.off q.ttl q.VF q.src q.dst q.opts q.data)) 4 (iV q2.off) rfl HNQ.out;have hE5:=hE4.set (vs':=(eP q2.tos q2.id q2.whole q2.more q2.off q2.ttl q.VF q.src q.dst q.opts q.data)) 5 (iV q2.ttl) rfl HNQ.out;have hE6:=hE5.set (vs':=(eP q2.tos q2.id q2.whole q2.more q2.off q2.ttl q2.VF q.src q.dst q.opts q.data)) 6 (iV q2.VF) rfl HNQ.out;have hE7:=hE6.set (vs':=(eP q2.tos q2.id q2.whole q2.more q2.off q2.ttl q2.VF q2.src q.dst q.opts q.data)) 7 (.string q2.src) rfl HNQ.out;have hE8:=hE7.set (vs':=(eP q2.tos q2.id q2.whole q2.more q2.off q2.ttl q2.VF q2.src q2.dst q.opts q.data)) 8 (.string q2.dst) rfl HNQ.out;have hE9:=hE8.set (vs':=(eP q2.tos q2.id q2.whole q2.more q2.off q2.ttl q2.VF q2.src q2.dst q2.opts q.data)) 9 (.string q2.opts) rfl HNQ.out;have hE10:=hE9.set (vs':=(dM q2)) 10 (.string q2.data) rfl HNQ.out;have A9:Hid (AS w1 B sa len cap size [(Qb,jK q2),(Xb,lX (some ⟨gs,os,none⟩) bo ca cb x),(Pb,mC pa pc p)] pa p (some ⟨gs,os,none⟩) bo x ((sW (sW (sW (sW (sW (sW (sW (sW (sW (sW w8 Qb 0 (iV q2.tos)) Qb 1 (iV q2.id)) Qb 2 (.bool q2.whole)) Qb 3 (.bool q2.more)) Qb 4 (iV q2.off)) Qb 5 (iV q2.ttl)) Qb 6 (iV q2.VF)) Qb 7 (.string q2.src)) Qb 8 (.string q2.dst)) Qb 9 (.string q2.opts)).setCell ⟨Qb,10,none⟩ (.string q2.data))):=hE10.perm (fun e he=>by simp only[UH,UG,or_false]at he ⊢;rcases he with h|h|h<;>simp[h])
   clear A8 hE0 hE1 hE2 hE3 hE4 hE5 hE6 hE7 hE8 hE9 hE10;go_wp2_with fail
   go_meet;exact⟨q2,HQ2.out,A9.out⟩
 case rest=>
 obtain⟨q',hq',hA⟩:=hcut;have HQ':Hid (qY q'):=hq';have A10:Hid (AS w1 B sa len cap size [(Qb,jK q'),(Xb,lX ba bo ca cb x),(Pb,mC pa pc p)] pa p ba bo x wc):=hA;clear hA hq' A5 HQ hcc;generalize wc=W10 at *;have hg:=A10.out.db.dr.grown;have HHp:aA W10 (Pb) (mC pa pc p):=A10.out.db.at eL;have p0:=HHp.cell (j:=0) rfl;have p1:=HHp.cell (j:=1) rfl;have p2:=HHp.cell (j:=2) rfl;have p3:=HHp.cell (j:=3) rfl;have p4:=HHp.cell (j:=4) rfl;have p5:=HHp.cell (j:=5) rfl;have p6:=HHp.cell (j:=6) rfl;have p7:=HHp.cell (j:=7) rfl;have p8:=HHp.cell (j:=8) rfl;have p9:=HHp.cell (j:=9) rfl;clear HHp;have HHb:aA W10 (Xb) (lX ba bo ca cb x):=A10.out.db.at dZ;have b0:=HHb.cell (j:=0) rfl;have b1:=HHb.cell (j:=1) rfl;clear HHb;have HHy:aA W10 (Qb) (jK q'):=A10.out.db.at cM;have y0:=HHy.cell (j:=0) rfl;have y1:=HHy.cell (j:=1) rfl;have y2:=HHy.cell (j:=2) rfl;have y3:=HHy.cell (j:=3) rfl;have y4:=HHy.cell (j:=4) rfl;have y5:=HHy.cell (j:=5) rfl;have y6:=HHy.cell (j:=6) rfl;have y7:=HHy.cell (j:=7) rfl;have y8:=HHy.cell (j:=8) rfl;have y9:=HHy.cell (j:=9) rfl;have y10:=HHy.cell (j:=10) rfl;clear HHy;have Hz:aA W10 (w.heap.size) jU:=Q0.out.grown (by simp) hg (by simp;omega);have z0:=Hz.cell (j:=0) rfl;have z1:=Hz.cell (j:=1) rfl;have z2:=Hz.cell (j:=2) rfl;have z3:=Hz.cell (j:=3) rfl;have z4:=Hz.cell (j:=4) rfl;have z5:=Hz.cell (j:=5) rfl;have z6:=Hz.cell (j:=6) rfl;have z7:=Hz.cell (j:=7) rfl;have z8:=Hz.cell (j:=8) rfl;have z9:=Hz.cell (j:=9) rfl;have zf0:=Hz.free (j:=0) (by simp);have zf1:=Hz.free (j:=1) (by simp);have zf2:=Hz.free (j:=2) (by simp);have zf3:=Hz.free (j:=3) (by simp);have zf4:=Hz.free (j:=4) (by simp);have zf5:=Hz.free (j:=5) (by simp);have zf6:=Hz.free (j:=6) (by simp);have zf7:=Hz.free (j:=7) (by simp);have zf8:=Hz.free (j:=8) (by simp);have zf9:=Hz.free (j:=9) (by simp);have Hu:aA W10 (w.heap.size+1) [.slice none 0 0,.slice none 0 0]:=Q1.out.grown (by simp) hg (by simp;omega);have u0:=Hu.cell (j:=0) rfl;have u1:=Hu.cell (j:=1) rfl;have uf0:=Hu.free (j:=0) (by simp);have uf1:=Hu.free (j:=1) (by simp);have Hv:aA W10 (w.heap.size+1+1) (eP 0 0 false false 0 0 0 ⟨#[]⟩ ⟨#[]⟩ ⟨#[]⟩ ⟨#[]⟩):=Q2.out.grown (by simp) hg (by simp;omega);have v0:=Hv.cell (j:=0) rfl;have v1:=Hv.cell (j:=1) rfl;have v2:=Hv.cell (j:=2) rfl;have v3:=Hv.cell (j:=3) rfl;have v4:=Hv.cell (j:=4) rfl;have v5:=Hv.cell (j:=5) rfl;have v6:=Hv.cell (j:=6) rfl;have v7:=Hv.cell (j:=7) rfl;have v8:=Hv.cell (j:=8) rfl;have v9:=Hv.cell (j:=9) rfl;have v10:=Hv.cell (j:=10) rfl;have vf0:=Hv.free (j:=0) (by simp);have vf1:=Hv.free (j:=1) (by simp);have vf2:=Hv.free (j:=2) (by simp);have vf3:=Hv.free (j:=3) (by simp);have vf4:=Hv.free (j:=4) (by simp);have vf5:=Hv.free (j:=5) (by simp);have vf6:=Hv.free (j:=6) (by simp);have vf7:=Hv.free (j:=7) (by simp);have vf8:=Hv.free (j:=8) (by simp);have vf9:=Hv.free (j:=9) (by simp);have vf10:=Hv.free (j:=10) (by simp);have np:∀ {R},R < w1.heap.size→(p.VL=[]∨∀g o,pa=some ⟨g,o,none⟩→g≠R):=fun h=>A10.out.fp.imp id fun f g o e=>by have:=(f g o e).1;omega
 have na:∀ {R},R < w1.heap.size→(x.VN=[]∨∀g o,ba=some ⟨g,o,none⟩→g≠R):=fun h=>A10.out.fa.imp id fun f g o e=>by have:=(f g o e).1;omega
 have nb:∀ {R},R < w1.heap.size→(x.VK=[]∨∀g o,bo=some ⟨g,o,none⟩→g≠R):=fun h=>A10.out.fb.imp id fun f g o e=>by have:=(f g o e).1;omega
 have hBw:w.heap.size+1+1 < w1.heap.size:=by omega
 have HNF:Hid (RK w pa pc p ba bo ca cb x q' ((sW (sW (sW (sW (sW (sW (sW (sW (sW (sW (sW (sW (sW (sW (sW (sW (sW (sW (sW (sW (sW (sW W10 w.heap.size 0 (.slice pa p.VL.length pc)) w.heap.size 1 (iV p.low)) w.heap.size 2 (iV p.high)) w.heap.size 3 (iV p.most)) w.heap.size 4 (iV p.filter)) w.heap.size 5 (iV p.lv.udp)) w.heap.size 6 (iV p.lv.echo)) w.heap.size 7 (iV p.lv.opening)) w.heap.size 8 (iV p.lv.opn)) w.heap.size 9 (iV p.lv.closing)) (w.heap.size+1) 0 (.slice ba x.VN.length ca)) (w.heap.size+1) 1 (.slice bo x.VK.length cb)) (w.heap.size+1+1) 0 (iV q'.tos)) (w.heap.size+1+1) 1 (iV q'.id)) (w.heap.size+1+1) 2 (.bool q'.whole)) (w.heap.size+1+1) 3 (.bool q'.more)) (w.heap.size+1+1) 4 (iV q'.off)) (w.heap.size+1+1) 5 (iV q'.ttl)) (w.heap.size+1+1) 6 (iV q'.VF)) (w.heap.size+1+1) 7 (.string q'.src)) (w.heap.size+1+1) 8 (.string q'.dst)) (w.heap.size+1+1) 9 (.string q'.opts)).setCell ⟨w.heap.size+1+1,10,none⟩ (.string q'.data))):=⟨(aJ (aJ (aJ (aJ (aJ (aJ (aJ (aJ (aJ (aJ (aJ (aJ (aJ (aJ (aJ (aJ (aJ (aJ (aJ (aJ (aJ (aJ (aJ A10.out.pl (np (by omega)) 0 _) (np (by omega)) 1 _) (np (by omega)) 2 _) (np (by omega)) 3 _) (np (by omega)) 4 _) (np (by omega)) 5 _) (np (by omega)) 6 _) (np (by omega)) 7 _) (np (by omega)) 8 _) (np (by omega)) 9 _) (np (by omega)) 0 _) (np (by omega)) 1 _) (np (by omega)) 0 _) (np (by omega)) 1 _) (np (by omega)) 2 _) (np (by omega)) 3 _) (np (by omega)) 4 _) (np (by omega)) 5 _) (np (by omega)) 6 _) (np (by omega)) 7 _) (np (by omega)) 8 _) (np (by omega)) 9 _) (np (by omega)) 10 _),⟨(aJ (aJ (aJ (aJ (aJ (aJ (aJ (aJ (aJ (aJ (aJ (aJ (aJ (aJ (aJ (aJ (aJ (aJ (aJ (aJ (aJ (aJ (aJ A10.out.bb.bd (na (by omega)) 0 _) (na (by omega)) 1 _) (na (by omega)) 2 _) (na (by omega)) 3 _) (na (by omega)) 4 _) (na (by omega)) 5 _) (na (by omega)) 6 _) (na (by omega)) 7 _) (na (by omega)) 8 _) (na (by omega)) 9 _) (na (by omega)) 0 _) (na (by omega)) 1 _) (na (by omega)) 0 _) (na (by omega)) 1 _) (na (by omega)) 2 _) (na (by omega)) 3 _) (na (by omega)) 4 _) (na (by omega)) 5 _) (na (by omega)) 6 _) (na (by omega)) 7 _) (na (by omega)) 8 _) (na (by omega)) 9 _) (na (by omega)) 10 _),(aJ (aJ (aJ (aJ (aJ (aJ (aJ (aJ (aJ (aJ (aJ (aJ (aJ (aJ (aJ (aJ (aJ (aJ (aJ (aJ (aJ (aJ (aJ A10.out.bb.ss (nb (by omega)) 0 _) (nb (by omega)) 1 _) (nb (by omega)) 2 _) (nb (by omega)) 3 _) (nb (by omega)) 4 _) (nb (by omega)) 5 _) (nb (by omega)) 6 _) (nb (by omega)) 7 _) (nb (by omega)) 8 _) (nb (by omega)) 9 _) (nb (by omega)) 0 _) (nb (by omega)) 1 _) (nb (by omega)) 0 _) (nb (by omega)) 1 _) (nb (by omega)) 2 _) (nb (by omega)) 3 _) (nb (by omega)) 4 _) (nb (by omega)) 5 _) (nb (by omega)) 6 _) (nb (by omega)) 7 _) (nb (by omega)) 8 _) (nb (by omega)) 9 _) (nb (by omega)) 10 _)⟩,(sCl (sCl (sCl (sCl (sCl (sCl (sCl (sCl (sCl (sCl (sCl (sCl (sCl (sCl (sCl (sCl (sCl (sCl (sCl (sCl (sCl (sCl (sCl (FN HB1.out hg (by omega) HB1.out.size) lR) lR) lR) lR) lR) lR) lR) lR) lR) lR) (Nat.le_succ _)) (Nat.le_succ _)) (Nat.le_add_right _ 2)) (Nat.le_add_right _ 2)) (Nat.le_add_right _ 2)) (Nat.le_add_right _ 2)) (Nat.le_add_right _ 2)) (Nat.le_add_right _ 2)) (Nat.le_add_right _ 2)) (Nat.le_add_right _ 2)) (Nat.le_add_right _ 2)) (Nat.le_add_right _ 2)) (Nat.le_add_right _ 2)),(eO (eO (eO (eO (eO (eO (eO (eO (eO (eO (eO (eO (eO ((((((((((Hz.set 0 _).set 1 _).set 2 _).set 3 _).set 4 _).set 5 _).set 6 _).set 7 _).set 8 _).set 9 _)))))))))))))),(eO (eO (eO (eO (eO (eO (eO (eO (eO (eO (eO (((eO (eO (eO (eO (eO (eO (eO (eO (eO (eO Hu)))))))))).set 0 _).set 1 _)))))))))))),((((((((((((eO (eO (eO (eO (eO (eO (eO (eO (eO (eO (eO (eO Hv)))))))))))).set 0 _).set 1 _).set 2 _).set 3 _).set 4 _).set 5 _).set 6 _).set 7 _).set 8 _).set 9 _).set 10 _)⟩
 have gd0Pb:¬w.heap.size=Pb:=by omega
 have kd0Pb:¬Pb=w.heap.size:=fun e=>gd0Pb e.symm
 have gd0Xb:¬w.heap.size=Xb:=by omega
 have kd0Xb:¬Xb=w.heap.size:=fun e=>gd0Xb e.symm
 have gd0Qb:¬w.heap.size=Qb:=by omega
 have kd0Qb:¬Qb=w.heap.size:=fun e=>gd0Qb e.symm
 have gd1Pb:¬w.heap.size+1=Pb:=by omega
 have kd1Pb:¬Pb=w.heap.size+1:=fun e=>gd1Pb e.symm
 have gd1Xb:¬w.heap.size+1=Xb:=by omega
 have kd1Xb:¬Xb=w.heap.size+1:=fun e=>gd1Xb e.symm
 have gd1Qb:¬w.heap.size+1=Qb:=by omega
 have kd1Qb:¬Qb=w.heap.size+1:=fun e=>gd1Qb e.symm
 have gd2Pb:¬w.heap.size+1+1=Pb:=by omega
 have kd2Pb:¬Pb=w.heap.size+1+1:=fun e=>gd2Pb e.symm
 have gd2Xb:¬w.heap.size+1+1=Xb:=by omega
 have kd2Xb:¬Xb=w.heap.size+1+1:=fun e=>gd2Xb e.symm
 have gd2Qb:¬w.heap.size+1+1=Qb:=by omega
 have kd2Qb:¬Qb=w.heap.size+1+1:=fun e=>gd2Qb e.symm
 clear Hz Hu Hv np na nb hg A10 Q0 Q1 Q2 HB1;go_upto_region 7 with fail
 go_cut [5] (fun v wx=>v=iV now∧RK w pa pc p ba bo ca cb x q' wx)
 case first=>
  go_region_held (fun wy=>wy.cell? ⟨Pb,0,none⟩=some (.slice pa p.VL.length pc)∧wy.cell? ⟨Pb,1,none⟩=some (iV p.low)∧wy.cell? ⟨Pb,2,none⟩=some (iV p.high)∧wy.cell? ⟨Pb,3,none⟩=some (iV p.most)∧wy.cell? ⟨Pb,4,none⟩=some (iV p.filter)∧wy.cell? ⟨Pb,5,none⟩=some (iV p.lv.udp)∧wy.cell? ⟨Pb,6,none⟩=some (iV p.lv.echo)∧wy.cell? ⟨Pb,7,none⟩=some (iV p.lv.opening)∧wy.cell? ⟨Pb,8,none⟩=some (iV p.lv.opn)∧wy.cell? ⟨Pb,9,none⟩=some (iV p.lv.closing)∧wy.cell? ⟨Xb,0,none⟩=some (.slice ba x.VN.length ca)∧wy.cell? ⟨Xb,1,none⟩=some (.slice bo x.VK.length cb)∧wy.cell? ⟨Qb,0,none⟩=some (iV q'.tos)∧wy.cell? ⟨Qb,1,none⟩=some (iV q'.id)∧wy.cell? ⟨Qb,2,none⟩=some (.bool q'.whole)∧wy.cell? ⟨Qb,3,none⟩=some (.bool q'.more)∧wy.cell? ⟨Qb,4,none⟩=some (iV q'.off)∧wy.cell? ⟨Qb,5,none⟩=some (iV q'.ttl)∧wy.cell? ⟨Qb,6,none⟩=some (iV q'.VF)∧wy.cell? ⟨Qb,7,none⟩=some (.string q'.src)∧wy.cell? ⟨Qb,8,none⟩=some (.string q'.dst)∧wy.cell? ⟨Qb,9,none⟩=some (.string q'.opts)∧wy.cell? ⟨Qb,10,none⟩=some (.string q'.data)) (go_keep) (fail)
  all_goals go_wp2_with fail
  all_goals go_meet
  all_goals first
   | exact⟨rfl,HNF.out.drew⟩
   | exact⟨rfl,HNF.out⟩
 case rest=>
 obtain⟨rfl,hF⟩:=hcut;have HF:Hid (RK w pa pc p ba bo ca cb x q' wc):=hF;clear hF HNF p0 p1 p2 p3 p4 p5 p6 p7 p8 p9 b0 b1 y0 y1 y2 y3 y4 y5 y6 y7 y8 y9 y10 z0 zf0 z1 zf1 z2 zf2 z3 zf3 z4 zf4 z5 zf5 z6 zf6 z7 zf7 z8 zf8 z9 zf9 u0 u1 uf0 uf1 v0 vf0 v1 vf1 v2 vf2 v3 vf3 v4 vf4 v5 vf5 v6 vf6 v7 vf7 v8 vf8 v9 vf9 v10 vf10;have z0:=HF.out.hz.cell (j:=0) rfl;have z1:=HF.out.hz.cell (j:=1) rfl;have z2:=HF.out.hz.cell (j:=2) rfl;have z3:=HF.out.hz.cell (j:=3) rfl;have z4:=HF.out.hz.cell (j:=4) rfl;have z5:=HF.out.hz.cell (j:=5) rfl;have z6:=HF.out.hz.cell (j:=6) rfl;have z7:=HF.out.hz.cell (j:=7) rfl;have z8:=HF.out.hz.cell (j:=8) rfl;have z9:=HF.out.hz.cell (j:=9) rfl;have u0:=HF.out.hu.cell (j:=0) rfl;have u1:=HF.out.hu.cell (j:=1) rfl;have v0:=HF.out.hv.cell (j:=0) rfl;have v1:=HF.out.hv.cell (j:=1) rfl;have v2:=HF.out.hv.cell (j:=2) rfl;have v3:=HF.out.hv.cell (j:=3) rfl;have v4:=HF.out.hv.cell (j:=4) rfl;have v5:=HF.out.hv.cell (j:=5) rfl;have v6:=HF.out.hv.cell (j:=6) rfl;have v7:=HF.out.hv.cell (j:=7) rfl;have v8:=HF.out.hv.cell (j:=8) rfl;have v9:=HF.out.hv.cell (j:=9) rfl;have v10:=HF.out.hv.cell (j:=10) rfl;go_wp2_with fail
 exact VB (v:=.tuple #[.agg (bG pa pc p).toArray,.agg (aX ba ca bo cb x).toArray,.agg (dM q').toArray,iV now]) (by simp[results,Tryz.results21,go_sem,z0,z1,z2,z3,z4,z5,z6,z7,z8,z9,u0,u1,v0,v1,v2,v3,v4,v5,v6,v7,v8,v9,v10]) rfl ⟨pa,pc,p,ba,bo,ca,cb,x,q',now,rfl,HPD.out.1,HPD.out.2.1,HBD.out,HQ'.out,HPD.out.2.2,HF.out.pl,HF.out.bb,HF.out.be⟩
structure JK(w:World)(ks:List (Nat × List Value))(pa:OA)(p:Pl)(ba bo:OA)(x:Bb)(xa xb:OA)(y:Bb)(wx:World):Prop where
 bx:dD w ks wx
 pl:bP cB 1 wx pa p.VL
 bb:dC wx ba bo x
 yy:dC wx xa xb y
theorem JK.kept{w:World}{ks:List (Nat × List Value)}{pa:OA}{p:Pl}{ba bo:OA}{x:Bb}{xa xb:OA}{y:Bb}{wx wy:World}(h:JK w ks pa p ba bo x xa xb y wx)(hb:Below wx.heap.size wx wy):JK w ks pa p ba bo x xa xb y wy:=⟨h.bx.kept hb,h.pl.below hb,h.bb.below hb,h.yy.below hb⟩
theorem JK.push{w:World}{ks:List (Nat × List Value)}{pa:OA}{p:Pl}{ba bo:OA}{x:Bb}{xa xb:OA}{y:Bb}{wx:World}(h:JK w ks pa p ba bo x xa xb y wx)(vs:List Value)(hv:0 < vs.length)(T:TypeId):JK w ((wx.heap.size,vs)::ks) pa p ba bo x xa xb y (wx.alloc (.cells vs.toArray T)) :=
 have hb:Below wx.heap.size wx (wx.alloc (.cells vs.toArray T)):=bR.alloc lR _;⟨h.bx.push vs hv T,h.pl.below hb,h.bb.below hb,h.yy.below hb⟩
abbrev QO(c:Bd):List Value:=(cZ c)
abbrev CB(w1:World)(pa:OA)(pc:Nat)(p:Pl)(ba bo:OA)(ca cb:Nat)(x:Bb)(q:P4):List (Nat × List Value):=[(w1.heap.size+1+1,jK q),(w1.heap.size+1,lX ba bo ca cb x),(w1.heap.size,mC pa pc p)]
theorem QP{p:Pl}{x:Bb}(h:oD p x)(hsz:∀s∈p.VL,s.size≤1048576):vU x.VN:=by
 obtain⟨h1,_,h3,_⟩:=tG h hsz;exact⟨h1,fun q hq=>⟨(h3 q hq).1,(h3 q hq).2.1⟩⟩
end Go.Proofs.YtdkepkaflielhaaGreatDoor
