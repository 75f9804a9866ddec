import Derived.Test.YtdkepkaflielhaaGreatDoorMerged15
set_option linter.unusedVariables false
set_option linter.unusedSimpArgs false
set_option maxRecDepth 100000
set_option maxHeartbeats 8000000
namespace Go.Proofs.YtdkepkaflielhaaGreatDoor
open Go.RowKit Go.PlainAid
def SK(n B:Nat):Value→World→Prop:=fun v w=>∃(g k:Nat) (h mo fi:Int) (l:Lv),v=.agg #[.slice (some ⟨g,0,none⟩) k 2,iV 1000,iV h,iV mo,iV fi,iV l.udp,iV l.echo,iV l.opening,iV l.opn,iV l.closing]∧1≤k∧k≤2∧n≤g∧g≠B∧aA w g [.string ⟨#[203,0,113,1]⟩,.string ⟨#[203,0,113,2]⟩]
theorem QV(n B:Nat):cU (EB B) (SK n B):=fun v w w' ⟨g,k,h,mo,fi,l,h1,h2,h3,h4,h5,h6⟩ he=>⟨g,k,h,mo,fi,l,h1,h2,h3,h4,h5,EB.holds he h6 (by simp) h5⟩
theorem zR(B:Nat)(sa:OA)(len cap:Nat)(size:Int)(w:World)(hl:len≤1048576)(hs:iT w B sa len cap size) :
  Calls Tryz.prog 88 #[.pointer (some ⟨B,0,none⟩)] w fun e w'=>∃pa pc p,e=.returned (jQ pa pc p)∧pH p∧p.VA.length≤pc∧bP bX 1 w' pa p.VA∧(∀g o,pa=some ⟨g,o,none⟩→w.heap.size≤g)∧iT w' B sa len cap size∧w.grownBy w' (some B):=by
 have hBW:B < w.heap.size:=(Dr.start hs).hB;have O0:Hid (aA (w.alloc (.cells jU.toArray 27)) w.heap.size gL):=aA.new w gL _;have D0:Hid (Dr w B sa len cap size (w.alloc (.cells jU.toArray 27))):=(Dr.start hs).alloc _;clear hs;go_enter Tryz.func88,Tryz.ntmps88
 go_upto_region 1 with fail
 have hRW:w.heap.size < (w.alloc (.cells jU.toArray 27)).heap.size:=O0.out.lt (by simp[gL]);generalize (w.alloc (.cells jU.toArray 27))=W at *;go_cut [3] (fun v wx=>∃X pa pc p,v=.pointer (some ⟨X,0,none⟩)∧PS w B sa len cap size w.heap.size X pa pc p wx∧p.VA.length≤2)
 case first=>
  rename_i J K2 hJ hK2;refine eU (EB B) (fun wx=>Dr w B sa len cap size wx∧aA wx w.heap.size gL∧W.heap.size≤wx.heap.size) [4,5,6,7,8,9,10,11,12,13,14,15,16,17,18,19,3] (by kernel_rfl) (by kernel_rfl) (⟨D0.out.below bR.drew,O0.out.drew,Nat.le_refl _⟩) ?_;refine cP.rel (n:=0) (FH W.drew.heap.size B [.string ⟨#[203,0,113,1]⟩,.string ⟨#[203,0,113,2]⟩]) (JB (by simp)) [FH W.drew.heap.size B [.string ⟨#[203,0,113,1]⟩,.string ⟨#[203,0,113,2]⟩]] rfl rfl ?_ ?_
  ·intro K' a wy ho hd hI hK;rw[wN rfl];clear hd ho;go_simp;exact hK _ _ ⟨wy.heap.size,rfl,hI.2.2,by have:=hI.1.le;omega,aA.new wy [.string ⟨#[203,0,113,1]⟩,.string ⟨#[203,0,113,2]⟩] _⟩ (EB.of (bR.alloc lR _)) ⟨hI.1.alloc _,hI.2.1.alloc _,by simp;omega⟩
  (apply cP.u xQ rfl;(·intro K' a wy ho hd hI hK;simp[aS,aF,aD,Region.binds]at ho hd;go_simp;(try go_bits);exact hK _ rfl);dsimp only[nA,cA])
  refine cP.rel (n:=2) (XR 0 1) (qB _ _ _) [_,_,XR 0 1] rfl rfl ?_ ?_
  ·intro K' a wy ho hd hI hK;rw[wN rfl];have q1:=hd ⟨1,.data⟩ (by simp) rfl;simp[aS,aF,aD]at q1;clear hd ho;go_simp;refine(fE 2 B sa len cap size wy (by omega) hl hI.1.src).mono ?_;rintro e wz ⟨r,rfl,h0,h1,hsz,hgz⟩;exact hK _ _ ⟨r,rfl,by omega,by omega⟩ hgz ⟨hI.1.draw hsz hgz,hI.2.1.grown (by simp[gL]) hgz (by simp;omega),UA hI.2.2 hgz.size⟩
  refine cP.rel (n:=3) (XR 1 2) (qB _ _ _) [_,_,_,XR 1 2] rfl rfl ?_ ?_
  ·intro K' a wy ho hd hI hK;rw[wN rfl];obtain⟨r2,e2,l2,u2⟩: XR 0 1 (aD a 6) wy:=hd ⟨2,.data⟩ (by simp) rfl;simp[aD]at e2;clear hd ho;have hw:IntKind.i64.wrap (1+r2)=1+r2:=by rw[IntKind.wrap_i64];omega
   go_simp;exact hK _ _ ⟨1+r2,rfl,by omega,by omega⟩ (EB.of bR) hI
  refine cP.rel (n:=4) (NW W.drew.heap.size B [.string ⟨#[203,0,113,1]⟩,.string ⟨#[203,0,113,2]⟩]) (OX (by simp)) [_,_,_,_,NW W.drew.heap.size B [.string ⟨#[203,0,113,1]⟩,.string ⟨#[203,0,113,2]⟩]] rfl rfl ?_ ?_
  ·intro K' a wy ho hd hI hK;rw[wN rfl];obtain⟨g0,e0,n0,nb0,c0⟩: FH W.drew.heap.size B [.string ⟨#[203,0,113,1]⟩,.string ⟨#[203,0,113,2]⟩] (aD a 4) wy:=hd ⟨0,.data⟩ (by simp) rfl;simp[aD]at e0;obtain⟨r3,e3,l3,u3⟩: XR 1 2 (aD a 7) wy:=hd ⟨3,.data⟩ (by simp) rfl;simp[aD]at e3;clear hd ho;obtain⟨kk,hkk⟩:=TZ (a:=r3) (by omega);subst hkk;have i0:(kk:Int)≤2:=by omega
   have i1:¬(kk:Int) < 0:=by omega
   go_simp;exact hK _ _ ⟨g0,kk,rfl,by omega,by simp;omega,n0,nb0,c0⟩ (EB.of bR) hI
  (apply cP.u xQ rfl;(·intro K' a wy ho hd hI hK;simp[aS,aF,aD,Region.binds]at ho hd;go_simp;(try go_bits);exact hK _ rfl);dsimp only[nA,cA])
  refine cP.rel (n:=6) (XR 0 5) (qB _ _ _) [_,_,_,_,_,_,XR 0 5] rfl rfl ?_ ?_
  ·intro K' a wy ho hd hI hK;rw[wN rfl];have q5:=hd ⟨5,.data⟩ (by simp) rfl;simp[aS,aF,aD]at q5;clear hd ho;go_simp;refine(fE 6 B sa len cap size wy (by omega) hl hI.1.src).mono ?_;rintro e wz ⟨r,rfl,h0,h1,hsz,hgz⟩;exact hK _ _ ⟨r,rfl,by omega,by omega⟩ hgz ⟨hI.1.draw hsz hgz,hI.2.1.grown (by simp[gL]) hgz (by simp;omega),UA hI.2.2 hgz.size⟩
  refine cP.rel (n:=7) (XR 1000 1005) (qB _ _ _) [_,_,_,_,_,_,_,XR 1000 1005] rfl rfl ?_ ?_
  ·intro K' a wy ho hd hI hK;rw[wN rfl];obtain⟨r6,e6,l6,u6⟩: XR 0 5 (aD a 10) wy:=hd ⟨6,.data⟩ (by simp) rfl;simp[aD]at e6;clear hd ho;have hw:IntKind.i64.wrap (1000+r6)=1000+r6:=by rw[IntKind.wrap_i64];omega
   go_simp;exact hK _ _ ⟨1000+r6,rfl,by omega,by omega⟩ (EB.of bR) hI
  (apply cP.u xQ rfl;(·intro K' a wy ho hd hI hK;simp[aS,aF,aD,Region.binds]at ho hd;go_simp;(try go_bits);exact hK _ rfl);dsimp only[nA,cA])
  refine cP.rel (n:=9) (XR 0 7) (qB _ _ _) [_,_,_,_,_,_,_,_,_,XR 0 7] rfl rfl ?_ ?_
  ·intro K' a wy ho hd hI hK;rw[wN rfl];have q8:=hd ⟨8,.data⟩ (by simp) rfl;simp[aS,aF,aD]at q8;clear hd ho;go_simp;refine(fE 8 B sa len cap size wy (by omega) hl hI.1.src).mono ?_;rintro e wz ⟨r,rfl,h0,h1,hsz,hgz⟩;exact hK _ _ ⟨r,rfl,by omega,by omega⟩ hgz ⟨hI.1.draw hsz hgz,hI.2.1.grown (by simp[gL]) hgz (by simp;omega),UA hI.2.2 hgz.size⟩
  refine cP.rel (n:=10) (XR 2 9) (qB _ _ _) [_,_,_,_,_,_,_,_,_,_,XR 2 9] rfl rfl ?_ ?_
  ·intro K' a wy ho hd hI hK;rw[wN rfl];obtain⟨r9,e9,l9,u9⟩: XR 0 7 (aD a 13) wy:=hd ⟨9,.data⟩ (by simp) rfl;simp[aD]at e9;clear hd ho;have hw:IntKind.i64.wrap (2+r9)=2+r9:=by rw[IntKind.wrap_i64];omega
   go_simp;exact hK _ _ ⟨2+r9,rfl,by omega,by omega⟩ (EB.of bR) hI
  (apply cP.u xQ rfl;(·intro K' a wy ho hd hI hK;simp[aS,aF,aD,Region.binds]at ho hd;go_simp;(try go_bits);exact hK _ rfl);dsimp only[nA,cA])
  refine cP.rel (n:=12) (XR 0 2) (qB _ _ _) [_,_,_,_,_,_,_,_,_,_,_,_,XR 0 2] rfl rfl ?_ ?_
  ·intro K' a wy ho hd hI hK;rw[wN rfl];have q11:=hd ⟨11,.data⟩ (by simp) rfl;simp[aS,aF,aD]at q11;clear hd ho;go_simp;refine(fE 3 B sa len cap size wy (by omega) hl hI.1.src).mono ?_;rintro e wz ⟨r,rfl,h0,h1,hsz,hgz⟩;exact hK _ _ ⟨r,rfl,by omega,by omega⟩ hgz ⟨hI.1.draw hsz hgz,hI.2.1.grown (by simp[gL]) hgz (by simp;omega),UA hI.2.2 hgz.size⟩
  (apply cP.u xQ rfl;(·intro K' a wy ho hd hI hK;simp[aS,aF,aD,Region.binds]at ho hd;go_simp;(try go_bits);exact hK _ rfl);dsimp only[nA,cA])
  refine cP.rel (n:=14) (RW) (QT) [_,_,_,_,_,_,_,_,_,_,_,_,_,_,RW] rfl rfl ?_ ?_
  ·intro K' a wy ho hd hI hK;rw[wN rfl];have q13:=hd ⟨13,.data⟩ (by simp) rfl;simp[aS,aF,aD]at q13;clear hd ho;go_simp;refine(xI B sa len cap size wy hl hI.1.src).mono ?_;rintro e wz ⟨l,rfl,hd,hsz,hgz⟩;exact hK _ _ ⟨l,rfl,hd⟩ hgz ⟨hI.1.draw hsz hgz,hI.2.1.grown (by simp[gL]) hgz (by simp;omega),UA hI.2.2 hgz.size⟩
  refine cP.rel (n:=15) (SK W.drew.heap.size B) (QV _ _) [_,_,_,_,_,_,_,_,_,_,_,_,_,_,_,SK W.drew.heap.size B] rfl rfl ?_ ?_
  ·intro K' a wy ho hd hI hK;rw[wN rfl];obtain⟨g4,k4,e4,l4,u4,n4,nb4,c4⟩: NW W.drew.heap.size B [.string ⟨#[203,0,113,1]⟩,.string ⟨#[203,0,113,2]⟩] (aD a 8) wy:=hd ⟨4,.data⟩ (by simp) rfl;simp[aD]at e4;obtain⟨r7,e7,l7,u7⟩: XR 1000 1005 (aD a 11) wy:=hd ⟨7,.data⟩ (by simp) rfl;simp[aD]at e7;obtain⟨r10,e10,l10,u10⟩: XR 2 9 (aD a 14) wy:=hd ⟨10,.data⟩ (by simp) rfl;simp[aD]at e10;obtain⟨r12,e12,l12,u12⟩: XR 0 2 (aD a 16) wy:=hd ⟨12,.data⟩ (by simp) rfl;simp[aD]at e12;obtain⟨l14,e14,d14⟩: RW (aD a 18) wy:=hd ⟨14,.data⟩ (by simp) rfl;simp[aD]at e14;clear hd ho;unfold xS at e14;go_simp;exact hK _ _ ⟨g4,k4,r7,r10,r12,l14,rfl,l4,by simpa using u4,n4,nb4,c4⟩ (EB.of bR) hI
  refine cP.rel (n:=16) (FG W.drew.heap.size B gL) (BF (by simp[gL])) [_,_,_,_,_,_,_,_,_,_,_,_,_,_,_,_,FG W.drew.heap.size B gL] rfl rfl ?_ ?_
  ·intro K' a wy ho hd hI hK;rw[wN rfl];clear hd ho;go_simp;exact hK _ _ ⟨wy.heap.size,rfl,hI.2.2,by have:=hI.1.le;omega,aA.new wy gL _⟩ (EB.of (bR.alloc lR _)) ⟨hI.1.alloc _,hI.2.1.alloc _,by simp;omega⟩
  intro X wz hR hI;obtain⟨x0,x1,x2,x3,x4,x5,x6,x7,x8,x9,x10,x11,x12,x13,x14,x15,x16,-⟩:=hR;obtain⟨g,k,h,mo,fi,l,e15,hk1,hk2,hgn,hgB,hgc⟩:=x15;obtain⟨X,e16,hXn,hXB,hXc⟩:=x16;simp only[aF]at x1 x5 x8 x11 x13;simp only[aE,aE,x1,aE,aE,aE,x5,aE,aE,x8,aE,aE,x11,aE,x13,aE,e15,e16];clear x1 x5 x8 x11 x13;have hn:W.heap.size≤g:=hgn;have hXn':W.heap.size≤X:=hXn;have hgX:g≠X:=OD hgc hXc;have hXR:X≠w.heap.size:=by omega
  have z0:=hXc.cell (j:=0) rfl;have zf0:=hXc.free (j:=0) (by simp[gL]);have z1:=hXc.cell (j:=1) rfl;have zf1:=hXc.free (j:=1) (by simp[gL]);have z2:=hXc.cell (j:=2) rfl;have zf2:=hXc.free (j:=2) (by simp[gL]);have z3:=hXc.cell (j:=3) rfl;have zf3:=hXc.free (j:=3) (by simp[gL]);have z4:=hXc.cell (j:=4) rfl;have zf4:=hXc.free (j:=4) (by simp[gL]);have z5:=hXc.cell (j:=5) rfl;have zf5:=hXc.free (j:=5) (by simp[gL]);have z6:=hXc.cell (j:=6) rfl;have zf6:=hXc.free (j:=6) (by simp[gL]);have z7:=hXc.cell (j:=7) rfl;have zf7:=hXc.free (j:=7) (by simp[gL]);have z8:=hXc.cell (j:=8) rfl;have zf8:=hXc.free (j:=8) (by simp[gL]);have z9:=hXc.cell (j:=9) rfl;have zf9:=hXc.free (j:=9) (by simp[gL]);have HC:Hid (aA ((sW (sW (sW (sW (sW (sW (sW (sW (sW wz X 0 (.slice (some ⟨g,0,none⟩) k 2)) X 1 (iV 1000)) X 2 (iV h)) X 3 (iV mo)) X 4 (iV fi)) X 5 (iV l.udp)) X 6 (iV l.echo)) X 7 (iV l.opening)) X 8 (iV l.opn)).setCell ⟨X,9,none⟩ (iV l.closing)) g [.string ⟨#[203,0,113,1]⟩,.string ⟨#[203,0,113,2]⟩]):=(aA.setOther (aA.setOther (aA.setOther (aA.setOther (aA.setOther (aA.setOther (aA.setOther (aA.setOther (aA.setOther (aA.setOther hgc hgX (.slice (some ⟨g,0,none⟩) k 2)) hgX (iV 1000)) hgX (iV h)) hgX (iV mo)) hgX (iV fi)) hgX (iV l.udp)) hgX (iV l.echo)) hgX (iV l.opening)) hgX (iV l.opn)) hgX (iV l.closing));have HP:Hid (PS w B sa len cap size w.heap.size X (some ⟨g,0,none⟩) 2 ⟨([⟨#[203,0,113,1]⟩,⟨#[203,0,113,2]⟩]:List BA).take k,1000,h,mo,fi,l⟩ ((sW (sW (sW (sW (sW (sW (sW (sW (sW wz X 0 (.slice (some ⟨g,0,none⟩) k 2)) X 1 (iV 1000)) X 2 (iV h)) X 3 (iV mo)) X 4 (iV fi)) X 5 (iV l.udp)) X 6 (iV l.echo)) X 7 (iV l.opening)) X 8 (iV l.opn)).setCell ⟨X,9,none⟩ (iV l.closing))):=by
   have hlk:(([⟨#[203,0,113,1]⟩,⟨#[203,0,113,2]⟩]:List BA).take k).length=k:=by simp;omega
   refine⟨((((((((((hI.1.set X 0 (.slice (some ⟨g,0,none⟩) k 2) (by omega)).set X 1 (iV 1000) (by omega)).set X 2 (iV h) (by omega)).set X 3 (iV mo) (by omega)).set X 4 (iV fi) (by omega)).set X 5 (iV l.udp) (by omega)).set X 6 (iV l.echo) (by omega)).set X 7 (iV l.opening) (by omega)).set X 8 (iV l.opn) (by omega)).set X 9 (iV l.closing) (by omega)),(aA.setOther (aA.setOther (aA.setOther (aA.setOther (aA.setOther (aA.setOther (aA.setOther (aA.setOther (aA.setOther (aA.setOther hI.2.1 hXR.symm (.slice (some ⟨g,0,none⟩) k 2)) hXR.symm (iV 1000)) hXR.symm (iV h)) hXR.symm (iV mo)) hXR.symm (iV fi)) hXR.symm (iV l.udp)) hXR.symm (iV l.echo)) hXR.symm (iV l.opening)) hXR.symm (iV l.opn)) hXR.symm (iV l.closing)),?_,⟨by rw[hlk];exact hk1,by rw[hlk];omega,fun s hs=>?_⟩,by rw[hlk];exact hk2,FZ [⟨#[203,0,113,1]⟩,⟨#[203,0,113,2]⟩] k (by simpa using hk2) HC.out (by simp),fun g' o e=>?_,by omega,Nat.le_refl _,hXR⟩
   ·have hb:=((((((((((hXc.set 0 (.slice (some ⟨g,0,none⟩) k 2)).set 1 (iV 1000)).set 2 (iV h)).set 3 (iV mo)).set 4 (iV fi)).set 5 (iV l.udp)).set 6 (iV l.echo)).set 7 (iV l.opening)).set 8 (iV l.opn)).set 9 (iV l.closing));unfold EY;rw[hlk];exact hb
   ·have:=List.mem_of_mem_take hs;simp at this;rcases this with rfl|rfl<;>decide
   ·injection e with e
    injection e with e _
    omega
  clear HC hgc hXc hI;intro K5 hK5;go_simp;refine hK5 _ _ ?_;show Exit.then _ _ _ _ _;refine hK2 _ _ (hJ _ _ ?_);(repeat apply Exists.intro)
  exact⟨⟨X,_,_,_,rfl,HP.out,by simp;omega⟩,rfl⟩
 case rest=>
 obtain⟨PX,pa,pc,p,rfl,hS,hp2⟩:=hcut;have S1:Hid (PS w B sa len cap size w.heap.size PX pa pc p wc):=hS;clear hS D0 O0;generalize wc=W1 at *;go_wp2_with fail
 refine(bO 2 B sa len cap size _ (by omega) hl S1.out.dr.src).mono ?_;rintro e W2 ⟨c2,rfl,hs,hg⟩;have S2:Hid (PS w B sa len cap size w.heap.size PX pa pc p W2):=S1.out.draw hs hg;clear hs hg S1;go_upto_if 21 with fail
 go_cut [] (fun wx=>∃p,PS w B sa len cap size w.heap.size PX pa pc p wx∧p.VA.length≤2)
 case first=>
  cases c2 with
  | false=>
   go_wp2_with fail
   go_meet;exact⟨p,S2.out,hp2⟩
  | true=>
   have HHp:aA W2 PX (bM pa pc p):=S2.out.box;have p2:=HHp.cell (j:=2) rfl;have pf2:=HHp.free (j:=2) (by simp);clear HHp;have S3:Hid _:=S2.out.set 2 (iV 1100) { p with high:=1100 } rfl rfl;go_wp2_with fail
   go_meet;exact⟨_,S3.out,hp2⟩
 case rest=>
 obtain⟨q,hS,hq2⟩:=hcut;have S4:Hid (PS w B sa len cap size w.heap.size PX pa pc q wc):=hS;clear hS S2;generalize wc=W4 at *;go_wp2_with fail
 refine(bO 25 B sa len cap size _ (by omega) hl S4.out.dr.src).mono ?_;rintro e W5 ⟨c5,rfl,hs,hg⟩;have S5:Hid (PS w B sa len cap size w.heap.size PX pa pc q W5):=S4.out.draw hs hg;clear hs hg S4;go_upto_if 24 with fail
 go_cut [] (fun wx=>∃pa pc q,PS w B sa len cap size w.heap.size PX pa pc q wx)
 case first=>
  cases c5 with
  | false=>
   go_wp2_with fail
   go_meet;exact⟨_,_,q,S5.out⟩
  | true=>
   go_wp2_with fail
   refine(aT 5 B sa len cap size _ (by omega) (by omega) hl S5.out.dr.src).mono ?_;rintro e W6 ⟨r5,rfl,lo5,hi5,hs,hg⟩;have S6:Hid (PS w B sa len cap size w.heap.size PX pa pc q W6):=S5.out.draw hs hg;clear hs hg S5;by_cases d0:r5=0
   case pos=>
    subst d0;clear lo5 hi5;obtain⟨gp,op,hpa,hgp,-⟩:=S6.out.sl.at (k:=0) (by have:=S6.out.ok.1;omega);subst hpa;have hq0:0 < q.VA.length:=by have:=S6.out.ok.1;omega
    have hq0I:(0:Int) < (q.VA.length:Int):=by omega
    have hqn:q.VA≠[]:=fun e=>by rw[e]at hq0;simp at hq0
    have hq3:q.VA.length≤3:=S6.out.ok.2.1;have hql:q.VA.length≤1048576:=by omega
    obtain⟨s0,hs⟩: ∃s,s=q.VA[0]:=⟨_,rfl⟩;have hz0:s0.size≤4:=by rw[hs];exact S6.out.ok.2.2 _ (TY _)
    have HS0:Hid (s0=q.VA[0]):=hs;clear hs;have hle6:w.heap.size≤W6.heap.size:=S6.out.dr.le;have hB6:B < W6.drew.heap.size:=UM S6.out.dr.hB hle6;have hX6:PX < W6.heap.size:=S6.out.box.lt (by simp[EY]);have hR6:w.heap.size < W6.heap.size:=S6.out.out.lt (by simp[gL]);have HQZ:Hid (∀s∈q.VA,s.size≤4):=S6.out.ok.2.2;go_upto_region 8 with fail
    refine eU (EB B) (fun wx=>PS w B sa len cap size w.heap.size PX (some ⟨gp,op,none⟩) pc q wx∧W6.heap.size≤wx.heap.size) [35,36,37,38,39,40,41,42,43,44,45,46,47,48] (by kernel_rfl) (by kernel_rfl) (⟨S6.out.below bR.drew,Nat.le_refl _⟩) ?_;refine cP.rel (n:=0) (RX W6.drew.heap.size 9) (QU hB6) [RX W6.drew.heap.size 9] rfl rfl ?_ ?_
    ·intro K' a wy ho hd hI hK;rw[wN rfl];clear hd ho;go_simp;exact hK _ _ ⟨wy.heap.size,rfl,World.ownsRow_made wy #[] 0 hI.2 (by unfold maxLen;omega) rfl⟩ (EB.of (bR.alloc lR _)) ⟨hI.1.alloc _,by simp;omega⟩
    (apply cP.u xQ rfl;(·intro K' a wy ho hd hI hK;simp[aS,aF,aD,Region.binds]at ho hd;go_simp;(try go_bits);exact hK _ rfl);dsimp only[nA,cA])
    refine cP.val (n:=2) (fun v=>[_,_,aF v]) (fun _=>rfl) rfl ?_;apply Exists.intro;refine And.intro ?_ ?_
    ·intro K' a wy ho hd hI hK;rw[wN rfl];have q1:=hd ⟨1,.data⟩ (by simp) rfl;simp[aS,aF,aD]at q1;clear hd ho;have p0:=hI.1.box.cell (j:=0) rfl;obtain⟨g9,o9,e9,_,hat⟩:=hI.1.sl.at hq0;injection e9 with e9
     injection e9 with e91 e92
     subst e91 e92;have hs0:wy.cell? ⟨gp,op,none⟩=some (.string s0):=by
      have h:=hat 0 hq0 0 _ rfl;rw[←HS0.out]at h;simpa using h
     go_simp;try go_bits
     exact hK _ _ rfl (EB.of bR) hI
    refine cP.rel (n:=3) (RY W6.drew.heap.size 9 q.VA) (QW hB6) [_,_,_,RY W6.drew.heap.size 9 q.VA] rfl rfl ?_ ?_
    ·intro K' a wy ho hd hI hK;rw[wN rfl];obtain⟨g0,e0,r0⟩: RX W6.drew.heap.size 9 (aD a 35) wy:=hd ⟨0,.data⟩ (by simp) rfl;simp[aD]at e0;have q2:=hd ⟨2,.data⟩ (by simp) rfl;simp[aS,aF,aD]at q2;clear hd ho;obtain⟨v2,w2,hrun,h22,h23⟩:=CJ (ty:=23) (cap:=pc) (g0:=g0) hI.1.sl hqn hql hI.2;refine dC (.tmp 35) (.tmp 37) _ rfl ?_ ?_ hrun (hK _ _ h22 (EB.of h23) ⟨hI.1.below h23,UA hI.2 h23.size⟩)
     ·simpa[Act.eval] using e0
     ·simpa[Act.eval] using q2
    (apply cP.u xQ rfl;(·intro K' a wy ho hd hI hK;simp[aS,aF,aD,Region.binds]at ho hd;go_simp;(try go_bits);exact hK _ rfl);dsimp only[nA,cA])
    refine cP.val (n:=5) (fun v=>[_,_,_,_,_,aF v]) (fun _=>rfl) rfl ?_;apply Exists.intro;refine And.intro ?_ ?_
    ·intro K' a wy ho hd hI hK;rw[wN rfl];have q4:=hd ⟨4,.data⟩ (by simp) rfl;simp[aS,aF,aD]at q4;clear hd ho;have p0:=hI.1.box.cell (j:=0) rfl;obtain⟨g9,o9,e9,_,hat⟩:=hI.1.sl.at hq0;injection e9 with e9
     injection e9 with e91 e92
     subst e91 e92;have hs0:wy.cell? ⟨gp,op,none⟩=some (.string s0):=by
      have h:=hat 0 hq0 0 _ rfl;rw[←HS0.out]at h;simpa using h
     go_simp;try go_bits
     exact hK _ _ rfl (EB.of bR) hI
    (apply cP.u xQ rfl;(·intro K' a wy ho hd hI hK;simp[aS,aF,aD,Region.binds]at ho hd;go_simp;(try go_bits);exact hK _ rfl);dsimp only[nA,cA])
    refine cP.val (n:=7) (fun v=>[_,_,_,_,_,_,_,aF v]) (fun _=>rfl) rfl ?_;apply Exists.intro;refine And.intro ?_ ?_
    ·intro K' a wy ho hd hI hK;rw[wN rfl];have q6:=hd ⟨6,.data⟩ (by simp) rfl;simp[aS,aF,aD]at q6;clear hd ho;have p0:=hI.1.box.cell (j:=0) rfl;obtain⟨g9,o9,e9,_,hat⟩:=hI.1.sl.at hq0;injection e9 with e9
     injection e9 with e91 e92
     subst e91 e92;have hs0:wy.cell? ⟨gp,op,none⟩=some (.string s0):=by
      have h:=hat 0 hq0 0 _ rfl;rw[←HS0.out]at h;simpa using h
     go_simp;try go_bits
     exact hK _ _ rfl (EB.of bR) hI
    refine cP.rel (n:=8) (FH W6.drew.heap.size B [.string s0,.string ⟨#[97,98,99]⟩]) (JB (by simp)) [_,_,_,_,_,_,_,_,FH W6.drew.heap.size B [.string s0,.string ⟨#[97,98,99]⟩]] rfl rfl ?_ ?_
    ·intro K' a wy ho hd hI hK;rw[wN rfl];have q7:=hd ⟨7,.data⟩ (by simp) rfl;simp[aS,aF,aD]at q7;clear hd ho;go_simp;exact hK _ _ ⟨wy.heap.size,rfl,hI.2,by have:=hI.1.dr.le;have:=hI.1.dr.hB;omega,aA.new wy [.string s0,.string ⟨#[97,98,99]⟩] _⟩ (EB.of (bR.alloc lR _)) ⟨hI.1.alloc _,by simp;omega⟩
    (apply cP.u xQ rfl;(·intro K' a wy ho hd hI hK;simp[aS,aF,aD,Region.binds]at ho hd;go_simp;(try go_bits);exact hK _ rfl);dsimp only[nA,cA])
    refine cP.rel (n:=10) (XR 0 1) (qB _ _ _) [_,_,_,_,_,_,_,_,_,_,XR 0 1] rfl rfl ?_ ?_
    ·intro K' a wy ho hd hI hK;rw[wN rfl];have q9:=hd ⟨9,.data⟩ (by simp) rfl;simp[aS,aF,aD]at q9;clear hd ho;go_simp;refine(fE 2 B sa len cap size wy (by omega) hl hI.1.dr.src).mono ?_;rintro e wz ⟨r,rfl,h0,h1,hsz,hgz⟩;exact hK _ _ ⟨r,rfl,by omega,by omega⟩ hgz ⟨hI.1.draw hsz hgz,UA hI.2 hgz.size⟩
    refine cP.rel (n:=11) (QC B 4) (NF) [_,_,_,_,_,_,_,_,_,_,_,QC B 4] rfl rfl ?_ ?_
    ·intro K' a wy ho hd hI hK;rw[wN rfl];obtain⟨g8,e8,n8,nb8,c8⟩: FH W6.drew.heap.size B [.string s0,.string ⟨#[97,98,99]⟩] (aD a 43) wy:=hd ⟨8,.data⟩ (by simp) rfl;simp[aD]at e8;obtain⟨r10,e10,l10,u10⟩: XR 0 1 (aD a 45) wy:=hd ⟨10,.data⟩ (by simp) rfl;simp[aD]at e10;clear hd ho;obtain⟨kk,hkk⟩:=TZ (a:=r10) (by omega);subst hkk;have i0:(kk:Int) < 2:=by omega
     obtain⟨ss,hss,hzz⟩: ∃ss,wy.cell? ⟨g8,kk,none⟩=some (.string ss)∧ss.size≤4:=by
      have hk2:kk=0∨kk=1:=by omega
      rcases hk2 with rfl|rfl
      ·exact⟨s0,c8.cell rfl,hz0⟩
      ·exact⟨⟨#[97,98,99]⟩,c8.cell rfl,by decide⟩
     go_simp;exact hK _ _ ⟨g8,kk,ss,rfl,nb8,hss,hzz⟩ (EB.of bR) hI
    refine cP.rel (n:=12) (JH 4) (JC) [_,_,_,_,_,_,_,_,_,_,_,_,JH 4] rfl rfl ?_ ?_
    ·intro K' a wy ho hd hI hK;rw[wN rfl];obtain⟨b11,k11,s11,e11,nb11,c11,z11⟩: QC B 4 (aD a 46) wy:=hd ⟨11,.data⟩ (by simp) rfl;simp[aD]at e11;clear hd ho;have p0:=hI.1.box.cell (j:=0) rfl;obtain⟨g9,o9,e9,_,hat⟩:=hI.1.sl.at hq0;injection e9 with e9
     injection e9 with e91 e92
     subst e91 e92;have hs0:wy.cell? ⟨gp,op,none⟩=some (.string s0):=by
      have h:=hat 0 hq0 0 _ rfl;rw[←HS0.out]at h;simpa using h
     go_simp;exact hK _ _ ⟨s11,rfl,z11⟩ (EB.of bR) hI
    refine cP.rel (n:=13) (LJ B 4) (NJ) [_,_,_,_,_,_,_,_,_,_,_,_,_,LJ B 4] rfl rfl ?_ ?_
    ·intro K' a wy ho hd hI hK;rw[wN rfl];obtain⟨s12,e12,z12⟩: JH 4 (aD a 47) wy:=hd ⟨12,.data⟩ (by simp) rfl;simp[aD]at e12;clear hd ho;go_simp;exact hK _ _ ⟨wy.heap.size,s12,rfl,by have:=hI.1.dr.le;have:=hI.1.dr.hB;omega,z12,aA.new wy [.string s12] _⟩ (EB.of (bR.alloc lR _)) ⟨hI.1.alloc _,by simp;omega⟩
    intro X wz hR hI;obtain⟨x0,x1,x2,x3,x4,x5,x6,x7,x8,x9,x10,x11,x12,x13,-⟩:=hR;have r3:=x3;obtain⟨g13,s13,e13,nb13,z13,c13⟩:=x13;simp only[aF]at x1 x2 x4 x5 x6 x7 x9;simp only[aE,aE,x1,x2,aE,x4,x5,x6,x7,aE,x9,aE,aE,aE,e13];clear x1 x2 x4 x5 x6 x7 x9;obtain⟨i0,hi,hi0,hi1,hi2⟩:=info_parts Tryz.infoTx;obtain⟨a3,c3,e3,hc3,-⟩:=(xB.shape mF (w0:=wz) ⟨r3,Below.refl _ _⟩: ∃a' cap,X 3=.slice a' q.VA.length cap∧q.VA.length≤cap∧eY bX 1 W6.drew.heap.size wz a' q.VA);unfold RY at r3;rw[e3]at r3;obtain⟨v6,w6,hrun,h62,h63,-,-⟩:=run_append_own_at (P:=Tryz.prog) wz W6.drew.heap.size 23 23 9 i0 _ 1 _ Tryz.underlying23 hi hi0 hi1 hi2 rfl (by decide) _ _ _ r3 ⟨g13,0,none⟩ 1 1 [.string s13] rfl (fun i u hu=>by rw[rE];exact c13.cell hu) (fun u hu=>by simp at hu;subst hu;rfl) (by unfold maxLen;omega) (by omega) hI.2;have hown:w6.ownsRow W6.drew.heap.size 9 1 v6 (q.VA++[s13]).length (dK bX (q.VA++[s13])):=by rw[kB,List.length_append];exact h62
    obtain⟨a6,c6,e6,hc6,hs6⟩:=(xB.shape mF (w0:=w6) ⟨hown,Below.refl _ _⟩: ∃a' cap,v6=.slice a' (q.VA++[s13]).length cap∧(q.VA++[s13]).length≤cap∧eY bX 1 W6.drew.heap.size w6 a' (q.VA++[s13]));subst e6;have P6:=hI.1.row h63 W6.heap.size (fun k e=>(fC r3 e).1) hle6 hX6 hR6 (fun g o e=>by injection e with e;injection e with e1 _;omega);have hall:∀s∈q.VA++[s13],s.size≤4:=fun s hs=>by
     rcases List.mem_append.1 hs with h|h
     ·exact HQZ.out s h
     ·simp at h;subst h;exact z13
    have hokp:pH { q with VA:=q.VA++[s13] }:=⟨by simp,by simp;omega,hall⟩;have hfar:∀g o,a6=some ⟨g,o,none⟩→w.heap.size≤g∧g≠PX∧g≠w.heap.size:=fun g o e=>by
     have h9:=(fC hown (g:=g) (by rw[e];rfl)).1;have h8:W6.heap.size≤g:=h9;exact⟨by omega,by omega,by omega⟩
    obtain⟨ln,hln⟩: ∃n,n=(q.VA++[s13]).length:=⟨_,rfl⟩;have HP:Hid (PS w B sa len cap size w.heap.size PX a6 c6 { q with VA:=q.VA++[s13] } (w6.setCell ⟨PX,0,none⟩ (.slice a6 ln c6))):=by unfold Hid;rw[hln];exact P6.setA a6 c6 (q.VA++[s13]) hokp hc6 hs6.is hfar
    rw[←hln]at hrun;clear hln;have HRUN:Hid _:=hrun;have p1:=P6.box.cell (j:=0) rfl;have p2:=P6.box.free (j:=0) (by simp[EY]);clear hrun hown hs6 P6 r3 c13 hI hall hokp hfar h62 h63;simp only[e3,e13];simp only[List.length_cons,List.length_nil,List.drop_succ_cons,List.drop_zero,TX,Nat.reduceAdd];intro K5 hK5;with_reducible refine dC (.tmp 38) (.tmp 48) _ rfl ?_ ?_ HRUN.out (hK5 _ _ ?_)
    ·simp[Act.eval,Act.put]
    ·simp[Act.eval,Act.put]
    intro K6 hK6;go_simp;refine hK6 _ _ ?_;intro K7 hK7;go_simp;refine hK7 _ _ ?_;simp only[fO];go_wp2_with fail
    go_meet;exact⟨_,_,_,HP.out⟩
   have b0:(r5==0)=false:=by simp[d0]
   by_cases d1:r5=1
   case pos=>
    subst d1;clear lo5 hi5;have A6:Hid (PS w B sa len cap size w.heap.size PX pa pc q (W6.alloc (.cells #[iV 0,iV 1,iV 65535,iV 65536] 2))):=S6.out.alloc _;have hB6:B < W6.heap.size:=UM S6.out.dr.hB S6.out.dr.le;go_wp2_with fail
    refine(aT 4 B sa len cap size _ (by omega) (by omega) hl A6.out.dr.src).mono ?_;rintro e W7 ⟨r,rfl,r0,r1,hs2,hg2⟩;obtain⟨k,rfl⟩:=TZ r0;obtain⟨y,hcell,hy⟩:=pT (k:=k) [0,1,65535,65536] hg2 hB6 (by simp;omega);have r1':(k:Int) < 4:=by omega
    have S7:Hid (PS w B sa len cap size w.heap.size PX pa pc q W7):=A6.out.draw hs2 hg2;clear hs2 hg2 r0 r1 A6 S6 hy;have HHp:aA W7 PX (bM pa pc q):=S7.out.box;have p1:=HHp.cell (j:=1) rfl;have pf1:=HHp.free (j:=1) (by simp);clear HHp;have S8:Hid _:=S7.out.set 1 (iV y) { q with low:=y } rfl rfl;clear S7;go_wp2_with fail
    go_meet;exact⟨_,_,_,S8.out⟩
   have b1:(r5==1)=false:=by simp[d1]
   by_cases d2:r5=2
   case pos=>
    subst d2;clear lo5 hi5;have A6:Hid (PS w B sa len cap size w.heap.size PX pa pc q (W6.alloc (.cells #[iV 0,iV 60,iV 61] 2))):=S6.out.alloc _;have hB6:B < W6.heap.size:=UM S6.out.dr.hB S6.out.dr.le;go_wp2_with fail
    refine(aT 3 B sa len cap size _ (by omega) (by omega) hl A6.out.dr.src).mono ?_;rintro e W7 ⟨r,rfl,r0,r1,hs2,hg2⟩;obtain⟨k,rfl⟩:=TZ r0;obtain⟨y,hcell,hy⟩:=pT (k:=k) [0,60,61] hg2 hB6 (by simp;omega);have r1':(k:Int) < 3:=by omega
    have S7:Hid (PS w B sa len cap size w.heap.size PX pa pc q W7):=A6.out.draw hs2 hg2;clear hs2 hg2 r0 r1 A6 S6 hy;have HHp:aA W7 PX (bM pa pc q):=S7.out.box;have p3:=HHp.cell (j:=3) rfl;have pf3:=HHp.free (j:=3) (by simp);clear HHp;have S8:Hid _:=S7.out.set 3 (iV y) { q with most:=y } rfl rfl;clear S7;go_wp2_with fail
    go_meet;exact⟨_,_,_,S8.out⟩
   have b2:(r5==2)=false:=by simp[d2]
   by_cases d3:r5=3
   case pos=>
    subst d3;clear lo5 hi5;have A6:Hid (PS w B sa len cap size w.heap.size PX pa pc q (W6.alloc (.cells #[iV (-1),iV 3] 2))):=S6.out.alloc _;have hB6:B < W6.heap.size:=UM S6.out.dr.hB S6.out.dr.le;go_wp2_with fail
    refine(aT 2 B sa len cap size _ (by omega) (by omega) hl A6.out.dr.src).mono ?_;rintro e W7 ⟨r,rfl,r0,r1,hs2,hg2⟩;obtain⟨k,rfl⟩:=TZ r0;obtain⟨y,hcell,hy⟩:=pT (k:=k) [(-1),3] hg2 hB6 (by simp;omega);have r1':(k:Int) < 2:=by omega
    have S7:Hid (PS w B sa len cap size w.heap.size PX pa pc q W7):=A6.out.draw hs2 hg2;clear hs2 hg2 r0 r1 A6 S6 hy;have HHp:aA W7 PX (bM pa pc q):=S7.out.box;have p4:=HHp.cell (j:=4) rfl;have pf4:=HHp.free (j:=4) (by simp);clear HHp;have S8:Hid _:=S7.out.set 4 (iV y) { q with filter:=y } rfl rfl;clear S7;go_wp2_with fail
    go_meet;exact⟨_,_,_,S8.out⟩
   have b3:(r5==3)=false:=by simp[d3]
   have A6:Hid (PS w B sa len cap size w.heap.size PX pa pc q (W6.alloc (.cells #[iV 65535,iV 65536,iV 999] 2))):=S6.out.alloc _;have hB6:B < W6.heap.size:=UM S6.out.dr.hB S6.out.dr.le;go_wp2_with fail
   refine(aT 3 B sa len cap size _ (by omega) (by omega) hl A6.out.dr.src).mono ?_;rintro e W7 ⟨r,rfl,r0,r1,hs2,hg2⟩;obtain⟨k,rfl⟩:=TZ r0;obtain⟨y,hcell,hy⟩:=pT (k:=k) [65535,65536,999] hg2 hB6 (by simp;omega);have r1':(k:Int) < 3:=by omega
   have S7:Hid (PS w B sa len cap size w.heap.size PX pa pc q W7):=A6.out.draw hs2 hg2;clear hs2 hg2 r0 r1 A6 S6 hy;have HHp:aA W7 PX (bM pa pc q):=S7.out.box;have p2:=HHp.cell (j:=2) rfl;have pf2:=HHp.free (j:=2) (by simp);clear HHp;have S8:Hid _:=S7.out.set 2 (iV y) { q with high:=y } rfl rfl;clear S7;go_wp2_with fail
   go_meet;exact⟨_,_,_,S8.out⟩
 case rest=>
 obtain⟨pa',pc',q',hS⟩:=hcut;have S9:Hid (PS w B sa len cap size w.heap.size PX pa' pc' q' wc):=hS;clear hS S5;generalize wc=W9 at *;have HHp:aA W9 PX (bM pa' pc' q'):=S9.out.box;obtain⟨p0,p1,p2,p3,p4,p5,p6,p7,p8,p9⟩:=HHp.c10;clear HHp;have HHz:aA W9 w.heap.size jU:=S9.out.out;obtain⟨z0,z1,z2,z3,z4,z5,z6,z7,z8,z9⟩:=HHz.c10;obtain⟨zf0,zf1,zf2,zf3,zf4,zf5,zf6,zf7,zf8,zf9⟩:=HHz.f10;have HRR:Hid (aA ((sW (sW (sW (sW (sW (sW (sW (sW (sW W9 w.heap.size 0 (.slice pa' q'.VA.length pc')) w.heap.size 1 (iV q'.low)) w.heap.size 2 (iV q'.high)) w.heap.size 3 (iV q'.most)) w.heap.size 4 (iV q'.filter)) w.heap.size 5 (iV q'.lv.udp)) w.heap.size 6 (iV q'.lv.echo)) w.heap.size 7 (iV q'.lv.opening)) w.heap.size 8 (iV q'.lv.opn)).setCell ⟨w.heap.size,9,none⟩ (iV q'.lv.closing)) w.heap.size (bM pa' pc' q')):=((((((((((HHz.set 0 (.slice pa' q'.VA.length pc')).set 1 (iV q'.low)).set 2 (iV q'.high)).set 3 (iV q'.most)).set 4 (iV q'.filter)).set 5 (iV q'.lv.udp)).set 6 (iV q'.lv.echo)).set 7 (iV q'.lv.opening)).set 8 (iV q'.lv.opn)).set 9 (iV q'.lv.closing));have DD:Hid (Dr w B sa len cap size ((sW (sW (sW (sW (sW (sW (sW (sW (sW W9 w.heap.size 0 (.slice pa' q'.VA.length pc')) w.heap.size 1 (iV q'.low)) w.heap.size 2 (iV q'.high)) w.heap.size 3 (iV q'.most)) w.heap.size 4 (iV q'.filter)) w.heap.size 5 (iV q'.lv.udp)) w.heap.size 6 (iV q'.lv.echo)) w.heap.size 7 (iV q'.lv.opening)) w.heap.size 8 (iV q'.lv.opn)).setCell ⟨w.heap.size,9,none⟩ (iV q'.lv.closing))):=((((((((((S9.out.dr.set w.heap.size 0 (.slice pa' q'.VA.length pc') lR).set w.heap.size 1 (iV q'.low) lR).set w.heap.size 2 (iV q'.high) lR).set w.heap.size 3 (iV q'.most) lR).set w.heap.size 4 (iV q'.filter) lR).set w.heap.size 5 (iV q'.lv.udp) lR).set w.heap.size 6 (iV q'.lv.echo) lR).set w.heap.size 7 (iV q'.lv.opening) lR).set w.heap.size 8 (iV q'.lv.opn) lR).set w.heap.size 9 (iV q'.lv.closing) lR);have SS:Hid (bP bX 1 ((sW (sW (sW (sW (sW (sW (sW (sW (sW W9 w.heap.size 0 (.slice pa' q'.VA.length pc')) w.heap.size 1 (iV q'.low)) w.heap.size 2 (iV q'.high)) w.heap.size 3 (iV q'.most)) w.heap.size 4 (iV q'.filter)) w.heap.size 5 (iV q'.lv.udp)) w.heap.size 6 (iV q'.lv.echo)) w.heap.size 7 (iV q'.lv.opening)) w.heap.size 8 (iV q'.lv.opn)).setCell ⟨w.heap.size,9,none⟩ (iV q'.lv.closing)) pa' q'.VA):=(bP.grown (bP.grown (bP.grown (bP.grown (bP.grown (bP.grown (bP.grown (bP.grown (bP.grown (bP.grown S9.out.sl (aH _ w.heap.size 0 _) (.inr fun g o e=>(S9.out.far g o e).2.2)) (aH _ w.heap.size 1 _) (.inr fun g o e=>(S9.out.far g o e).2.2)) (aH _ w.heap.size 2 _) (.inr fun g o e=>(S9.out.far g o e).2.2)) (aH _ w.heap.size 3 _) (.inr fun g o e=>(S9.out.far g o e).2.2)) (aH _ w.heap.size 4 _) (.inr fun g o e=>(S9.out.far g o e).2.2)) (aH _ w.heap.size 5 _) (.inr fun g o e=>(S9.out.far g o e).2.2)) (aH _ w.heap.size 6 _) (.inr fun g o e=>(S9.out.far g o e).2.2)) (aH _ w.heap.size 7 _) (.inr fun g o e=>(S9.out.far g o e).2.2)) (aH _ w.heap.size 8 _) (.inr fun g o e=>(S9.out.far g o e).2.2)) (aH _ w.heap.size 9 _) (.inr fun g o e=>(S9.out.far g o e).2.2))
 have OK:Hid (pH q'∧q'.VA.length≤pc'∧∀g o,pa'=some ⟨g,o,none⟩→w.heap.size≤g):=⟨S9.out.ok,S9.out.cap,fun g o e=>(S9.out.far g o e).1⟩;clear HHz S9;go_wp2_with fail
 exact UQ (aG Tryz.results88 _ _ _ _ _ rfl HRR.out Tryz.underlying27 rfl (show (Tryz.prog.info? 27).map (·.size)=some 10 by kernel_rfl)) rfl ⟨pa',pc',q',rfl,OK.out.1,OK.out.2.1,SS.out,OK.out.2.2,DD.out.src,DD.out.grown⟩
def qK(n:Nat)(f:Nat→Int):BA:=⟨((List.range n).map fun i=>UInt8.ofNat (f i).toNat).toArray⟩
theorem oH(n:Nat)(f:Nat→Int):(qK n f).size=n:=by simp[qK,ByteArray.size]
theorem FO{n:Nat}{f:Nat→Int}{i:Nat}(hi:i < n)(h0:0≤f i)(h1:f i≤255):bt (qK n f) i=f i:=by
 have hs:=oH n f;unfold bt;rw[dif_pos (by omega),ByteArray.getElem_eq_getElem_data];simp only[qK,List.getElem_toArray,List.getElem_map,List.getElem_range,UInt8.toNat_ofNat'];omega
theorem FJ{a b:BA}(hs:a.size=b.size)(h:∀i,i < a.size→bt a i=bt b i):a=b:=by
 apply ByteArray.ext;apply Array.ext
 ·exact hs
 ·intro i h1 h2;have hi:=h i h1;unfold bt at hi;rw[dif_pos (show i < a.size from h1),dif_pos (show i < b.size from h2),ByteArray.getElem_eq_getElem_data,ByteArray.getElem_eq_getElem_data]at hi;exact UInt8.toNat_inj.1 (by exact_mod_cast hi)
structure BR(w:World)(B n:Nat)(f:Nat→Int):Prop where
 get:∀i,i < n→w.cell? ⟨B,i,none⟩=some (.int .u8 (f i))∧w.frozen? ⟨B,i,none⟩=false
theorem BR.conv{w:World}{B n cap:Nat}{f:Nat→Int}(h:BR w B n f)(hf:oJ f) :
  (convert 22 9 (.slice (some ⟨B,0,none⟩) n cap)).run Tryz.prog w=.ok (.string (qK n f)) w:=by
 have hl:((List.range n).map fun i=>UInt8.ofNat (f i).toNat).length=n:=by simp
 have:=run_convert_bytes_back (P:=Tryz.prog) w 22 9 5 ⟨B,0,none⟩ cap ((List.range n).map fun i=>UInt8.ofNat (f i).toNat) Tryz.underlying22 Tryz.underlying5 Tryz.underlying9 (by
  intro j hj;have hj':j < n:=by simpa using hj
  have ha:Addr.add ⟨B,0,none⟩ j=⟨B,j,none⟩:=by simp only[Addr.add,TX];split<;>simp_all
  rw[ha,(h.get j hj').1];have:=hf j;simp only[List.getElem_map,List.getElem_range,UInt8.toNat_ofNat'];congr 2;omega)
 rw[hl]at this;exact this
theorem tJ(w:World)(s:BA):∃cap W2,(convert 9 22 (.string s)).run Tryz.prog w=.ok (.slice (some ⟨w.heap.size,0,none⟩) s.size cap) W2∧BR W2 w.heap.size s.size (bt s)∧Below w.heap.size w W2∧s.size≤cap:=by
 refine⟨grownCap w s.size 0 5,_,run_bytes_of_string (P:=Tryz.prog) w 9 22 5 s Tryz.underlying9 Tryz.underlying22 Tryz.underlying5,?_,?_,?_⟩
 ·refine⟨fun i hi=>?_⟩;have hz:(bytesRow s (grownCap w s.size 0 5)).size=s.size+(grownCap w s.size 0 5-s.size):=by unfold bytesRow;rw[Array.size_append,Array.size_map,Array.size_replicate];rfl
  constructor
  ·refine(US w.drew _ _ _ i).trans ?_;rw[bytesRow_at s _ i hi,←get_bt s i hi];rfl
  ·refine(World.frozen?_alloc_mark w.drew _ _ _ _ i).trans ?_;simp;omega
 ·exact(Below.refl _ w).drew.alloc lR _
 ·exact grownCap_ge _ _ _ _
def oZ(r:Int):Prop:=-9223372036854775808≤r∧r≤9223372036854775807
theorem sC(B:Nat)(a:OA)(len cap:Nat)(size:Int)(w:World)(hl:len≤1048576)(hs:iT w B a len cap size) :
  Calls Tryz.prog 56 #[.pointer (some ⟨B,0,none⟩)] w fun e w'=>∃r,e=.returned (iV r)∧oZ r∧iT w' B a len cap size∧w.grownBy w' (some B):=by
 have hB:B < w.heap.size:=by obtain⟨_,_,_,h⟩:=hs;exact UH w _ h.cb
 have HS:Hid (iT w B a len cap size):=hs;clear hs;go_enter Tryz.func56,Tryz.ntmps56
 go_wp2_with fail
 refine(aT 14 B a len cap size _ (by omega) (by omega) hl (HS.out.kept (World.grownBy_alloc _ _ none) (by simp))).mono ?_;rintro e w1 ⟨q,rfl,q0,q1,hs1,hg1⟩;obtain⟨k,rfl⟩:=TZ q0;have hc:∃r,w1.cell? ⟨w.heap.size,k,none⟩=some (iV r)∧oZ r:=by
  have hk:k < 14:=by omega
  match k,hk with
  | 0,_=>exact⟨_,hg1.cell ((US w _ _ _ 0).trans rfl) (by simp;omega),by unfold oZ;omega⟩
  | 1,_=>exact⟨_,hg1.cell ((US w _ _ _ 1).trans rfl) (by simp;omega),by unfold oZ;omega⟩
  | 2,_=>exact⟨_,hg1.cell ((US w _ _ _ 2).trans rfl) (by simp;omega),by unfold oZ;omega⟩
  | 3,_=>exact⟨_,hg1.cell ((US w _ _ _ 3).trans rfl) (by simp;omega),by unfold oZ;omega⟩
  | 4,_=>exact⟨_,hg1.cell ((US w _ _ _ 4).trans rfl) (by simp;omega),by unfold oZ;omega⟩
  | 5,_=>exact⟨_,hg1.cell ((US w _ _ _ 5).trans rfl) (by simp;omega),by unfold oZ;omega⟩
  | 6,_=>exact⟨_,hg1.cell ((US w _ _ _ 6).trans rfl) (by simp;omega),by unfold oZ;omega⟩
  | 7,_=>exact⟨_,hg1.cell ((US w _ _ _ 7).trans rfl) (by simp;omega),by unfold oZ;omega⟩
  | 8,_=>exact⟨_,hg1.cell ((US w _ _ _ 8).trans rfl) (by simp;omega),by unfold oZ;omega⟩
  | 9,_=>exact⟨_,hg1.cell ((US w _ _ _ 9).trans rfl) (by simp;omega),by unfold oZ;omega⟩
  | 10,_=>exact⟨_,hg1.cell ((US w _ _ _ 10).trans rfl) (by simp;omega),by unfold oZ;omega⟩
  | 11,_=>exact⟨_,hg1.cell ((US w _ _ _ 11).trans rfl) (by simp;omega),by unfold oZ;omega⟩
  | 12,_=>exact⟨_,hg1.cell ((US w _ _ _ 12).trans rfl) (by simp;omega),by unfold oZ;omega⟩
  | 13,_=>exact⟨_,hg1.cell ((US w _ _ _ 13).trans rfl) (by simp;omega),by unfold oZ;omega⟩
 obtain⟨r,hc,hr⟩:=hc;have H1:Hid (oZ r∧iT w1 B a len cap size∧w.grownBy w1 (some B)):=⟨hr,hs1,fT (World.grownBy_alloc _ _ _) hg1⟩;clear hr hs1 hg1;go_wp2
 go_ret;exact⟨r,rfl,H1.out.1,H1.out.2.1,H1.out.2.2⟩
structure TH(w:World)(P:Nat)(s:BA)(b:Int):Prop where
 c0:w.cell? ⟨P,0,none⟩=some (.string s)
 c1:w.cell? ⟨P,1,none⟩=some (iV b)
 f0:w.frozen? ⟨P,0,none⟩=false
 f1:w.frozen? ⟨P,1,none⟩=false
section
variable {w wx wy:World} {B P:Nat} {s:BA} {b:Int} {a:OA} {len cap:Nat} {size:Int}
end
structure DB(w:World)(B:Nat)(sa:OA)(len cap:Nat)(size:Int)(ks:List (Nat × List Value))(wx:World):Prop where
 dr:Dr w B sa len cap size wx
 k:∀e∈ks,aA wx e.1 e.2
 z:∀e∈ks,0 < e.2.length
 n:∀e∈ks,w.heap.size≤e.1
section
variable {w wx wy:World} {B:Nat} {sa:OA} {len cap:Nat} {size:Int} {ks:List (Nat × List Value)}
theorem DB.draw(h:DB w B sa len cap size ks wx)(hs:iT wy B sa len cap size)(hg:wx.grownBy wy (some B)):DB w B sa len cap size ks wy :=
 ⟨h.dr.draw hs hg,fun e he=>(h.k e he).grown (h.z e he) hg (by have:=h.n e he;have:=h.dr.hB;simp;omega),h.z,h.n⟩
theorem DB.below(h:DB w B sa len cap size ks wx)(hb:Below wx.heap.size wx wy):DB w B sa len cap size ks wy :=
 ⟨h.dr.below hb,fun e he=>(h.k e he).kept (h.z e he) hb,h.z,h.n⟩
theorem DB.push(h:DB w B sa len cap size ks wx)(vs:List Value)(hv:0 < vs.length)(T:TypeId):DB w B sa len cap size ((wx.heap.size,vs)::ks) (wx.alloc (.cells vs.toArray T)):=by
 have h2:=h.below ((Below.refl wx.heap.size wx).alloc lR (.cells vs.toArray T));refine⟨h2.dr,fun e he=>?_,fun e he=>?_,fun e he=>?_⟩
 ·rcases TW.1 he with rfl | he
  ·exact aA.new wx vs T
  ·exact h2.k e he
 ·rcases TW.1 he with rfl | he
  ·exact hv
  ·exact h.z e he
 ·rcases TW.1 he with rfl | he
  ·exact h.dr.le
  ·exact h.n e he
theorem DB.at{X:Nat}{l:List Value}(h:DB w B sa len cap size ks wx)(hm:(X,l)∈ks):aA wx X l:=h.k _ hm
theorem DB.set{X:Nat}{vs vs':List Value}(h:DB w B sa len cap size ((X,vs)::ks) wx)(j:Nat)(v:Value)(hv:vs.set j v=vs')(hne:∀e∈ks,e.1≠X):DB w B sa len cap size ((X,vs')::ks) (wx.setCell ⟨X,j,none⟩ v):=by
 subst hv;refine⟨h.dr.set X j v (h.n _ (List.mem_cons_self ..)),fun e he=>?_,fun e he=>?_,fun e he=>?_⟩
 ·rcases TW.1 he with rfl | he
  ·exact(h.k _ (List.mem_cons_self ..)).set j v
  ·exact(h.k e (List.mem_cons_of_mem _ he)).setOther (hne e he) v
 ·rcases TW.1 he with rfl | he
  ·have:=h.z _ (List.mem_cons_self ..);simpa using this
  ·exact h.z e (List.mem_cons_of_mem _ he)
 ·rcases TW.1 he with rfl | he
  ·exact h.n (X,vs) (List.mem_cons_self ..)
  ·exact h.n e (List.mem_cons_of_mem _ he)
theorem DB.tail{e:Nat × List Value}(h:DB w B sa len cap size (e::ks) wx):DB w B sa len cap size ks wx:=⟨h.dr,fun x hx=>h.k x (List.mem_cons_of_mem _ hx),fun x hx=>h.z x (List.mem_cons_of_mem _ hx),fun x hx=>h.n x (List.mem_cons_of_mem _ hx)⟩
theorem DB.swap{e f:Nat × List Value}(h:DB w B sa len cap size (e::f::ks) wx):DB w B sa len cap size (f::e::ks) wx :=
 ⟨h.dr,fun x hx=>h.k x (by simp at hx ⊢;rcases hx with h|h|h<;>simp[h]),fun x hx=>h.z x (by simp at hx ⊢;rcases hx with h|h|h<;>simp[h]),fun x hx=>h.n x (by simp at hx ⊢;rcases hx with h|h|h<;>simp[h])⟩
theorem DB.sub{ks':List (Nat × List Value)}(h:DB w B sa len cap size ks wx)(hs:∀e∈ks',e∈ks):DB w B sa len cap size ks' wx:=⟨h.dr,fun e he=>h.k e (hs e he),fun e he=>h.z e (hs e he),fun e he=>h.n e (hs e he)⟩
theorem DB.lts(h:DB w B sa len cap size ks wx):∀e∈ks,e.1 < wx.heap.size:=fun e he=>(h.k e he).lt (h.z e he)
end
def QD(n:Nat):Value→World→Prop:=fun v _=>∃k:Nat,v=iV k∧k < n
theorem NI{B n:Nat}:cU (EB B) (QD n):=fun _ _ _ h _=>h
def uY(n:Int):Prop:=-3000000000≤n∧n≤3000000000
def vG(q:Bd):Prop:=q.inn.size≤1000∧q.out.size≤1000∧uY q.UU∧uY q.UW∧uY q.UX
def LI(s:Ss):Prop:=s.inn.size≤1000∧s.peer.size≤1000∧uY s.UU∧uY s.UW∧uY s.UV
def nM(x:Bb):Prop:=x.VC.length≤100∧x.UZ.length≤100∧(∀q∈x.VC,vG q)∧∀s∈x.UZ,LI s
def pB(t:Tc):Prop:=t.addr.size≤1000∧t.peer.size≤1000∧uY t.UU
theorem vT{n:Int}(h:uY n):gO n:=by unfold uY at h;unfold gO;constructor<;>omega
theorem vG.good{q:Bd}(h:vG q):fJ q:=⟨by have:=h.1;omega,by have:=h.2.1;omega,vT h.2.2.1,vT h.2.2.2.1,vT h.2.2.2.2⟩
theorem LI.good{s:Ss}(h:LI s):iM s:=⟨by have:=h.1;omega,by have:=h.2.1;omega,vT h.2.2.1,vT h.2.2.2.1⟩
theorem tX(B:Nat)(a:OA)(len cap:Nat)(size:Int)(w:World)(hl:len≤1048576)(hs:iT w B a len cap size) :
  Calls Tryz.prog 95 #[.pointer (some ⟨B,0,none⟩)] w fun e w'=>∃r,e=.returned (iV r)∧iT w' B a len cap size∧w.grownBy w' (some B):=by
 have D0:Hid (Dr w B a len cap size w):=Dr.start hs;clear hs;go_enter Tryz.func95,Tryz.ntmps95
 go_wp2_with fail
 refine(bO 12 B a len cap size _ (by omega) hl D0.out.src).mono ?_;rintro e w1 ⟨c,rfl,hs,hg⟩;have D1:Hid (Dr w B a len cap size w1):=D0.out.draw hs hg;clear hs hg D0
 cases c with
 | true=>
  go_wp2_with fail
  refine(sC B a len cap size _ hl D1.out.src).mono ?_;rintro e w2 ⟨r2,rfl,-,hs,hg⟩;have D2:Hid (Dr w B a len cap size w2):=D1.out.draw hs hg;clear hs hg D1;have D3:Hid (Dr w B a len cap size (w2.alloc (.cells #[iV (-1),iV 65536,iV r2] 2))):=D2.out.alloc _;have hB2:B < w2.heap.size:=UM D2.out.hB D2.out.le;go_wp2_with fail
  refine(aT 3 B a len cap size _ (by omega) (by omega) hl D3.out.src).mono ?_;rintro e w4 ⟨r,rfl,r0,r1,hs2,hg2⟩;obtain⟨k,rfl⟩:=TZ r0;obtain⟨y,hcell,hy⟩:=pT (k:=k) [-1,65536,r2] hg2 hB2 (by simp;omega);have r1':(k:Int) < 3:=by omega
  have D4:Hid (Dr w B a len cap size w4):=D3.out.draw hs2 hg2;clear hs2 hg2 r0 r1 D3 D2 hy;go_wp2_with fail
  go_ret;exact⟨y,rfl,D4.out.src,D4.out.grown⟩
 | false=>
  go_wp2_with fail
  refine(aT 65536 B a len cap size _ (by omega) (by omega) hl D1.out.src).mono ?_;rintro e w2 ⟨r2,rfl,lo2,hi2,hs,hg⟩;have D2:Hid (Dr w B a len cap size w2):=D1.out.draw hs hg;clear hs hg D1;go_wp2_with fail
  refine(aT 65536 B a len cap size _ (by omega) (by omega) hl D2.out.src).mono ?_;rintro e w3 ⟨r3,rfl,lo3,hi3,hs,hg⟩;have D3:Hid (Dr w B a len cap size w3):=D2.out.draw hs hg;clear hs hg D2;have D4:Hid (Dr w B a len cap size (w3.alloc (.cells #[iV 0,iV 1,iV 255,iV 256,iV 65534,iV 65535,iV r2,iV r3] 2))):=D3.out.alloc _;have hB2:B < w3.heap.size:=UM D3.out.hB D3.out.le;go_wp2_with fail
  refine(aT 8 B a len cap size _ (by omega) (by omega) hl D4.out.src).mono ?_;rintro e w5 ⟨r,rfl,r0,r1,hs2,hg2⟩;obtain⟨k,rfl⟩:=TZ r0;obtain⟨y,hcell,hy⟩:=pT (k:=k) [0,1,255,256,65534,65535,r2,r3] hg2 hB2 (by simp;omega);have r1':(k:Int) < 8:=by omega
  have D5:Hid (Dr w B a len cap size w5):=D4.out.draw hs2 hg2;clear hs2 hg2 r0 r1 D4 D3 hy;go_wp2_with fail
  go_ret;exact⟨y,rfl,D5.out.src,D5.out.grown⟩
theorem PE{n:Int}(h:jS n=true):uY n:=by have:=eD h;unfold uY;omega
theorem MV{n:Int}(h:eP n=true):uY n:=by
 unfold eP at h;simp only[UK,TU]at h;unfold uY;rcases h with (h|h)|h<;>omega
theorem JJ{s:BA}(h:cI s=true):s.size≤16:=by
 unfold cI at h;simp at h;omega
theorem yV{a b:BA}(h:a.toList=b.toList):a.size=b.size:=by rw[zG h]
theorem OB{p:Pl}{ys:List Bd}{c:Bd}(hp:cT p=true)(hd:pH p)(h:cG p ys c=true):vG c:=by
 unfold cG at h;simp only[TP]at h;obtain⟨⟨⟨⟨⟨h1,h2⟩,h3⟩,h4⟩,h5⟩,-⟩:=h;have hz:=JJ h2;have ho:c.out.size≤4:=by
  unfold nL at h4;obtain⟨s,hs,e⟩:=List.any_eq_true.1 h4;have:=yV (of_decide_eq_true e);have:=hd.2.2 s hs;omega
 unfold cT at hp;simp only[TP,TU]at hp;have h5':=eD h5;exact⟨by omega,by omega,MV h1,PE h3,by unfold uY;omega⟩
theorem oAA{p:Pl}{x:Bb}(h:nN p x)(hd:pH p)(h1:x.VC.length≤100)(h2:x.UZ.length≤100):nM x:=by
 have hb:∀q∈x.VC,vG q:=fun q hq=>by
  obtain⟨i,hi,rfl⟩:=UN hq;exact OB h.pool hd (h.bind i hi)
 refine⟨h1,h2,hb,fun s hs=>?_⟩;obtain⟨c,hc,ho⟩:=List.any_eq_true.1 (h.has s hs);have hcd:=hb c hc;have hv:=h.UZ s hs;unfold sR at hv;simp only[TP,TU]at hv;unfold cD at ho;simp only[TP,TU]at ho;have hi:=yV ho.1.2;exact⟨by have:=hcd.1;omega,by have:=hv.1.1.1.1;omega,ho.1.1 ▸ hcd.2.2.1,ho.2 ▸ hcd.2.2.2.1,PE hv.1.1.1.2⟩
def LB(p:Pl)(n:Nat)(x:Bb):Prop:=(x=NR∨nN p x)∧x.VC.length≤n∧x.UZ.length≤n
theorem LB.dr{p:Pl}{n:Nat}{x:Bb}(h:LB p n x)(hd:pH p)(hn:n≤100):nM x:=by
 rcases h.1 with rfl|h1
 ·exact⟨by decide,by decide,fun q hq=>by simp[NR]at hq,fun q hq=>by simp[NR]at hq⟩
 ·exact oAA h1 hd (by have:=h.2.1;omega) (by have:=h.2.2;omega)
theorem LB.ne{p:Pl}{n:Nat}{x:Bb}(h:LB p n x):x.VC≠[]→x.UZ≠[]:=fun hb hs=>by
 rcases h.1 with rfl|h1
 ·exact hb rfl
 ·obtain⟨c,l,e⟩:=List.exists_cons_of_ne_nil hb;have:=h1.all c (by rw[e];simp);rw[hs]at this;simp at this
theorem LB.touch{p:Pl}{n:Nat}{x:Bb}{t:Tc}{now:Int}(h:LB p n x)(hc:(dB p x t now).code=0):LB p (n+1) (dB p x t now).bib:=by
 unfold dB at hc ⊢;by_cases hk:(fS p x&&bS now&&bY t)=true
 ·rw[if_pos hk]at hc ⊢;simp only[TP]at hk;have hg:=OI p x t now;have h1:=h.2.1;have h2:=h.2.2;exact⟨.inr (sE (jB.1 hk.1.1) hk.1.2 hk.2 hc).1,by omega,by omega⟩
 ·rw[if_neg hk]at hc;simp[lB]at hc
end Go.Proofs.YtdkepkaflielhaaGreatDoor
