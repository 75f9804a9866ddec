import Derived.Test.YtdkepkaflielhaaGreatDoorMerged16
set_option linter.unusedVariables false
set_option linter.unusedSimpArgs false
set_option maxRecDepth 100000
set_option maxHeartbeats 8000000
namespace Go.Proofs.YtdkepkaflielhaaGreatDoor
open Go.RowKit Go.PlainAid
def XPl (n B:Nat):Value→World→Prop:=fun v w=>∃ (g k:Nat) (h mo fi:Int) (l:Lv),v=.agg #[.slice (some ⟨g,0,none⟩) k 2,iV 1000,iV h,iV mo,iV fi,iV l.udp,iV l.echo,iV l.opening,iV l.opn,iV l.closing]∧1≤k∧k≤2∧n≤g∧g≠B∧HoldsL w g [.string ⟨#[203,0,113,1]⟩,.string ⟨#[203,0,113,2]⟩]
theorem st_XPl (n B:Nat):StableX (EB B) (XPl n B):=fun v w w' ⟨g,k,h,mo,fi,l,h1,h2,h3,h4,h5,h6⟩ he=>⟨g,k,h,mo,fi,l,h1,h2,h3,h4,h5,EB.holds he h6 (by simp) h5⟩
theorem drawPool_any (B:Nat) (sa:Option Addr) (len cap:Nat) (size:Int) (w:World) (hl:len≤1048576) (hs:Src w B sa len cap size) :
  Calls Tryz.prog 88 #[.pointer (some ⟨B,0,none⟩)] w fun e w'=>∃ pa pc p,e=.returned (plC pa pc p)∧PlDr p∧p.addrs.length≤pc∧SlIs strL1 1 w' pa p.addrs∧(∀ g o,pa=some ⟨g,o,none⟩→w.heap.size≤g)∧Src w' B sa len cap size∧w.grownBy w' (some B):=by
 have hBW:B < w.heap.size:=(Dr.start hs).hB;have O0:Hid (HoldsL (w.alloc (.cells Z10V.toArray 27)) w.heap.size plZ0):=HoldsL.new w plZ0 _;have D0:Hid (Dr w B sa len cap size (w.alloc (.cells Z10V.toArray 27))):=(Dr.start hs).alloc _;clear hs;go_enter Tryz.func88,Tryz.ntmps88
 go_upto_region 1 with fail
 have hRW:w.heap.size < (w.alloc (.cells Z10V.toArray 27)).heap.size:=O0.out.lt (by simp [plZ0]);generalize (w.alloc (.cells Z10V.toArray 27))=W at *;go_cut [3] (fun v wx=>∃ X pa pc p,v=.pointer (some ⟨X,0,none⟩)∧PS w B sa len cap size w.heap.size X pa pc p wx∧p.addrs.length≤2)
 case first =>
  rename_i J K2 hJ hK2;refine wp_region_growXV (EB B) (fun wx=>Dr w B sa len cap size wx∧HoldsL wx w.heap.size plZ0∧W.heap.size≤wx.heap.size) [4,5,6,7,8,9,10,11,12,13,14,15,16,17,18,19,3] (by kernel_rfl) (by kernel_rfl) (⟨D0.out.below bR.drew,O0.out.drew,Nat.le_refl _⟩) ?_;refine XChV.rel (n:=0) (XNew W.drew.heap.size B [.string ⟨#[203,0,113,1]⟩,.string ⟨#[203,0,113,2]⟩]) (st_XNew (by simp)) [XNew W.drew.heap.size B [.string ⟨#[203,0,113,1]⟩,.string ⟨#[203,0,113,2]⟩]] rfl rfl ?_ ?_
  ·intro K' a wy ho hd hI hK;rw [wN rfl];clear hd ho;go_simp;exact hK _ _ ⟨wy.heap.size,rfl,hI.2.2,by have:=hI.1.le; omega,HoldsL.new wy [.string ⟨#[203,0,113,1]⟩,.string ⟨#[203,0,113,2]⟩] _⟩ (EB.of (bR.alloc lR _)) ⟨hI.1.alloc _,hI.2.1.alloc _,by simp; omega⟩
  (apply XChV.u xQ rfl;(·intro K' a wy ho hd hI hK;simp [rAt,IsV,slot,Region.binds] at ho hd;go_simp;(try go_bits);exact hK _ rfl);dsimp only [nA,cA])
  refine XChV.rel (n:=2) (XR 0 1) (st_XR _ _ _) [_,_,XR 0 1] rfl rfl ?_ ?_
  ·intro K' a wy ho hd hI hK;rw [wN rfl];have q1:=hd ⟨1,.data⟩ (by simp) rfl;simp [rAt,IsV,slot] at q1;clear hd ho;go_simp;refine (drawN_any 2 B sa len cap size wy (by omega) hl hI.1.src).mono ?_;rintro e wz ⟨r,rfl,h0,h1,hsz,hgz⟩;exact hK _ _ ⟨r,rfl,by omega,by omega⟩ hgz ⟨hI.1.draw hsz hgz,hI.2.1.grown (by simp [plZ0]) hgz (by simp; omega),Nat.le_trans hI.2.2 hgz.size⟩
  refine XChV.rel (n:=3) (XR 1 2) (st_XR _ _ _) [_,_,_,XR 1 2] rfl rfl ?_ ?_
  ·intro K' a wy ho hd hI hK;rw [wN rfl];obtain ⟨r2,e2,l2,u2⟩ : XR 0 1 (slot a 6) wy:=hd ⟨2,.data⟩ (by simp) rfl;simp [slot] at e2;clear hd ho;have hw:IntKind.i64.wrap (1+r2)=1+r2:=by rw [IntKind.wrap_i64]; omega
   go_simp;exact hK _ _ ⟨1+r2,rfl,by omega,by omega⟩ (EB.of bR) hI
  refine XChV.rel (n:=4) (XCut W.drew.heap.size B [.string ⟨#[203,0,113,1]⟩,.string ⟨#[203,0,113,2]⟩]) (st_XCut (by simp)) [_,_,_,_,XCut W.drew.heap.size B [.string ⟨#[203,0,113,1]⟩,.string ⟨#[203,0,113,2]⟩]] rfl rfl ?_ ?_
  ·intro K' a wy ho hd hI hK;rw [wN rfl];obtain ⟨g0,e0,n0,nb0,c0⟩ : XNew W.drew.heap.size B [.string ⟨#[203,0,113,1]⟩,.string ⟨#[203,0,113,2]⟩] (slot a 4) wy:=hd ⟨0,.data⟩ (by simp) rfl;simp [slot] at e0;obtain ⟨r3,e3,l3,u3⟩ : XR 1 2 (slot a 7) wy:=hd ⟨3,.data⟩ (by simp) rfl;simp [slot] at e3;clear hd ho;obtain ⟨kk,hkk⟩:=Int.eq_ofNat_of_zero_le (a:=r3) (by omega);subst hkk;have i0:(kk:Int)≤2:=by omega
   have i1:¬ (kk:Int) < 0:=by omega
   go_simp;exact hK _ _ ⟨g0,kk,rfl,by omega,by simp; omega,n0,nb0,c0⟩ (EB.of bR) hI
  (apply XChV.u xQ rfl;(·intro K' a wy ho hd hI hK;simp [rAt,IsV,slot,Region.binds] at ho hd;go_simp;(try go_bits);exact hK _ rfl);dsimp only [nA,cA])
  refine XChV.rel (n:=6) (XR 0 5) (st_XR _ _ _) [_,_,_,_,_,_,XR 0 5] rfl rfl ?_ ?_
  ·intro K' a wy ho hd hI hK;rw [wN rfl];have q5:=hd ⟨5,.data⟩ (by simp) rfl;simp [rAt,IsV,slot] at q5;clear hd ho;go_simp;refine (drawN_any 6 B sa len cap size wy (by omega) hl hI.1.src).mono ?_;rintro e wz ⟨r,rfl,h0,h1,hsz,hgz⟩;exact hK _ _ ⟨r,rfl,by omega,by omega⟩ hgz ⟨hI.1.draw hsz hgz,hI.2.1.grown (by simp [plZ0]) hgz (by simp; omega),Nat.le_trans hI.2.2 hgz.size⟩
  refine XChV.rel (n:=7) (XR 1000 1005) (st_XR _ _ _) [_,_,_,_,_,_,_,XR 1000 1005] rfl rfl ?_ ?_
  ·intro K' a wy ho hd hI hK;rw [wN rfl];obtain ⟨r6,e6,l6,u6⟩ : XR 0 5 (slot a 10) wy:=hd ⟨6,.data⟩ (by simp) rfl;simp [slot] at e6;clear hd ho;have hw:IntKind.i64.wrap (1000+r6)=1000+r6:=by rw [IntKind.wrap_i64]; omega
   go_simp;exact hK _ _ ⟨1000+r6,rfl,by omega,by omega⟩ (EB.of bR) hI
  (apply XChV.u xQ rfl;(·intro K' a wy ho hd hI hK;simp [rAt,IsV,slot,Region.binds] at ho hd;go_simp;(try go_bits);exact hK _ rfl);dsimp only [nA,cA])
  refine XChV.rel (n:=9) (XR 0 7) (st_XR _ _ _) [_,_,_,_,_,_,_,_,_,XR 0 7] rfl rfl ?_ ?_
  ·intro K' a wy ho hd hI hK;rw [wN rfl];have q8:=hd ⟨8,.data⟩ (by simp) rfl;simp [rAt,IsV,slot] at q8;clear hd ho;go_simp;refine (drawN_any 8 B sa len cap size wy (by omega) hl hI.1.src).mono ?_;rintro e wz ⟨r,rfl,h0,h1,hsz,hgz⟩;exact hK _ _ ⟨r,rfl,by omega,by omega⟩ hgz ⟨hI.1.draw hsz hgz,hI.2.1.grown (by simp [plZ0]) hgz (by simp; omega),Nat.le_trans hI.2.2 hgz.size⟩
  refine XChV.rel (n:=10) (XR 2 9) (st_XR _ _ _) [_,_,_,_,_,_,_,_,_,_,XR 2 9] rfl rfl ?_ ?_
  ·intro K' a wy ho hd hI hK;rw [wN rfl];obtain ⟨r9,e9,l9,u9⟩ : XR 0 7 (slot a 13) wy:=hd ⟨9,.data⟩ (by simp) rfl;simp [slot] at e9;clear hd ho;have hw:IntKind.i64.wrap (2+r9)=2+r9:=by rw [IntKind.wrap_i64]; omega
   go_simp;exact hK _ _ ⟨2+r9,rfl,by omega,by omega⟩ (EB.of bR) hI
  (apply XChV.u xQ rfl;(·intro K' a wy ho hd hI hK;simp [rAt,IsV,slot,Region.binds] at ho hd;go_simp;(try go_bits);exact hK _ rfl);dsimp only [nA,cA])
  refine XChV.rel (n:=12) (XR 0 2) (st_XR _ _ _) [_,_,_,_,_,_,_,_,_,_,_,_,XR 0 2] rfl rfl ?_ ?_
  ·intro K' a wy ho hd hI hK;rw [wN rfl];have q11:=hd ⟨11,.data⟩ (by simp) rfl;simp [rAt,IsV,slot] at q11;clear hd ho;go_simp;refine (drawN_any 3 B sa len cap size wy (by omega) hl hI.1.src).mono ?_;rintro e wz ⟨r,rfl,h0,h1,hsz,hgz⟩;exact hK _ _ ⟨r,rfl,by omega,by omega⟩ hgz ⟨hI.1.draw hsz hgz,hI.2.1.grown (by simp [plZ0]) hgz (by simp; omega),Nat.le_trans hI.2.2 hgz.size⟩
  (apply XChV.u xQ rfl;(·intro K' a wy ho hd hI hK;simp [rAt,IsV,slot,Region.binds] at ho hd;go_simp;(try go_bits);exact hK _ rfl);dsimp only [nA,cA])
  refine XChV.rel (n:=14) (XLv) (st_XLv) [_,_,_,_,_,_,_,_,_,_,_,_,_,_,XLv] rfl rfl ?_ ?_
  ·intro K' a wy ho hd hI hK;rw [wN rfl];have q13:=hd ⟨13,.data⟩ (by simp) rfl;simp [rAt,IsV,slot] at q13;clear hd ho;go_simp;refine (drawLives_any B sa len cap size wy hl hI.1.src).mono ?_;rintro e wz ⟨l,rfl,hd,hsz,hgz⟩;exact hK _ _ ⟨l,rfl,hd⟩ hgz ⟨hI.1.draw hsz hgz,hI.2.1.grown (by simp [plZ0]) hgz (by simp; omega),Nat.le_trans hI.2.2 hgz.size⟩
  refine XChV.rel (n:=15) (XPl W.drew.heap.size B) (st_XPl _ _) [_,_,_,_,_,_,_,_,_,_,_,_,_,_,_,XPl W.drew.heap.size B] rfl rfl ?_ ?_
  ·intro K' a wy ho hd hI hK;rw [wN rfl];obtain ⟨g4,k4,e4,l4,u4,n4,nb4,c4⟩ : XCut W.drew.heap.size B [.string ⟨#[203,0,113,1]⟩,.string ⟨#[203,0,113,2]⟩] (slot a 8) wy:=hd ⟨4,.data⟩ (by simp) rfl;simp [slot] at e4;obtain ⟨r7,e7,l7,u7⟩ : XR 1000 1005 (slot a 11) wy:=hd ⟨7,.data⟩ (by simp) rfl;simp [slot] at e7;obtain ⟨r10,e10,l10,u10⟩ : XR 2 9 (slot a 14) wy:=hd ⟨10,.data⟩ (by simp) rfl;simp [slot] at e10;obtain ⟨r12,e12,l12,u12⟩ : XR 0 2 (slot a 16) wy:=hd ⟨12,.data⟩ (by simp) rfl;simp [slot] at e12;obtain ⟨l14,e14,d14⟩ : XLv (slot a 18) wy:=hd ⟨14,.data⟩ (by simp) rfl;simp [slot] at e14;clear hd ho;unfold lvC at e14;go_simp;exact hK _ _ ⟨g4,k4,r7,r10,r12,l14,rfl,l4,by simpa using u4,n4,nb4,c4⟩ (EB.of bR) hI
  refine XChV.rel (n:=16) (XBox W.drew.heap.size B plZ0) (st_XBox (by simp [plZ0])) [_,_,_,_,_,_,_,_,_,_,_,_,_,_,_,_,XBox W.drew.heap.size B plZ0] rfl rfl ?_ ?_
  ·intro K' a wy ho hd hI hK;rw [wN rfl];clear hd ho;go_simp;exact hK _ _ ⟨wy.heap.size,rfl,hI.2.2,by have:=hI.1.le; omega,HoldsL.new wy plZ0 _⟩ (EB.of (bR.alloc lR _)) ⟨hI.1.alloc _,hI.2.1.alloc _,by simp; omega⟩
  intro X wz hR hI;obtain ⟨x0,x1,x2,x3,x4,x5,x6,x7,x8,x9,x10,x11,x12,x13,x14,x15,x16,-⟩:=hR;obtain ⟨g,k,h,mo,fi,l,e15,hk1,hk2,hgn,hgB,hgc⟩:=x15;obtain ⟨X,e16,hXn,hXB,hXc⟩:=x16;simp only [IsV] at x1 x5 x8 x11 x13;simp only [putsFrom,putsFrom,x1,putsFrom,putsFrom,putsFrom,x5,putsFrom,putsFrom,x8,putsFrom,putsFrom,x11,putsFrom,x13,putsFrom,e15,e16];clear x1 x5 x8 x11 x13;have hn:W.heap.size≤g:=hgn;have hXn':W.heap.size≤X:=hXn;have hgX:g≠X:=box_txt hgc hXc;have hXR:X≠w.heap.size:=by omega
  have z0:=hXc.cell (j:=0) rfl;have zf0:=hXc.free (j:=0) (by simp [plZ0]);have z1:=hXc.cell (j:=1) rfl;have zf1:=hXc.free (j:=1) (by simp [plZ0]);have z2:=hXc.cell (j:=2) rfl;have zf2:=hXc.free (j:=2) (by simp [plZ0]);have z3:=hXc.cell (j:=3) rfl;have zf3:=hXc.free (j:=3) (by simp [plZ0]);have z4:=hXc.cell (j:=4) rfl;have zf4:=hXc.free (j:=4) (by simp [plZ0]);have z5:=hXc.cell (j:=5) rfl;have zf5:=hXc.free (j:=5) (by simp [plZ0]);have z6:=hXc.cell (j:=6) rfl;have zf6:=hXc.free (j:=6) (by simp [plZ0]);have z7:=hXc.cell (j:=7) rfl;have zf7:=hXc.free (j:=7) (by simp [plZ0]);have z8:=hXc.cell (j:=8) rfl;have zf8:=hXc.free (j:=8) (by simp [plZ0]);have z9:=hXc.cell (j:=9) rfl;have zf9:=hXc.free (j:=9) (by simp [plZ0]);have HC:Hid (HoldsL ((sW (sW (sW (sW (sW (sW (sW (sW (sW wz X 0 (.slice (some ⟨g,0,none⟩) k 2)) X 1 (iV 1000)) X 2 (iV h)) X 3 (iV mo)) X 4 (iV fi)) X 5 (iV l.udp)) X 6 (iV l.echo)) X 7 (iV l.opening)) X 8 (iV l.opn)).setCell ⟨X,9,none⟩ (iV l.closing)) g [.string ⟨#[203,0,113,1]⟩,.string ⟨#[203,0,113,2]⟩]):=(HoldsL.setOther (HoldsL.setOther (HoldsL.setOther (HoldsL.setOther (HoldsL.setOther (HoldsL.setOther (HoldsL.setOther (HoldsL.setOther (HoldsL.setOther (HoldsL.setOther hgc hgX (.slice (some ⟨g,0,none⟩) k 2)) hgX (iV 1000)) hgX (iV h)) hgX (iV mo)) hgX (iV fi)) hgX (iV l.udp)) hgX (iV l.echo)) hgX (iV l.opening)) hgX (iV l.opn)) hgX (iV l.closing));have HP:Hid (PS w B sa len cap size w.heap.size X (some ⟨g,0,none⟩) 2 ⟨([⟨#[203,0,113,1]⟩,⟨#[203,0,113,2]⟩]:List ByteArray).take k,1000,h,mo,fi,l⟩ ((sW (sW (sW (sW (sW (sW (sW (sW (sW wz X 0 (.slice (some ⟨g,0,none⟩) k 2)) X 1 (iV 1000)) X 2 (iV h)) X 3 (iV mo)) X 4 (iV fi)) X 5 (iV l.udp)) X 6 (iV l.echo)) X 7 (iV l.opening)) X 8 (iV l.opn)).setCell ⟨X,9,none⟩ (iV l.closing))):=by
   have hlk:(([⟨#[203,0,113,1]⟩,⟨#[203,0,113,2]⟩]:List ByteArray).take k).length=k:=by simp; omega
   refine ⟨((((((((((hI.1.set X 0 (.slice (some ⟨g,0,none⟩) k 2) (by omega)).set X 1 (iV 1000) (by omega)).set X 2 (iV h) (by omega)).set X 3 (iV mo) (by omega)).set X 4 (iV fi) (by omega)).set X 5 (iV l.udp) (by omega)).set X 6 (iV l.echo) (by omega)).set X 7 (iV l.opening) (by omega)).set X 8 (iV l.opn) (by omega)).set X 9 (iV l.closing) (by omega)),(HoldsL.setOther (HoldsL.setOther (HoldsL.setOther (HoldsL.setOther (HoldsL.setOther (HoldsL.setOther (HoldsL.setOther (HoldsL.setOther (HoldsL.setOther (HoldsL.setOther hI.2.1 hXR.symm (.slice (some ⟨g,0,none⟩) k 2)) hXR.symm (iV 1000)) hXR.symm (iV h)) hXR.symm (iV mo)) hXR.symm (iV fi)) hXR.symm (iV l.udp)) hXR.symm (iV l.echo)) hXR.symm (iV l.opening)) hXR.symm (iV l.opn)) hXR.symm (iV l.closing)),?_,⟨by rw [hlk]; exact hk1,by rw [hlk]; omega,fun s hs=>?_⟩,by rw [hlk]; exact hk2,holds_strs [⟨#[203,0,113,1]⟩,⟨#[203,0,113,2]⟩] k (by simpa using hk2) HC.out (by simp),fun g' o e=>?_,by omega,Nat.le_refl _,hXR⟩
   ·have hb:=((((((((((hXc.set 0 (.slice (some ⟨g,0,none⟩) k 2)).set 1 (iV 1000)).set 2 (iV h)).set 3 (iV mo)).set 4 (iV fi)).set 5 (iV l.udp)).set 6 (iV l.echo)).set 7 (iV l.opening)).set 8 (iV l.opn)).set 9 (iV l.closing));unfold plL;rw [hlk];exact hb
   ·have:=List.mem_of_mem_take hs;simp at this;rcases this with rfl | rfl<;>decide
   ·injection e with e
    injection e with e _
    omega
  clear HC hgc hXc hI;intro K5 hK5;go_simp;refine hK5 _ _ ?_;show Exit.then _ _ _ _ _;refine hK2 _ _ (hJ _ _ ?_);(repeat apply Exists.intro)
  exact ⟨⟨X,_,_,_,rfl,HP.out,by simp; omega⟩,rfl⟩
 case rest =>
 obtain ⟨PX,pa,pc,p,rfl,hS,hp2⟩:=hcut;have S1:Hid (PS w B sa len cap size w.heap.size PX pa pc p wc):=hS;clear hS D0 O0;generalize wc=W1 at *;go_wp2_with fail
 refine (drawOne_any 2 B sa len cap size _ (by omega) hl S1.out.dr.src).mono ?_;rintro e W2 ⟨c2,rfl,hs,hg⟩;have S2:Hid (PS w B sa len cap size w.heap.size PX pa pc p W2):=S1.out.draw hs hg;clear hs hg S1;go_upto_if 21 with fail
 go_cut [] (fun wx=>∃ p,PS w B sa len cap size w.heap.size PX pa pc p wx∧p.addrs.length≤2)
 case first =>
  cases c2 with
  | false =>
   go_wp2_with fail
   go_meet;exact ⟨p,S2.out,hp2⟩
  | true =>
   have HHp:HoldsL W2 PX (PlV pa pc p):=S2.out.box;have p2:=HHp.cell (j:=2) rfl;have pf2:=HHp.free (j:=2) (by simp);clear HHp;have S3:Hid _:=S2.out.set 2 (iV 1100) { p with high:=1100 } rfl rfl;go_wp2_with fail
   go_meet;exact ⟨_,S3.out,hp2⟩
 case rest =>
 obtain ⟨q,hS,hq2⟩:=hcut;have S4:Hid (PS w B sa len cap size w.heap.size PX pa pc q wc):=hS;clear hS S2;generalize wc=W4 at *;go_wp2_with fail
 refine (drawOne_any 25 B sa len cap size _ (by omega) hl S4.out.dr.src).mono ?_;rintro e W5 ⟨c5,rfl,hs,hg⟩;have S5:Hid (PS w B sa len cap size w.heap.size PX pa pc q W5):=S4.out.draw hs hg;clear hs hg S4;go_upto_if 24 with fail
 go_cut [] (fun wx=>∃ pa pc q,PS w B sa len cap size w.heap.size PX pa pc q wx)
 case first =>
  cases c5 with
  | false =>
   go_wp2_with fail
   go_meet;exact ⟨_,_,q,S5.out⟩
  | true =>
   go_wp2_with fail
   refine (drawN_more 5 B sa len cap size _ (by omega) (by omega) hl S5.out.dr.src).mono ?_;rintro e W6 ⟨r5,rfl,lo5,hi5,hs,hg⟩;have S6:Hid (PS w B sa len cap size w.heap.size PX pa pc q W6):=S5.out.draw hs hg;clear hs hg S5;by_cases d0:r5=0
   case pos =>
    subst d0;clear lo5 hi5;obtain ⟨gp,op,hpa,hgp,-⟩:=S6.out.sl.at (k:=0) (by have:=S6.out.ok.1; omega);subst hpa;have hq0:0 < q.addrs.length:=by have:=S6.out.ok.1; omega
    have hq0I:(0:Int) < (q.addrs.length:Int):=by omega
    have hqn:q.addrs≠[]:=fun e=>by rw [e] at hq0; simp at hq0
    have hq3:q.addrs.length≤3:=S6.out.ok.2.1;have hql:q.addrs.length≤1048576:=by omega
    obtain ⟨s0,hs⟩ : ∃ s,s=q.addrs[0]:=⟨_,rfl⟩;have hz0:s0.size≤4:=by rw [hs]; exact S6.out.ok.2.2 _ (List.getElem_mem _)
    have HS0:Hid (s0=q.addrs[0]):=hs;clear hs;have hle6:w.heap.size≤W6.heap.size:=S6.out.dr.le;have hB6:B < W6.drew.heap.size:=Nat.lt_of_lt_of_le S6.out.dr.hB hle6;have hX6:PX < W6.heap.size:=S6.out.box.lt (by simp [plL]);have hR6:w.heap.size < W6.heap.size:=S6.out.out.lt (by simp [plZ0]);have HQZ:Hid (∀ s∈q.addrs,s.size≤4):=S6.out.ok.2.2;go_upto_region 8 with fail
    refine wp_region_growXV (EB B) (fun wx=>PS w B sa len cap size w.heap.size PX (some ⟨gp,op,none⟩) pc q wx∧W6.heap.size≤wx.heap.size) [35,36,37,38,39,40,41,42,43,44,45,46,47,48] (by kernel_rfl) (by kernel_rfl) (⟨S6.out.below bR.drew,Nat.le_refl _⟩) ?_;refine XChV.rel (n:=0) (XNo W6.drew.heap.size 9) (st_XNo hB6) [XNo W6.drew.heap.size 9] rfl rfl ?_ ?_
    ·intro K' a wy ho hd hI hK;rw [wN rfl];clear hd ho;go_simp;exact hK _ _ ⟨wy.heap.size,rfl,World.ownsRow_made wy #[] 0 hI.2 (by unfold maxLen; omega) rfl⟩ (EB.of (bR.alloc lR _)) ⟨hI.1.alloc _,by simp; omega⟩
    (apply XChV.u xQ rfl;(·intro K' a wy ho hd hI hK;simp [rAt,IsV,slot,Region.binds] at ho hd;go_simp;(try go_bits);exact hK _ rfl);dsimp only [nA,cA])
    refine XChV.val (n:=2) (fun v=>[_,_,IsV v]) (fun _=>rfl) rfl ?_;apply Exists.intro;refine And.intro ?_ ?_
    ·intro K' a wy ho hd hI hK;rw [wN rfl];have q1:=hd ⟨1,.data⟩ (by simp) rfl;simp [rAt,IsV,slot] at q1;clear hd ho;have p0:=hI.1.box.cell (j:=0) rfl;obtain ⟨g9,o9,e9,_,hat⟩:=hI.1.sl.at hq0;injection e9 with e9
     injection e9 with e91 e92
     subst e91 e92;have hs0:wy.cell? ⟨gp,op,none⟩=some (.string s0):=by
      have h:=hat 0 hq0 0 _ rfl;rw [← HS0.out] at h;simpa using h
     go_simp;try go_bits
     exact hK _ _ rfl (EB.of bR) hI
    refine XChV.rel (n:=3) (XRw W6.drew.heap.size 9 q.addrs) (st_XRw hB6) [_,_,_,XRw W6.drew.heap.size 9 q.addrs] rfl rfl ?_ ?_
    ·intro K' a wy ho hd hI hK;rw [wN rfl];obtain ⟨g0,e0,r0⟩ : XNo W6.drew.heap.size 9 (slot a 35) wy:=hd ⟨0,.data⟩ (by simp) rfl;simp [slot] at e0;have q2:=hd ⟨2,.data⟩ (by simp) rfl;simp [rAt,IsV,slot] at q2;clear hd ho;obtain ⟨v2,w2,hrun,h22,h23⟩:=copyStr_all (ty:=23) (cap:=pc) (g0:=g0) hI.1.sl hqn hql hI.2;refine wp_append_run (.tmp 35) (.tmp 37) _ rfl ?_ ?_ hrun (hK _ _ h22 (EB.of h23) ⟨hI.1.below h23,Nat.le_trans hI.2 h23.size⟩)
     ·simpa [Act.eval] using e0
     ·simpa [Act.eval] using q2
    (apply XChV.u xQ rfl;(·intro K' a wy ho hd hI hK;simp [rAt,IsV,slot,Region.binds] at ho hd;go_simp;(try go_bits);exact hK _ rfl);dsimp only [nA,cA])
    refine XChV.val (n:=5) (fun v=>[_,_,_,_,_,IsV v]) (fun _=>rfl) rfl ?_;apply Exists.intro;refine And.intro ?_ ?_
    ·intro K' a wy ho hd hI hK;rw [wN rfl];have q4:=hd ⟨4,.data⟩ (by simp) rfl;simp [rAt,IsV,slot] at q4;clear hd ho;have p0:=hI.1.box.cell (j:=0) rfl;obtain ⟨g9,o9,e9,_,hat⟩:=hI.1.sl.at hq0;injection e9 with e9
     injection e9 with e91 e92
     subst e91 e92;have hs0:wy.cell? ⟨gp,op,none⟩=some (.string s0):=by
      have h:=hat 0 hq0 0 _ rfl;rw [← HS0.out] at h;simpa using h
     go_simp;try go_bits
     exact hK _ _ rfl (EB.of bR) hI
    (apply XChV.u xQ rfl;(·intro K' a wy ho hd hI hK;simp [rAt,IsV,slot,Region.binds] at ho hd;go_simp;(try go_bits);exact hK _ rfl);dsimp only [nA,cA])
    refine XChV.val (n:=7) (fun v=>[_,_,_,_,_,_,_,IsV v]) (fun _=>rfl) rfl ?_;apply Exists.intro;refine And.intro ?_ ?_
    ·intro K' a wy ho hd hI hK;rw [wN rfl];have q6:=hd ⟨6,.data⟩ (by simp) rfl;simp [rAt,IsV,slot] at q6;clear hd ho;have p0:=hI.1.box.cell (j:=0) rfl;obtain ⟨g9,o9,e9,_,hat⟩:=hI.1.sl.at hq0;injection e9 with e9
     injection e9 with e91 e92
     subst e91 e92;have hs0:wy.cell? ⟨gp,op,none⟩=some (.string s0):=by
      have h:=hat 0 hq0 0 _ rfl;rw [← HS0.out] at h;simpa using h
     go_simp;try go_bits
     exact hK _ _ rfl (EB.of bR) hI
    refine XChV.rel (n:=8) (XNew W6.drew.heap.size B [.string s0,.string ⟨#[97,98,99]⟩]) (st_XNew (by simp)) [_,_,_,_,_,_,_,_,XNew W6.drew.heap.size B [.string s0,.string ⟨#[97,98,99]⟩]] rfl rfl ?_ ?_
    ·intro K' a wy ho hd hI hK;rw [wN rfl];have q7:=hd ⟨7,.data⟩ (by simp) rfl;simp [rAt,IsV,slot] at q7;clear hd ho;go_simp;exact hK _ _ ⟨wy.heap.size,rfl,hI.2,by have:=hI.1.dr.le; have:=hI.1.dr.hB; omega,HoldsL.new wy [.string s0,.string ⟨#[97,98,99]⟩] _⟩ (EB.of (bR.alloc lR _)) ⟨hI.1.alloc _,by simp; omega⟩
    (apply XChV.u xQ rfl;(·intro K' a wy ho hd hI hK;simp [rAt,IsV,slot,Region.binds] at ho hd;go_simp;(try go_bits);exact hK _ rfl);dsimp only [nA,cA])
    refine XChV.rel (n:=10) (XR 0 1) (st_XR _ _ _) [_,_,_,_,_,_,_,_,_,_,XR 0 1] rfl rfl ?_ ?_
    ·intro K' a wy ho hd hI hK;rw [wN rfl];have q9:=hd ⟨9,.data⟩ (by simp) rfl;simp [rAt,IsV,slot] at q9;clear hd ho;go_simp;refine (drawN_any 2 B sa len cap size wy (by omega) hl hI.1.dr.src).mono ?_;rintro e wz ⟨r,rfl,h0,h1,hsz,hgz⟩;exact hK _ _ ⟨r,rfl,by omega,by omega⟩ hgz ⟨hI.1.draw hsz hgz,Nat.le_trans hI.2 hgz.size⟩
    refine XChV.rel (n:=11) (XAt B 4) (st_XAt) [_,_,_,_,_,_,_,_,_,_,_,XAt B 4] rfl rfl ?_ ?_
    ·intro K' a wy ho hd hI hK;rw [wN rfl];obtain ⟨g8,e8,n8,nb8,c8⟩ : XNew W6.drew.heap.size B [.string s0,.string ⟨#[97,98,99]⟩] (slot a 43) wy:=hd ⟨8,.data⟩ (by simp) rfl;simp [slot] at e8;obtain ⟨r10,e10,l10,u10⟩ : XR 0 1 (slot a 45) wy:=hd ⟨10,.data⟩ (by simp) rfl;simp [slot] at e10;clear hd ho;obtain ⟨kk,hkk⟩:=Int.eq_ofNat_of_zero_le (a:=r10) (by omega);subst hkk;have i0:(kk:Int) < 2:=by omega
     obtain ⟨ss,hss,hzz⟩ : ∃ ss,wy.cell? ⟨g8,kk,none⟩=some (.string ss)∧ss.size≤4:=by
      have hk2:kk=0∨kk=1:=by omega
      rcases hk2 with rfl | rfl
      ·exact ⟨s0,c8.cell rfl,hz0⟩
      ·exact ⟨⟨#[97,98,99]⟩,c8.cell rfl,by decide⟩
     go_simp;exact hK _ _ ⟨g8,kk,ss,rfl,nb8,hss,hzz⟩ (EB.of bR) hI
    refine XChV.rel (n:=12) (XTxt 4) (st_XTxt) [_,_,_,_,_,_,_,_,_,_,_,_,XTxt 4] rfl rfl ?_ ?_
    ·intro K' a wy ho hd hI hK;rw [wN rfl];obtain ⟨b11,k11,s11,e11,nb11,c11,z11⟩ : XAt B 4 (slot a 46) wy:=hd ⟨11,.data⟩ (by simp) rfl;simp [slot] at e11;clear hd ho;have p0:=hI.1.box.cell (j:=0) rfl;obtain ⟨g9,o9,e9,_,hat⟩:=hI.1.sl.at hq0;injection e9 with e9
     injection e9 with e91 e92
     subst e91 e92;have hs0:wy.cell? ⟨gp,op,none⟩=some (.string s0):=by
      have h:=hat 0 hq0 0 _ rfl;rw [← HS0.out] at h;simpa using h
     go_simp;exact hK _ _ ⟨s11,rfl,z11⟩ (EB.of bR) hI
    refine XChV.rel (n:=13) (XOneT B 4) (st_XOneT) [_,_,_,_,_,_,_,_,_,_,_,_,_,XOneT B 4] rfl rfl ?_ ?_
    ·intro K' a wy ho hd hI hK;rw [wN rfl];obtain ⟨s12,e12,z12⟩ : XTxt 4 (slot a 47) wy:=hd ⟨12,.data⟩ (by simp) rfl;simp [slot] at e12;clear hd ho;go_simp;exact hK _ _ ⟨wy.heap.size,s12,rfl,by have:=hI.1.dr.le; have:=hI.1.dr.hB; omega,z12,HoldsL.new wy [.string s12] _⟩ (EB.of (bR.alloc lR _)) ⟨hI.1.alloc _,by simp; omega⟩
    intro X wz hR hI;obtain ⟨x0,x1,x2,x3,x4,x5,x6,x7,x8,x9,x10,x11,x12,x13,-⟩:=hR;have r3:=x3;obtain ⟨g13,s13,e13,nb13,z13,c13⟩:=x13;simp only [IsV] at x1 x2 x4 x5 x6 x7 x9;simp only [putsFrom,putsFrom,x1,x2,putsFrom,x4,x5,x6,x7,putsFrom,x9,putsFrom,putsFrom,putsFrom,e13];clear x1 x2 x4 x5 x6 x7 x9;obtain ⟨i0,hi,hi0,hi1,hi2⟩:=info_parts Tryz.infoTx;obtain ⟨a3,c3,e3,hc3,-⟩:=(Row.shape strL1_length (w0:=wz) ⟨r3,Below.refl _ _⟩ : ∃ a' cap,X 3=.slice a' q.addrs.length cap∧q.addrs.length≤cap∧SlOwn strL1 1 W6.drew.heap.size wz a' q.addrs);unfold XRw at r3;rw [e3] at r3;obtain ⟨v6,w6,hrun,h62,h63,-,-⟩:=run_append_own_at (P:=Tryz.prog) wz W6.drew.heap.size 23 23 9 i0 _ 1 _ Tryz.underlying23 hi hi0 hi1 hi2 rfl (by decide) _ _ _ r3 ⟨g13,0,none⟩ 1 1 [.string s13] rfl (fun i u hu=>by rw [add_at]; exact c13.cell hu) (fun u hu=>by simp at hu; subst hu; rfl) (by unfold maxLen; omega) (by omega) hI.2;have hown:w6.ownsRow W6.drew.heap.size 9 1 v6 (q.addrs++[s13]).length (flatS strL1 (q.addrs++[s13])):=by rw [flatS_snoc,List.length_append]; exact h62
    obtain ⟨a6,c6,e6,hc6,hs6⟩:=(Row.shape strL1_length (w0:=w6) ⟨hown,Below.refl _ _⟩ : ∃ a' cap,v6=.slice a' (q.addrs++[s13]).length cap∧(q.addrs++[s13]).length≤cap∧SlOwn strL1 1 W6.drew.heap.size w6 a' (q.addrs++[s13]));subst e6;have P6:=hI.1.row h63 W6.heap.size (fun k e=>(ownC_in r3 e).1) hle6 hX6 hR6 (fun g o e=>by injection e with e; injection e with e1 _; omega);have hall:∀ s∈q.addrs++[s13],s.size≤4:=fun s hs=>by
     rcases List.mem_append.1 hs with h | h
     ·exact HQZ.out s h
     ·simp at h; subst h; exact z13
    have hokp:PlDr { q with addrs:=q.addrs++[s13] }:=⟨by simp,by simp; omega,hall⟩;have hfar:∀ g o,a6=some ⟨g,o,none⟩→w.heap.size≤g∧g≠PX∧g≠w.heap.size:=fun g o e=>by
     have h9:=(ownC_in hown (g:=g) (by rw [e]; rfl)).1;have h8:W6.heap.size≤g:=h9;exact ⟨by omega,by omega,by omega⟩
    obtain ⟨ln,hln⟩ : ∃ n,n=(q.addrs++[s13]).length:=⟨_,rfl⟩;have HP:Hid (PS w B sa len cap size w.heap.size PX a6 c6 { q with addrs:=q.addrs++[s13] } (w6.setCell ⟨PX,0,none⟩ (.slice a6 ln c6))):=by unfold Hid; rw [hln]; exact P6.setA a6 c6 (q.addrs++[s13]) hokp hc6 hs6.is hfar
    rw [← hln] at hrun;clear hln;have HRUN:Hid _:=hrun;have p1:=P6.box.cell (j:=0) rfl;have p2:=P6.box.free (j:=0) (by simp [plL]);clear hrun hown hs6 P6 r3 c13 hI hall hokp hfar h62 h63;simp only [e3,e13];simp only [List.length_cons,List.length_nil,List.drop_succ_cons,List.drop_zero,Nat.zero_add,Nat.reduceAdd];intro K5 hK5;with_reducible refine wp_append_run (.tmp 38) (.tmp 48) _ rfl ?_ ?_ HRUN.out (hK5 _ _ ?_)
    ·simp [Act.eval,Act.put]
    ·simp [Act.eval,Act.put]
    intro K6 hK6;go_simp;refine hK6 _ _ ?_;intro K7 hK7;go_simp;refine hK7 _ _ ?_;simp only [wpSeq];go_wp2_with fail
    go_meet;exact ⟨_,_,_,HP.out⟩
   have b0:(r5==0)=false:=by simp [d0]
   by_cases d1:r5=1
   case pos =>
    subst d1;clear lo5 hi5;have A6:Hid (PS w B sa len cap size w.heap.size PX pa pc q (W6.alloc (.cells #[iV 0,iV 1,iV 65535,iV 65536] 2))):=S6.out.alloc _;have hB6:B < W6.heap.size:=Nat.lt_of_lt_of_le S6.out.dr.hB S6.out.dr.le;go_wp2_with fail
    refine (drawN_more 4 B sa len cap size _ (by omega) (by omega) hl A6.out.dr.src).mono ?_;rintro e W7 ⟨r,rfl,r0,r1,hs2,hg2⟩;obtain ⟨k,rfl⟩:=Int.eq_ofNat_of_zero_le r0;obtain ⟨y,hcell,hy⟩:=pickI (k:=k) [0,1,65535,65536] hg2 hB6 (by simp; omega);have r1':(k:Int) < 4:=by omega
    have S7:Hid (PS w B sa len cap size w.heap.size PX pa pc q W7):=A6.out.draw hs2 hg2;clear hs2 hg2 r0 r1 A6 S6 hy;have HHp:HoldsL W7 PX (PlV pa pc q):=S7.out.box;have p1:=HHp.cell (j:=1) rfl;have pf1:=HHp.free (j:=1) (by simp);clear HHp;have S8:Hid _:=S7.out.set 1 (iV y) { q with low:=y } rfl rfl;clear S7;go_wp2_with fail
    go_meet;exact ⟨_,_,_,S8.out⟩
   have b1:(r5==1)=false:=by simp [d1]
   by_cases d2:r5=2
   case pos =>
    subst d2;clear lo5 hi5;have A6:Hid (PS w B sa len cap size w.heap.size PX pa pc q (W6.alloc (.cells #[iV 0,iV 60,iV 61] 2))):=S6.out.alloc _;have hB6:B < W6.heap.size:=Nat.lt_of_lt_of_le S6.out.dr.hB S6.out.dr.le;go_wp2_with fail
    refine (drawN_more 3 B sa len cap size _ (by omega) (by omega) hl A6.out.dr.src).mono ?_;rintro e W7 ⟨r,rfl,r0,r1,hs2,hg2⟩;obtain ⟨k,rfl⟩:=Int.eq_ofNat_of_zero_le r0;obtain ⟨y,hcell,hy⟩:=pickI (k:=k) [0,60,61] hg2 hB6 (by simp; omega);have r1':(k:Int) < 3:=by omega
    have S7:Hid (PS w B sa len cap size w.heap.size PX pa pc q W7):=A6.out.draw hs2 hg2;clear hs2 hg2 r0 r1 A6 S6 hy;have HHp:HoldsL W7 PX (PlV pa pc q):=S7.out.box;have p3:=HHp.cell (j:=3) rfl;have pf3:=HHp.free (j:=3) (by simp);clear HHp;have S8:Hid _:=S7.out.set 3 (iV y) { q with most:=y } rfl rfl;clear S7;go_wp2_with fail
    go_meet;exact ⟨_,_,_,S8.out⟩
   have b2:(r5==2)=false:=by simp [d2]
   by_cases d3:r5=3
   case pos =>
    subst d3;clear lo5 hi5;have A6:Hid (PS w B sa len cap size w.heap.size PX pa pc q (W6.alloc (.cells #[iV (-1),iV 3] 2))):=S6.out.alloc _;have hB6:B < W6.heap.size:=Nat.lt_of_lt_of_le S6.out.dr.hB S6.out.dr.le;go_wp2_with fail
    refine (drawN_more 2 B sa len cap size _ (by omega) (by omega) hl A6.out.dr.src).mono ?_;rintro e W7 ⟨r,rfl,r0,r1,hs2,hg2⟩;obtain ⟨k,rfl⟩:=Int.eq_ofNat_of_zero_le r0;obtain ⟨y,hcell,hy⟩:=pickI (k:=k) [(-1),3] hg2 hB6 (by simp; omega);have r1':(k:Int) < 2:=by omega
    have S7:Hid (PS w B sa len cap size w.heap.size PX pa pc q W7):=A6.out.draw hs2 hg2;clear hs2 hg2 r0 r1 A6 S6 hy;have HHp:HoldsL W7 PX (PlV pa pc q):=S7.out.box;have p4:=HHp.cell (j:=4) rfl;have pf4:=HHp.free (j:=4) (by simp);clear HHp;have S8:Hid _:=S7.out.set 4 (iV y) { q with filter:=y } rfl rfl;clear S7;go_wp2_with fail
    go_meet;exact ⟨_,_,_,S8.out⟩
   have b3:(r5==3)=false:=by simp [d3]
   have A6:Hid (PS w B sa len cap size w.heap.size PX pa pc q (W6.alloc (.cells #[iV 65535,iV 65536,iV 999] 2))):=S6.out.alloc _;have hB6:B < W6.heap.size:=Nat.lt_of_lt_of_le S6.out.dr.hB S6.out.dr.le;go_wp2_with fail
   refine (drawN_more 3 B sa len cap size _ (by omega) (by omega) hl A6.out.dr.src).mono ?_;rintro e W7 ⟨r,rfl,r0,r1,hs2,hg2⟩;obtain ⟨k,rfl⟩:=Int.eq_ofNat_of_zero_le r0;obtain ⟨y,hcell,hy⟩:=pickI (k:=k) [65535,65536,999] hg2 hB6 (by simp; omega);have r1':(k:Int) < 3:=by omega
   have S7:Hid (PS w B sa len cap size w.heap.size PX pa pc q W7):=A6.out.draw hs2 hg2;clear hs2 hg2 r0 r1 A6 S6 hy;have HHp:HoldsL W7 PX (PlV pa pc q):=S7.out.box;have p2:=HHp.cell (j:=2) rfl;have pf2:=HHp.free (j:=2) (by simp);clear HHp;have S8:Hid _:=S7.out.set 2 (iV y) { q with high:=y } rfl rfl;clear S7;go_wp2_with fail
   go_meet;exact ⟨_,_,_,S8.out⟩
 case rest =>
 obtain ⟨pa',pc',q',hS⟩:=hcut;have S9:Hid (PS w B sa len cap size w.heap.size PX pa' pc' q' wc):=hS;clear hS S5;generalize wc=W9 at *;have HHp:HoldsL W9 PX (PlV pa' pc' q'):=S9.out.box;obtain ⟨p0,p1,p2,p3,p4,p5,p6,p7,p8,p9⟩:=HHp.c10;clear HHp;have HHz:HoldsL W9 w.heap.size Z10V:=S9.out.out;obtain ⟨z0,z1,z2,z3,z4,z5,z6,z7,z8,z9⟩:=HHz.c10;obtain ⟨zf0,zf1,zf2,zf3,zf4,zf5,zf6,zf7,zf8,zf9⟩:=HHz.f10;have HRR:Hid (HoldsL ((sW (sW (sW (sW (sW (sW (sW (sW (sW W9 w.heap.size 0 (.slice pa' q'.addrs.length pc')) w.heap.size 1 (iV q'.low)) w.heap.size 2 (iV q'.high)) w.heap.size 3 (iV q'.most)) w.heap.size 4 (iV q'.filter)) w.heap.size 5 (iV q'.lv.udp)) w.heap.size 6 (iV q'.lv.echo)) w.heap.size 7 (iV q'.lv.opening)) w.heap.size 8 (iV q'.lv.opn)).setCell ⟨w.heap.size,9,none⟩ (iV q'.lv.closing)) w.heap.size (PlV pa' pc' q')):=((((((((((HHz.set 0 (.slice pa' q'.addrs.length pc')).set 1 (iV q'.low)).set 2 (iV q'.high)).set 3 (iV q'.most)).set 4 (iV q'.filter)).set 5 (iV q'.lv.udp)).set 6 (iV q'.lv.echo)).set 7 (iV q'.lv.opening)).set 8 (iV q'.lv.opn)).set 9 (iV q'.lv.closing));have DD:Hid (Dr w B sa len cap size ((sW (sW (sW (sW (sW (sW (sW (sW (sW W9 w.heap.size 0 (.slice pa' q'.addrs.length pc')) w.heap.size 1 (iV q'.low)) w.heap.size 2 (iV q'.high)) w.heap.size 3 (iV q'.most)) w.heap.size 4 (iV q'.filter)) w.heap.size 5 (iV q'.lv.udp)) w.heap.size 6 (iV q'.lv.echo)) w.heap.size 7 (iV q'.lv.opening)) w.heap.size 8 (iV q'.lv.opn)).setCell ⟨w.heap.size,9,none⟩ (iV q'.lv.closing))):=((((((((((S9.out.dr.set w.heap.size 0 (.slice pa' q'.addrs.length pc') lR).set w.heap.size 1 (iV q'.low) lR).set w.heap.size 2 (iV q'.high) lR).set w.heap.size 3 (iV q'.most) lR).set w.heap.size 4 (iV q'.filter) lR).set w.heap.size 5 (iV q'.lv.udp) lR).set w.heap.size 6 (iV q'.lv.echo) lR).set w.heap.size 7 (iV q'.lv.opening) lR).set w.heap.size 8 (iV q'.lv.opn) lR).set w.heap.size 9 (iV q'.lv.closing) lR);have SS:Hid (SlIs strL1 1 ((sW (sW (sW (sW (sW (sW (sW (sW (sW W9 w.heap.size 0 (.slice pa' q'.addrs.length pc')) w.heap.size 1 (iV q'.low)) w.heap.size 2 (iV q'.high)) w.heap.size 3 (iV q'.most)) w.heap.size 4 (iV q'.filter)) w.heap.size 5 (iV q'.lv.udp)) w.heap.size 6 (iV q'.lv.echo)) w.heap.size 7 (iV q'.lv.opening)) w.heap.size 8 (iV q'.lv.opn)).setCell ⟨w.heap.size,9,none⟩ (iV q'.lv.closing)) pa' q'.addrs):=(SlIs.grown (SlIs.grown (SlIs.grown (SlIs.grown (SlIs.grown (SlIs.grown (SlIs.grown (SlIs.grown (SlIs.grown (SlIs.grown S9.out.sl (grown_cell _ w.heap.size 0 _) (.inr fun g o e=>(S9.out.far g o e).2.2)) (grown_cell _ w.heap.size 1 _) (.inr fun g o e=>(S9.out.far g o e).2.2)) (grown_cell _ w.heap.size 2 _) (.inr fun g o e=>(S9.out.far g o e).2.2)) (grown_cell _ w.heap.size 3 _) (.inr fun g o e=>(S9.out.far g o e).2.2)) (grown_cell _ w.heap.size 4 _) (.inr fun g o e=>(S9.out.far g o e).2.2)) (grown_cell _ w.heap.size 5 _) (.inr fun g o e=>(S9.out.far g o e).2.2)) (grown_cell _ w.heap.size 6 _) (.inr fun g o e=>(S9.out.far g o e).2.2)) (grown_cell _ w.heap.size 7 _) (.inr fun g o e=>(S9.out.far g o e).2.2)) (grown_cell _ w.heap.size 8 _) (.inr fun g o e=>(S9.out.far g o e).2.2)) (grown_cell _ w.heap.size 9 _) (.inr fun g o e=>(S9.out.far g o e).2.2))
 have OK:Hid (PlDr q'∧q'.addrs.length≤pc'∧∀ g o,pa'=some ⟨g,o,none⟩→w.heap.size≤g):=⟨S9.out.ok,S9.out.cap,fun g o e=>(S9.out.far g o e).1⟩;clear HHz S9;go_wp2_with fail
 exact bodyPost_ret (results_mid Tryz.results88 _ _ _ _ _ rfl HRR.out Tryz.underlying27 rfl (show (Tryz.prog.info? 27).map (·.size)=some 10 by kernel_rfl)) rfl ⟨pa',pc',q',rfl,OK.out.1,OK.out.2.1,SS.out,OK.out.2.2,DD.out.src,DD.out.grown⟩
def bytesOf (n:Nat) (f:Nat→Int):ByteArray:=⟨((List.range n).map fun i=>UInt8.ofNat (f i).toNat).toArray⟩
theorem bytesOf_size (n:Nat) (f:Nat→Int):(bytesOf n f).size=n:=by simp [bytesOf,ByteArray.size]
theorem bytesOf_bt {n:Nat} {f:Nat→Int} {i:Nat} (hi:i < n) (h0:0≤f i) (h1:f i≤255):bt (bytesOf n f) i=f i:=by
 have hs:=bytesOf_size n f;unfold bt;rw [dif_pos (by omega),ByteArray.getElem_eq_getElem_data];simp only [bytesOf,List.getElem_toArray,List.getElem_map,List.getElem_range,UInt8.toNat_ofNat'];omega
theorem ba_ext {a b:ByteArray} (hs:a.size=b.size) (h:∀ i,i < a.size→bt a i=bt b i):a=b:=by
 apply ByteArray.ext;apply Array.ext
 ·exact hs
 ·intro i h1 h2;have hi:=h i h1;unfold bt at hi;rw [dif_pos (show i < a.size from h1),dif_pos (show i < b.size from h2),ByteArray.getElem_eq_getElem_data,ByteArray.getElem_eq_getElem_data] at hi;exact UInt8.toNat_inj.1 (by exact_mod_cast hi)
structure Holds (w:World) (B n:Nat) (f:Nat→Int):Prop where
 get:∀ i,i < n→w.cell? ⟨B,i,none⟩=some (.int .u8 (f i))∧w.frozen? ⟨B,i,none⟩=false
theorem Holds.conv {w:World} {B n cap:Nat} {f:Nat→Int} (h:Holds w B n f) (hf:isByte f) :
  (convert 22 9 (.slice (some ⟨B,0,none⟩) n cap)).run Tryz.prog w=.ok (.string (bytesOf n f)) w:=by
 have hl:((List.range n).map fun i=>UInt8.ofNat (f i).toNat).length=n:=by simp
 have:=run_convert_bytes_back (P:=Tryz.prog) w 22 9 5 ⟨B,0,none⟩ cap ((List.range n).map fun i=>UInt8.ofNat (f i).toNat) Tryz.underlying22 Tryz.underlying5 Tryz.underlying9 (by
  intro j hj;have hj':j < n:=by simpa using hj
  have ha:Addr.add ⟨B,0,none⟩ j=⟨B,j,none⟩:=by simp only [Addr.add,Nat.zero_add]; split<;>simp_all
  rw [ha,(h.get j hj').1];have:=hf j;simp only [List.getElem_map,List.getElem_range,UInt8.toNat_ofNat'];congr 2; omega)
 rw [hl] at this;exact this
theorem bytes_new (w:World) (s:ByteArray):∃ cap W2,(convert 9 22 (.string s)).run Tryz.prog w=.ok (.slice (some ⟨w.heap.size,0,none⟩) s.size cap) W2∧Holds W2 w.heap.size s.size (bt s)∧Below w.heap.size w W2∧s.size≤cap:=by
 refine ⟨grownCap w s.size 0 5,_,run_bytes_of_string (P:=Tryz.prog) w 9 22 5 s Tryz.underlying9 Tryz.underlying22 Tryz.underlying5,?_,?_,?_⟩
 ·refine ⟨fun i hi=>?_⟩;have hz:(bytesRow s (grownCap w s.size 0 5)).size=s.size+(grownCap w s.size 0 5-s.size):=by unfold bytesRow; rw [Array.size_append,Array.size_map,Array.size_replicate]; rfl
  constructor
  ·refine (World.cell?_alloc_mark w.drew _ _ _ i).trans ?_;rw [bytesRow_at s _ i hi,← get_bt s i hi]; rfl
  ·refine (World.frozen?_alloc_mark w.drew _ _ _ _ i).trans ?_;simp; omega
 ·exact (Below.refl _ w).drew.alloc lR _
 ·exact grownCap_ge _ _ _ _
def In64 (r:Int):Prop:=-9223372036854775808≤r∧r≤9223372036854775807
theorem drawEdge_any (B:Nat) (a:Option Addr) (len cap:Nat) (size:Int) (w:World) (hl:len≤1048576) (hs:Src w B a len cap size) :
  Calls Tryz.prog 56 #[.pointer (some ⟨B,0,none⟩)] w fun e w'=>∃ r,e=.returned (iV r)∧In64 r∧Src w' B a len cap size∧w.grownBy w' (some B):=by
 have hB:B < w.heap.size:=by obtain ⟨_,_,_,h⟩:=hs; exact World.block_lt_of_cell? w _ h.cb
 have HS:Hid (Src w B a len cap size):=hs;clear hs;go_enter Tryz.func56,Tryz.ntmps56
 go_wp2_with fail
 refine (drawN_more 14 B a len cap size _ (by omega) (by omega) hl (HS.out.kept (World.grownBy_alloc _ _ none) (by simp))).mono ?_;rintro e w1 ⟨q,rfl,q0,q1,hs1,hg1⟩;obtain ⟨k,rfl⟩:=Int.eq_ofNat_of_zero_le q0;have hc:∃ r,w1.cell? ⟨w.heap.size,k,none⟩=some (iV r)∧In64 r:=by
  have hk:k < 14:=by omega
  match k,hk with
  | 0,_=>exact ⟨_,hg1.cell ((World.cell?_alloc_mark w _ _ _ 0).trans rfl) (by simp; omega),by unfold In64; omega⟩
  | 1,_=>exact ⟨_,hg1.cell ((World.cell?_alloc_mark w _ _ _ 1).trans rfl) (by simp; omega),by unfold In64; omega⟩
  | 2,_=>exact ⟨_,hg1.cell ((World.cell?_alloc_mark w _ _ _ 2).trans rfl) (by simp; omega),by unfold In64; omega⟩
  | 3,_=>exact ⟨_,hg1.cell ((World.cell?_alloc_mark w _ _ _ 3).trans rfl) (by simp; omega),by unfold In64; omega⟩
  | 4,_=>exact ⟨_,hg1.cell ((World.cell?_alloc_mark w _ _ _ 4).trans rfl) (by simp; omega),by unfold In64; omega⟩
  | 5,_=>exact ⟨_,hg1.cell ((World.cell?_alloc_mark w _ _ _ 5).trans rfl) (by simp; omega),by unfold In64; omega⟩
  | 6,_=>exact ⟨_,hg1.cell ((World.cell?_alloc_mark w _ _ _ 6).trans rfl) (by simp; omega),by unfold In64; omega⟩
  | 7,_=>exact ⟨_,hg1.cell ((World.cell?_alloc_mark w _ _ _ 7).trans rfl) (by simp; omega),by unfold In64; omega⟩
  | 8,_=>exact ⟨_,hg1.cell ((World.cell?_alloc_mark w _ _ _ 8).trans rfl) (by simp; omega),by unfold In64; omega⟩
  | 9,_=>exact ⟨_,hg1.cell ((World.cell?_alloc_mark w _ _ _ 9).trans rfl) (by simp; omega),by unfold In64; omega⟩
  | 10,_=>exact ⟨_,hg1.cell ((World.cell?_alloc_mark w _ _ _ 10).trans rfl) (by simp; omega),by unfold In64; omega⟩
  | 11,_=>exact ⟨_,hg1.cell ((World.cell?_alloc_mark w _ _ _ 11).trans rfl) (by simp; omega),by unfold In64; omega⟩
  | 12,_=>exact ⟨_,hg1.cell ((World.cell?_alloc_mark w _ _ _ 12).trans rfl) (by simp; omega),by unfold In64; omega⟩
  | 13,_=>exact ⟨_,hg1.cell ((World.cell?_alloc_mark w _ _ _ 13).trans rfl) (by simp; omega),by unfold In64; omega⟩
 obtain ⟨r,hc,hr⟩:=hc;have H1:Hid (In64 r∧Src w1 B a len cap size∧w.grownBy w1 (some B)):=⟨hr,hs1,grown_trans (World.grownBy_alloc _ _ _) hg1⟩;clear hr hs1 hg1;go_wp2
 go_ret;exact ⟨r,rfl,H1.out.1,H1.out.2.1,H1.out.2.2⟩
structure BoxP (w:World) (P:Nat) (s:ByteArray) (b:Int):Prop where
 c0:w.cell? ⟨P,0,none⟩=some (.string s)
 c1:w.cell? ⟨P,1,none⟩=some (iV b)
 f0:w.frozen? ⟨P,0,none⟩=false
 f1:w.frozen? ⟨P,1,none⟩=false
section
variable {w wx wy:World} {B P:Nat} {s:ByteArray} {b:Int} {a:Option Addr} {len cap:Nat} {size:Int}
end
structure DB (w:World) (B:Nat) (sa:Option Addr) (len cap:Nat) (size:Int) (ks:List (Nat × List Value)) (wx:World):Prop where
 dr:Dr w B sa len cap size wx
 k:∀ e∈ks,HoldsL wx e.1 e.2
 z:∀ e∈ks,0 < e.2.length
 n:∀ e∈ks,w.heap.size≤e.1
section
variable {w wx wy:World} {B:Nat} {sa:Option Addr} {len cap:Nat} {size:Int} {ks:List (Nat × List Value)}
theorem DB.draw (h:DB w B sa len cap size ks wx) (hs:Src wy B sa len cap size) (hg:wx.grownBy wy (some B)):DB w B sa len cap size ks wy :=
 ⟨h.dr.draw hs hg,fun e he=>(h.k e he).grown (h.z e he) hg (by have:=h.n e he; have:=h.dr.hB; simp; omega),h.z,h.n⟩
theorem DB.below (h:DB w B sa len cap size ks wx) (hb:Below wx.heap.size wx wy):DB w B sa len cap size ks wy :=
 ⟨h.dr.below hb,fun e he=>(h.k e he).kept (h.z e he) hb,h.z,h.n⟩
theorem DB.push (h:DB w B sa len cap size ks wx) (vs:List Value) (hv:0 < vs.length) (T:TypeId):DB w B sa len cap size ((wx.heap.size,vs)::ks) (wx.alloc (.cells vs.toArray T)):=by
 have h2:=h.below ((Below.refl wx.heap.size wx).alloc lR (.cells vs.toArray T));refine ⟨h2.dr,fun e he=>?_,fun e he=>?_,fun e he=>?_⟩
 ·rcases List.mem_cons.1 he with rfl | he
  ·exact HoldsL.new wx vs T
  ·exact h2.k e he
 ·rcases List.mem_cons.1 he with rfl | he
  ·exact hv
  ·exact h.z e he
 ·rcases List.mem_cons.1 he with rfl | he
  ·exact h.dr.le
  ·exact h.n e he
theorem DB.at {X:Nat} {l:List Value} (h:DB w B sa len cap size ks wx) (hm:(X,l)∈ks):HoldsL wx X l:=h.k _ hm
theorem DB.set {X:Nat} {vs vs':List Value} (h:DB w B sa len cap size ((X,vs)::ks) wx) (j:Nat) (v:Value) (hv:vs.set j v=vs') (hne:∀ e∈ks,e.1≠X):DB w B sa len cap size ((X,vs')::ks) (wx.setCell ⟨X,j,none⟩ v):=by
 subst hv;refine ⟨h.dr.set X j v (h.n _ (List.mem_cons_self ..)),fun e he=>?_,fun e he=>?_,fun e he=>?_⟩
 ·rcases List.mem_cons.1 he with rfl | he
  ·exact (h.k _ (List.mem_cons_self ..)).set j v
  ·exact (h.k e (List.mem_cons_of_mem _ he)).setOther (hne e he) v
 ·rcases List.mem_cons.1 he with rfl | he
  ·have:=h.z _ (List.mem_cons_self ..); simpa using this
  ·exact h.z e (List.mem_cons_of_mem _ he)
 ·rcases List.mem_cons.1 he with rfl | he
  ·exact h.n (X,vs) (List.mem_cons_self ..)
  ·exact h.n e (List.mem_cons_of_mem _ he)
theorem DB.tail {e:Nat × List Value} (h:DB w B sa len cap size (e::ks) wx):DB w B sa len cap size ks wx:=⟨h.dr,fun x hx=>h.k x (List.mem_cons_of_mem _ hx),fun x hx=>h.z x (List.mem_cons_of_mem _ hx),fun x hx=>h.n x (List.mem_cons_of_mem _ hx)⟩
theorem DB.swap {e f:Nat × List Value} (h:DB w B sa len cap size (e::f::ks) wx):DB w B sa len cap size (f::e::ks) wx :=
 ⟨h.dr,fun x hx=>h.k x (by simp at hx ⊢; rcases hx with h | h | h<;>simp [h]),fun x hx=>h.z x (by simp at hx ⊢; rcases hx with h | h | h<;>simp [h]),fun x hx=>h.n x (by simp at hx ⊢; rcases hx with h | h | h<;>simp [h])⟩
theorem DB.sub {ks':List (Nat × List Value)} (h:DB w B sa len cap size ks wx) (hs:∀ e∈ks',e∈ks):DB w B sa len cap size ks' wx:=⟨h.dr,fun e he=>h.k e (hs e he),fun e he=>h.z e (hs e he),fun e he=>h.n e (hs e he)⟩
theorem DB.lts (h:DB w B sa len cap size ks wx):∀ e∈ks,e.1 < wx.heap.size:=fun e he=>(h.k e he).lt (h.z e he)
end
def XIx (n:Nat):Value→World→Prop:=fun v _=>∃ k:Nat,v=iV k∧k < n
theorem st_XIx {B n:Nat}:StableX (EB B) (XIx n):=fun _ _ _ h _=>h
def inR (n:Int):Prop:=-3000000000≤n∧n≤3000000000
def BdDr (q:Bd):Prop:=q.inn.size≤1000∧q.out.size≤1000∧inR q.proto∧inR q.inPort∧inR q.outPort
def SsDr (s:Ss):Prop:=s.inn.size≤1000∧s.peer.size≤1000∧inR s.proto∧inR s.inPort∧inR s.peerPort
def BbDr (x:Bb):Prop:=x.binds.length≤100∧x.sess.length≤100∧(∀ q∈x.binds,BdDr q)∧∀ s∈x.sess,SsDr s
def TcDr (t:Tc):Prop:=t.addr.size≤1000∧t.peer.size≤1000∧inR t.proto
theorem inR_64 {n:Int} (h:inR n):In64t n:=by unfold inR at h; unfold In64t; constructor<;>omega
theorem BdDr.good {q:Bd} (h:BdDr q):BdGood q:=⟨by have:=h.1; omega,by have:=h.2.1; omega,inR_64 h.2.2.1,inR_64 h.2.2.2.1,inR_64 h.2.2.2.2⟩
theorem SsDr.good {s:Ss} (h:SsDr s):SsGood s:=⟨by have:=h.1; omega,by have:=h.2.1; omega,inR_64 h.2.2.1,inR_64 h.2.2.2.1⟩
theorem drawNum_any (B:Nat) (a:Option Addr) (len cap:Nat) (size:Int) (w:World) (hl:len≤1048576) (hs:Src w B a len cap size) :
  Calls Tryz.prog 95 #[.pointer (some ⟨B,0,none⟩)] w fun e w'=>∃ r,e=.returned (iV r)∧Src w' B a len cap size∧w.grownBy w' (some B):=by
 have D0:Hid (Dr w B a len cap size w):=Dr.start hs;clear hs;go_enter Tryz.func95,Tryz.ntmps95
 go_wp2_with fail
 refine (drawOne_any 12 B a len cap size _ (by omega) hl D0.out.src).mono ?_;rintro e w1 ⟨c,rfl,hs,hg⟩;have D1:Hid (Dr w B a len cap size w1):=D0.out.draw hs hg;clear hs hg D0
 cases c with
 | true =>
  go_wp2_with fail
  refine (drawEdge_any B a len cap size _ hl D1.out.src).mono ?_;rintro e w2 ⟨r2,rfl,-,hs,hg⟩;have D2:Hid (Dr w B a len cap size w2):=D1.out.draw hs hg;clear hs hg D1;have D3:Hid (Dr w B a len cap size (w2.alloc (.cells #[iV (-1),iV 65536,iV r2] 2))):=D2.out.alloc _;have hB2:B < w2.heap.size:=Nat.lt_of_lt_of_le D2.out.hB D2.out.le;go_wp2_with fail
  refine (drawN_more 3 B a len cap size _ (by omega) (by omega) hl D3.out.src).mono ?_;rintro e w4 ⟨r,rfl,r0,r1,hs2,hg2⟩;obtain ⟨k,rfl⟩:=Int.eq_ofNat_of_zero_le r0;obtain ⟨y,hcell,hy⟩:=pickI (k:=k) [-1,65536,r2] hg2 hB2 (by simp; omega);have r1':(k:Int) < 3:=by omega
  have D4:Hid (Dr w B a len cap size w4):=D3.out.draw hs2 hg2;clear hs2 hg2 r0 r1 D3 D2 hy;go_wp2_with fail
  go_ret;exact ⟨y,rfl,D4.out.src,D4.out.grown⟩
 | false =>
  go_wp2_with fail
  refine (drawN_more 65536 B a len cap size _ (by omega) (by omega) hl D1.out.src).mono ?_;rintro e w2 ⟨r2,rfl,lo2,hi2,hs,hg⟩;have D2:Hid (Dr w B a len cap size w2):=D1.out.draw hs hg;clear hs hg D1;go_wp2_with fail
  refine (drawN_more 65536 B a len cap size _ (by omega) (by omega) hl D2.out.src).mono ?_;rintro e w3 ⟨r3,rfl,lo3,hi3,hs,hg⟩;have D3:Hid (Dr w B a len cap size w3):=D2.out.draw hs hg;clear hs hg D2;have D4:Hid (Dr w B a len cap size (w3.alloc (.cells #[iV 0,iV 1,iV 255,iV 256,iV 65534,iV 65535,iV r2,iV r3] 2))):=D3.out.alloc _;have hB2:B < w3.heap.size:=Nat.lt_of_lt_of_le D3.out.hB D3.out.le;go_wp2_with fail
  refine (drawN_more 8 B a len cap size _ (by omega) (by omega) hl D4.out.src).mono ?_;rintro e w5 ⟨r,rfl,r0,r1,hs2,hg2⟩;obtain ⟨k,rfl⟩:=Int.eq_ofNat_of_zero_le r0;obtain ⟨y,hcell,hy⟩:=pickI (k:=k) [0,1,255,256,65534,65535,r2,r3] hg2 hB2 (by simp; omega);have r1':(k:Int) < 8:=by omega
  have D5:Hid (Dr w B a len cap size w5):=D4.out.draw hs2 hg2;clear hs2 hg2 r0 r1 D4 D3 hy;go_wp2_with fail
  go_ret;exact ⟨y,rfl,D5.out.src,D5.out.grown⟩
theorem isW_R {n:Int} (h:isW n=true):inR n:=by have:=isIn_parts h; unfold inR; omega
theorem protoB_R {n:Int} (h:protoB n=true):inR n:=by
 unfold protoB at h;simp only [Bool.or_eq_true,decide_eq_true_iff] at h;unfold inR;rcases h with (h | h) | h<;>omega
theorem addrOk_sz {s:ByteArray} (h:addrOk s=true):s.size≤16:=by
 unfold addrOk at h;simp at h;omega
theorem toList_sz {a b:ByteArray} (h:a.toList=b.toList):a.size=b.size:=by rw [baT_ext h]
theorem bind_dr {p:Pl} {ys:List Bd} {c:Bd} (hp:poolOk p=true) (hd:PlDr p) (h:bindOne p ys c=true):BdDr c:=by
 unfold bindOne at h;simp only [Bool.and_eq_true] at h;obtain ⟨⟨⟨⟨⟨h1,h2⟩,h3⟩,h4⟩,h5⟩,-⟩:=h;have hz:=addrOk_sz h2;have ho:c.out.size≤4:=by
  unfold inL at h4;obtain ⟨s,hs,e⟩:=List.any_eq_true.1 h4;have:=toList_sz (of_decide_eq_true e);have:=hd.2.2 s hs;omega
 unfold poolOk at hp;simp only [Bool.and_eq_true,decide_eq_true_iff] at hp;have h5':=isIn_parts h5;exact ⟨by omega,by omega,protoB_R h1,isW_R h3,by unfold inR; omega⟩
theorem bibR_dr {p:Pl} {x:Bb} (h:BibR p x) (hd:PlDr p) (h1:x.binds.length≤100) (h2:x.sess.length≤100):BbDr x:=by
 have hb:∀ q∈x.binds,BdDr q:=fun q hq=>by
  obtain ⟨i,hi,rfl⟩:=List.getElem_of_mem hq;exact bind_dr h.pool hd (h.bind i hi)
 refine ⟨h1,h2,hb,fun s hs=>?_⟩;obtain ⟨c,hc,ho⟩:=List.any_eq_true.1 (h.has s hs);have hcd:=hb c hc;have hv:=h.sess s hs;unfold sessV at hv;simp only [Bool.and_eq_true,decide_eq_true_iff] at hv;unfold ofIn at ho;simp only [Bool.and_eq_true,decide_eq_true_iff] at ho;have hi:=toList_sz ho.1.2;exact ⟨by have:=hcd.1; omega,by have:=hv.1.1.1.1; omega,ho.1.1 ▸ hcd.2.2.1,ho.2 ▸ hcd.2.2.2.1,isW_R hv.1.1.1.2⟩
def DrX (p:Pl) (n:Nat) (x:Bb):Prop:=(x=bbZ∨BibR p x)∧x.binds.length≤n∧x.sess.length≤n
theorem DrX.dr {p:Pl} {n:Nat} {x:Bb} (h:DrX p n x) (hd:PlDr p) (hn:n≤100):BbDr x:=by
 rcases h.1 with rfl | h1
 ·exact ⟨by decide,by decide,fun q hq=>by simp [bbZ] at hq,fun q hq=>by simp [bbZ] at hq⟩
 ·exact bibR_dr h1 hd (by have:=h.2.1; omega) (by have:=h.2.2; omega)
theorem DrX.ne {p:Pl} {n:Nat} {x:Bb} (h:DrX p n x):x.binds≠[]→x.sess≠[]:=fun hb hs=>by
 rcases h.1 with rfl | h1
 ·exact hb rfl
 ·obtain ⟨c,l,e⟩:=List.exists_cons_of_ne_nil hb;have:=h1.all c (by rw [e]; simp);rw [hs] at this;simp at this
theorem DrX.touch {p:Pl} {n:Nat} {x:Bb} {t:Tc} {now:Int} (h:DrX p n x) (hc:(bibTouchV p x t now).code=0):DrX p (n+1) (bibTouchV p x t now).bib:=by
 unfold bibTouchV at hc ⊢;by_cases hk:(bibOk p x&&isTime now&&touchOk t)=true
 ·rw [if_pos hk] at hc ⊢;simp only [Bool.and_eq_true] at hk;have hg:=goV_len p x t now;have h1:=h.2.1;have h2:=h.2.2;exact ⟨.inr (go_right (bibR_iff.1 hk.1.1) hk.1.2 hk.2 hc).1,by omega,by omega⟩
 ·rw [if_neg hk] at hc; simp [boE] at hc
end Go.Proofs.YtdkepkaflielhaaGreatDoor
